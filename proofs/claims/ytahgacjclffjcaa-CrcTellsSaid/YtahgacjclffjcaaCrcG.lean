/- CrcTables, CrcUpdates and CrcSums walked to their end: each answers true, over any world; no condition. -/
import Derived.Test.YtahgacjclffjcaaCrcF
import Derived.Test.YtahgacjclffjcaaL
namespace Go.Proofs.Ytahgacjclffjcaa
set_option linter.unusedVariables false
set_option linter.unusedSimpArgs false
open Go.RowKit

theorem down8_tab (i : Nat) (hi : i < 256) : (tabL 256).getD i 0 = (down8 i : Int) := by rw [tabL_get 256 i hi, if_pos hi]

set_option maxHeartbeats 4000000 in
set_option maxRecDepth 100000 in
theorem tables_walk (a b : Int) (w : World) (a0 : (Lit.int .u8 a).wf = true) (b0 : (Lit.int .u8 b).wf = true) :
    Calls Try.prog 3 #[.int .u8 a, .int .u8 b] w fun e w' => e = .returned (.bool true) ∧ Below w.heap.size w w' := by
  have ha := bounds_u8 a0
  have hb := bounds_u8 b0
  clear a0 b0
  obtain ⟨i, rfl⟩ : ∃ i : Nat, a = i := ⟨a.toNat, by omega⟩
  obtain ⟨j, rfl⟩ : ∃ j : Nat, b = j := ⟨b.toNat, by omega⟩
  have hi : i < 256 := by omega
  have hj : j < 256 := by omega
  obtain ⟨ha0, ha1⟩ := ha
  obtain ⟨hb0, hb1⟩ := hb
  have hk : i ^^^ j < 256 := Nat.xor_lt_two_pow (n := 8) hi hj
  have hx8 : bits .xor .u8 (i : Int) (j : Int) = ((i ^^^ j : Nat) : Int) := u8_xor_nat i j hi hj
  have hdi := down8_lt (show i < 4294967296 by omega)
  have hdj := down8_lt (show j < 4294967296 by omega)
  have hx32 : bits .xor .u32 (down8 i : Int) (down8 j : Int) = ((down8 (i ^^^ j) : Nat) : Int) := by rw [u32_xor_nat _ _ hdi hdj, down8_xor]
  have ti := down8_tab i hi
  have tj := down8_tab j hj
  have tk := down8_tab (i ^^^ j) hk
  have hbool : ∃ q : Bool, ((down8 i : Int) == (down8 j : Int)) = q ∧ ((i : Int) == (j : Int)) = q := by
    by_cases h : i = j
    · subst h; exact ⟨true, by simp, by simp⟩
    · refine ⟨false, ?_, by simp; omega⟩
      simp only [beq_eq_false_iff_ne]
      intro h2
      exact h (down8_inj (by omega) (by omega) (by omega))
  obtain ⟨q, hq1, hq2⟩ := hbool
  go_enter Try.func3, Try.ntmps3
  go_wp2_with fail
  refine (crcAlive_any _).mono ?_; rintro e w0 ⟨rfl, hw0⟩
  have HW0 := Lib.hid hw0; clear hw0
  go_wp2_with fail
  refine (table_any w0).mono ?_; rintro e w1 ⟨rfl, hw1⟩
  obtain ⟨hth, hin, ho, hb2, hcell⟩ := var_words w1 (tabL 256) (tabL_words 256)
  have ci := hcell i hi
  have cj := hcell j hj
  have ck := hcell (i ^^^ j) hk
  rw [ti] at ci
  rw [tj] at cj
  rw [tk] at ck
  have HW1 := Lib.hid ((HW0.out.trans (hw1.mono HW0.out.size)).trans (hb2.mono (Nat.le_trans HW0.out.size hw1.size)))
  have hsz : w1.heap.size < ((w1.alloc (.cells tz 24)).setCells w1.heap.size 0 ((tabL 256).map (Value.int .u32))).heap.size := by
    have h := cj
    rcases Nat.lt_or_ge w1.heap.size ((w1.alloc (.cells tz 24)).setCells w1.heap.size 0 ((tabL 256).map (Value.int .u32))).heap.size with h2 | h2
    · exact h2
    · simp [World.cell?, Array.getElem?_eq_none h2] at h
  have HZ := Lib.hid hsz
  clear hcell hw1 hb2 ti tj tk hsz
  have H1 := Lib.hid hth; have H2 := Lib.hid hin; have H3 := Lib.hid ho; clear hth hin ho
  generalize (tabL 256).map (Value.int .u32) = cs at *
  have CI := Lib.hid ci; have CJ := Lib.hid cj; have CK := Lib.hid ck
  clear ci cj ck
  have PE := fun W => refEntry_any i W hi
  generalize down8 i = di at *
  generalize down8 j = dj at *
  have HPE := Lib.hid PE; clear PE
  generalize hke : i ^^^ j = k at *
  clear hke
  have li : (i : Int) < 256 := by omega
  have lj : (j : Int) < 256 := by omega
  have lk : (k : Int) < 256 := by omega
  have lk0 : 0 ≤ (k : Int) := by omega
  have wi : IntKind.i64.wrap (i : Int) = (i : Int) := by rw [IntKind.wrap_i64]; omega
  generalize down8 k = dk at *
  go_wp2_with (refine wpList_store_mid (by rfl) _ _ _ (by rfl) w1.heap.size 0 cs.toArray (by rfl) (by rfl) H1.out H2.out H3.out ?_)
  generalize (w1.alloc (.cells tz 24)).setCells w1.heap.size 0 cs = W at *
  refine wp_region_noPanic ?_
  refine wp_region_held_drew (S := (fun wv => Below W.heap.size W wv)) (by kernel_rfl) ((Below.refl W.heap.size W).drew) (fun hS => ?_)
  refine wpAnyH_take (i := 0) (oi := ({ dst := some 9, op := Op.move (Operand.tmp 0), type := 5, pos := "law.go:21", after := #[], guard := none } : Oper)) (v := ?_) rfl (by kernel_rfl) (by kernel_rfl) (by kernel_rfl) (fun _ _ _ h => h) (Or.inl ⟨by rfl, ?_⟩) hS ?_
  rotate_left
  · intro wv _; go_simp; try with_reducible rfl
  try simp only [Act.put, List.setIfInBounds_toArray, List.set_cons_zero, List.set_cons_succ]
  refine wpAnyH_take (i := 1) (oi := ({ dst := some 10, op := Op.indexAddr 24 (Operand.tmp 5) (Operand.tmp 9), type := 0, pos := "law.go:21", after := #[{ on := 0, ground := Ground.data }], guard := none } : Oper)) (v := ?_) rfl (by kernel_rfl) (by kernel_rfl) (by kernel_rfl) (fun _ _ _ h => h) (Or.inl ⟨by rfl, ?_⟩) hS ?_
  rotate_left
  · intro wv _; go_simp; try with_reducible rfl
  try simp only [Act.put, List.setIfInBounds_toArray, List.set_cons_zero, List.set_cons_succ]
  refine wpAnyH_take (i := 2) (oi := ({ dst := some 11, op := Op.load 23 (Operand.tmp 10), type := 23, pos := "law.go:21", after := #[{ on := 1, ground := Ground.data }], guard := none } : Oper)) (v := ?_) rfl (by kernel_rfl) (by kernel_rfl) (by kernel_rfl) (fun _ _ _ h => h) (Or.inl ⟨by rfl, ?_⟩) hS ?_
  rotate_left
  · intro wv hS; have hrun := (hS.cell (p := ⟨w1.heap.size, i, none⟩) HZ.out).trans CI.out; go_simp; try with_reducible rfl
  try simp only [Act.put, List.setIfInBounds_toArray, List.set_cons_zero, List.set_cons_succ]
  refine wpAnyH_take (i := 3) (oi := ({ dst := some 12, op := Op.move (Operand.tmp 0), type := 5, pos := "law.go:21", after := #[], guard := none } : Oper)) (v := ?_) rfl (by kernel_rfl) (by kernel_rfl) (by kernel_rfl) (fun _ _ _ h => h) (Or.inl ⟨by rfl, ?_⟩) hS ?_
  rotate_left
  · intro wv _; go_simp; try with_reducible rfl
  try simp only [Act.put, List.setIfInBounds_toArray, List.set_cons_zero, List.set_cons_succ]
  refine wpAnyH_take (i := 4) (oi := ({ dst := some 13, op := Op.convert 5 3 (Operand.tmp 12), type := 3, pos := "law.go:21", after := #[{ on := 3, ground := Ground.data }], guard := none } : Oper)) (v := ?_) rfl (by kernel_rfl) (by kernel_rfl) (by kernel_rfl) (fun _ _ _ h => h) (Or.inl ⟨by rfl, ?_⟩) hS ?_
  rotate_left
  · intro wv _; go_simp; try with_reducible rfl
  try simp only [Act.put, List.setIfInBounds_toArray, List.set_cons_zero, List.set_cons_succ]
  refine wpAnyH_ready (rs := [5]) (by kernel_rfl) (by simp) (AllReadyH.cons (o := ({ dst := some 14, op := Op.call { callee := Callee.value (Operand.func 10), args := #[Operand.tmp 13], argTypes := #[3] }, type := 23, pos := "law.go:21", after := #[{ on := 4, ground := Ground.data }], guard := none } : Oper)) rfl (fun K hK => ?_) AllReadyH.nil)
  go_simp
  refine (HPE.out _).mono ?_; rintro e w' ⟨rfl, rfl⟩
  go_wp2_with fail
  refine Shut.out hK _ _ (by first | trivial | exact hS) (fun _ => ?_)
  clear hK K
  try simp only [Act.put, List.setIfInBounds_toArray, List.set_cons_zero, List.set_cons_succ]
  refine wpAnyH_take (i := 6) (oi := ({ dst := some 15, op := Op.binOp BinOp.eql 23 (Operand.tmp 11) (Operand.tmp 14) 23, type := 4, pos := "law.go:21", after := #[{ on := 2, ground := Ground.data }, { on := 5, ground := Ground.data }], guard := none } : Oper)) (v := ?_) rfl (by kernel_rfl) (by kernel_rfl) (by kernel_rfl) (fun _ _ _ h => h) (Or.inl ⟨by rfl, ?_⟩) hS ?_
  rotate_left
  · intro wv _; go_simp; try with_reducible rfl
  try simp only [Act.put, List.setIfInBounds_toArray, List.set_cons_zero, List.set_cons_succ]
  refine wpAnyH_take (i := 7) (oi := ({ dst := some 16, op := Op.move (Operand.tmp 15), type := 4, pos := "law.go:21", after := #[{ on := 6, ground := Ground.data }, { on := 5, ground := Ground.chain }], guard := none } : Oper)) (v := ?_) rfl (by kernel_rfl) (by kernel_rfl) (by kernel_rfl) (fun _ _ _ h => h) (Or.inl ⟨by rfl, ?_⟩) hS ?_
  rotate_left
  · intro wv _; go_simp; try with_reducible rfl
  try simp only [Act.put, List.setIfInBounds_toArray, List.set_cons_zero, List.set_cons_succ]
  refine wpAnyH_take (i := 8) (oi := ({ dst := some 17, op := Op.move (Operand.tmp 0), type := 5, pos := "law.go:21", after := #[{ on := 7, ground := Ground.guard }], guard := some (7, true) } : Oper)) (v := ?_) rfl (by kernel_rfl) (by kernel_rfl) (by kernel_rfl) (fun _ _ _ h => h) (Or.inl ⟨by rfl, ?_⟩) hS ?_
  rotate_left
  · intro wv _; go_simp; try with_reducible rfl
  try simp only [Act.put, List.setIfInBounds_toArray, List.set_cons_zero, List.set_cons_succ]
  refine wpAnyH_take (i := 9) (oi := ({ dst := some 18, op := Op.indexAddr 24 (Operand.tmp 5) (Operand.tmp 17), type := 0, pos := "law.go:21", after := #[{ on := 8, ground := Ground.data }, { on := 7, ground := Ground.guard }], guard := some (7, true) } : Oper)) (v := ?_) rfl (by kernel_rfl) (by kernel_rfl) (by kernel_rfl) (fun _ _ _ h => h) (Or.inl ⟨by rfl, ?_⟩) hS ?_
  rotate_left
  · intro wv _; go_simp; try with_reducible rfl
  try simp only [Act.put, List.setIfInBounds_toArray, List.set_cons_zero, List.set_cons_succ]
  refine wpAnyH_take (i := 10) (oi := ({ dst := some 19, op := Op.load 23 (Operand.tmp 18), type := 23, pos := "law.go:21", after := #[{ on := 9, ground := Ground.data }, { on := 7, ground := Ground.guard }], guard := some (7, true) } : Oper)) (v := ?_) rfl (by kernel_rfl) (by kernel_rfl) (by kernel_rfl) (fun _ _ _ h => h) (Or.inl ⟨by rfl, ?_⟩) hS ?_
  rotate_left
  · intro wv hS; have hrun := (hS.cell (p := ⟨w1.heap.size, i, none⟩) HZ.out).trans CI.out; go_simp; try with_reducible rfl
  try simp only [Act.put, List.setIfInBounds_toArray, List.set_cons_zero, List.set_cons_succ]
  refine wpAnyH_take (i := 11) (oi := ({ dst := some 20, op := Op.move (Operand.tmp 1), type := 5, pos := "law.go:21", after := #[{ on := 7, ground := Ground.guard }], guard := some (7, true) } : Oper)) (v := ?_) rfl (by kernel_rfl) (by kernel_rfl) (by kernel_rfl) (fun _ _ _ h => h) (Or.inl ⟨by rfl, ?_⟩) hS ?_
  rotate_left
  · intro wv _; go_simp; try with_reducible rfl
  try simp only [Act.put, List.setIfInBounds_toArray, List.set_cons_zero, List.set_cons_succ]
  refine wpAnyH_take (i := 12) (oi := ({ dst := some 21, op := Op.indexAddr 24 (Operand.tmp 5) (Operand.tmp 20), type := 0, pos := "law.go:21", after := #[{ on := 11, ground := Ground.data }, { on := 7, ground := Ground.guard }], guard := some (7, true) } : Oper)) (v := ?_) rfl (by kernel_rfl) (by kernel_rfl) (by kernel_rfl) (fun _ _ _ h => h) (Or.inl ⟨by rfl, ?_⟩) hS ?_
  rotate_left
  · intro wv _; go_simp; try with_reducible rfl
  try simp only [Act.put, List.setIfInBounds_toArray, List.set_cons_zero, List.set_cons_succ]
  refine wpAnyH_take (i := 13) (oi := ({ dst := some 22, op := Op.load 23 (Operand.tmp 21), type := 23, pos := "law.go:21", after := #[{ on := 12, ground := Ground.data }, { on := 7, ground := Ground.guard }], guard := some (7, true) } : Oper)) (v := ?_) rfl (by kernel_rfl) (by kernel_rfl) (by kernel_rfl) (fun _ _ _ h => h) (Or.inl ⟨by rfl, ?_⟩) hS ?_
  rotate_left
  · intro wv hS; have hrun := (hS.cell (p := ⟨w1.heap.size, j, none⟩) HZ.out).trans CJ.out; go_simp; try with_reducible rfl
  try simp only [Act.put, List.setIfInBounds_toArray, List.set_cons_zero, List.set_cons_succ]
  refine wpAnyH_take (i := 14) (oi := ({ dst := some 23, op := Op.binOp BinOp.xor 23 (Operand.tmp 19) (Operand.tmp 22) 23, type := 23, pos := "law.go:21", after := #[{ on := 10, ground := Ground.data }, { on := 13, ground := Ground.data }, { on := 7, ground := Ground.guard }], guard := some (7, true) } : Oper)) (v := ?_) rfl (by kernel_rfl) (by kernel_rfl) (by kernel_rfl) (fun _ _ _ h => h) (Or.inl ⟨by rfl, ?_⟩) hS ?_
  rotate_left
  · intro wv _; go_simp; try with_reducible rfl
  try simp only [Act.put, List.setIfInBounds_toArray, List.set_cons_zero, List.set_cons_succ]
  refine wpAnyH_take (i := 15) (oi := ({ dst := some 24, op := Op.move (Operand.tmp 0), type := 5, pos := "law.go:21", after := #[{ on := 7, ground := Ground.guard }], guard := some (7, true) } : Oper)) (v := ?_) rfl (by kernel_rfl) (by kernel_rfl) (by kernel_rfl) (fun _ _ _ h => h) (Or.inl ⟨by rfl, ?_⟩) hS ?_
  rotate_left
  · intro wv _; go_simp; try with_reducible rfl
  try simp only [Act.put, List.setIfInBounds_toArray, List.set_cons_zero, List.set_cons_succ]
  refine wpAnyH_take (i := 16) (oi := ({ dst := some 25, op := Op.move (Operand.tmp 1), type := 5, pos := "law.go:21", after := #[{ on := 7, ground := Ground.guard }], guard := some (7, true) } : Oper)) (v := ?_) rfl (by kernel_rfl) (by kernel_rfl) (by kernel_rfl) (fun _ _ _ h => h) (Or.inl ⟨by rfl, ?_⟩) hS ?_
  rotate_left
  · intro wv _; go_simp; try with_reducible rfl
  try simp only [Act.put, List.setIfInBounds_toArray, List.set_cons_zero, List.set_cons_succ]
  refine wpAnyH_take (i := 17) (oi := ({ dst := some 26, op := Op.binOp BinOp.xor 5 (Operand.tmp 24) (Operand.tmp 25) 5, type := 5, pos := "law.go:21", after := #[{ on := 15, ground := Ground.data }, { on := 16, ground := Ground.data }, { on := 7, ground := Ground.guard }], guard := some (7, true) } : Oper)) (v := ?_) rfl (by kernel_rfl) (by kernel_rfl) (by kernel_rfl) (fun _ _ _ h => h) (Or.inl ⟨by rfl, ?_⟩) hS ?_
  rotate_left
  · intro wv _; go_simp; try with_reducible rfl
  try simp only [Act.put, List.setIfInBounds_toArray, List.set_cons_zero, List.set_cons_succ]
  refine wpAnyH_take (i := 18) (oi := ({ dst := some 27, op := Op.indexAddr 24 (Operand.tmp 5) (Operand.tmp 26), type := 0, pos := "law.go:21", after := #[{ on := 17, ground := Ground.data }, { on := 7, ground := Ground.guard }], guard := some (7, true) } : Oper)) (v := ?_) rfl (by kernel_rfl) (by kernel_rfl) (by kernel_rfl) (fun _ _ _ h => h) (Or.inl ⟨by rfl, ?_⟩) hS ?_
  rotate_left
  · intro wv _; go_simp; try with_reducible rfl
  try simp only [Act.put, List.setIfInBounds_toArray, List.set_cons_zero, List.set_cons_succ]
  refine wpAnyH_take (i := 19) (oi := ({ dst := some 28, op := Op.load 23 (Operand.tmp 27), type := 23, pos := "law.go:21", after := #[{ on := 18, ground := Ground.data }, { on := 7, ground := Ground.guard }], guard := some (7, true) } : Oper)) (v := ?_) rfl (by kernel_rfl) (by kernel_rfl) (by kernel_rfl) (fun _ _ _ h => h) (Or.inl ⟨by rfl, ?_⟩) hS ?_
  rotate_left
  · intro wv hS; have hrun := (hS.cell (p := ⟨w1.heap.size, k, none⟩) HZ.out).trans CK.out; go_simp; try with_reducible rfl
  try simp only [Act.put, List.setIfInBounds_toArray, List.set_cons_zero, List.set_cons_succ]
  refine wpAnyH_take (i := 20) (oi := ({ dst := some 29, op := Op.binOp BinOp.eql 23 (Operand.tmp 23) (Operand.tmp 28) 23, type := 4, pos := "law.go:21", after := #[{ on := 14, ground := Ground.data }, { on := 19, ground := Ground.data }, { on := 7, ground := Ground.guard }], guard := some (7, true) } : Oper)) (v := ?_) rfl (by kernel_rfl) (by kernel_rfl) (by kernel_rfl) (fun _ _ _ h => h) (Or.inl ⟨by rfl, ?_⟩) hS ?_
  rotate_left
  · intro wv _; go_simp; try with_reducible rfl
  try simp only [Act.put, List.setIfInBounds_toArray, List.set_cons_zero, List.set_cons_succ]
  refine wpAnyH_take (i := 21) (oi := ({ dst := some 30, op := Op.pick (Operand.tmp 16) (Operand.tmp 29) (Operand.const (Value.bool false)), type := 4, pos := "law.go:21", after := #[{ on := 7, ground := Ground.data }, { on := 20, ground := Ground.data }], guard := none } : Oper)) (v := ?_) rfl (by kernel_rfl) (by kernel_rfl) (by kernel_rfl) (fun _ _ _ h => h) (Or.inl ⟨by rfl, ?_⟩) hS ?_
  rotate_left
  · intro wv _; go_simp; try with_reducible rfl
  try simp only [Act.put, List.setIfInBounds_toArray, List.set_cons_zero, List.set_cons_succ]
  refine wpAnyH_take (i := 22) (oi := ({ dst := some 31, op := Op.move (Operand.tmp 30), type := 4, pos := "law.go:21", after := #[{ on := 21, ground := Ground.data }, { on := 7, ground := Ground.chain }], guard := none } : Oper)) (v := ?_) rfl (by kernel_rfl) (by kernel_rfl) (by kernel_rfl) (fun _ _ _ h => h) (Or.inl ⟨by rfl, ?_⟩) hS ?_
  rotate_left
  · intro wv _; go_simp; try with_reducible rfl
  try simp only [Act.put, List.setIfInBounds_toArray, List.set_cons_zero, List.set_cons_succ]
  refine wpAnyH_take (i := 23) (oi := ({ dst := some 32, op := Op.move (Operand.tmp 0), type := 5, pos := "law.go:21", after := #[{ on := 22, ground := Ground.guard }], guard := some (22, true) } : Oper)) (v := ?_) rfl (by kernel_rfl) (by kernel_rfl) (by kernel_rfl) (fun _ _ _ h => h) (Or.inl ⟨by rfl, ?_⟩) hS ?_
  rotate_left
  · intro wv _; go_simp; try with_reducible rfl
  try simp only [Act.put, List.setIfInBounds_toArray, List.set_cons_zero, List.set_cons_succ]
  refine wpAnyH_take (i := 24) (oi := ({ dst := some 33, op := Op.indexAddr 24 (Operand.tmp 5) (Operand.tmp 32), type := 0, pos := "law.go:21", after := #[{ on := 23, ground := Ground.data }, { on := 22, ground := Ground.guard }], guard := some (22, true) } : Oper)) (v := ?_) rfl (by kernel_rfl) (by kernel_rfl) (by kernel_rfl) (fun _ _ _ h => h) (Or.inl ⟨by rfl, ?_⟩) hS ?_
  rotate_left
  · intro wv _; go_simp; try with_reducible rfl
  try simp only [Act.put, List.setIfInBounds_toArray, List.set_cons_zero, List.set_cons_succ]
  refine wpAnyH_take (i := 25) (oi := ({ dst := some 34, op := Op.load 23 (Operand.tmp 33), type := 23, pos := "law.go:21", after := #[{ on := 24, ground := Ground.data }, { on := 22, ground := Ground.guard }], guard := some (22, true) } : Oper)) (v := ?_) rfl (by kernel_rfl) (by kernel_rfl) (by kernel_rfl) (fun _ _ _ h => h) (Or.inl ⟨by rfl, ?_⟩) hS ?_
  rotate_left
  · intro wv hS; have hrun := (hS.cell (p := ⟨w1.heap.size, i, none⟩) HZ.out).trans CI.out; go_simp; try with_reducible rfl
  try simp only [Act.put, List.setIfInBounds_toArray, List.set_cons_zero, List.set_cons_succ]
  refine wpAnyH_take (i := 26) (oi := ({ dst := some 35, op := Op.move (Operand.tmp 1), type := 5, pos := "law.go:21", after := #[{ on := 22, ground := Ground.guard }], guard := some (22, true) } : Oper)) (v := ?_) rfl (by kernel_rfl) (by kernel_rfl) (by kernel_rfl) (fun _ _ _ h => h) (Or.inl ⟨by rfl, ?_⟩) hS ?_
  rotate_left
  · intro wv _; go_simp; try with_reducible rfl
  try simp only [Act.put, List.setIfInBounds_toArray, List.set_cons_zero, List.set_cons_succ]
  refine wpAnyH_take (i := 27) (oi := ({ dst := some 36, op := Op.indexAddr 24 (Operand.tmp 5) (Operand.tmp 35), type := 0, pos := "law.go:21", after := #[{ on := 26, ground := Ground.data }, { on := 22, ground := Ground.guard }], guard := some (22, true) } : Oper)) (v := ?_) rfl (by kernel_rfl) (by kernel_rfl) (by kernel_rfl) (fun _ _ _ h => h) (Or.inl ⟨by rfl, ?_⟩) hS ?_
  rotate_left
  · intro wv _; go_simp; try with_reducible rfl
  try simp only [Act.put, List.setIfInBounds_toArray, List.set_cons_zero, List.set_cons_succ]
  refine wpAnyH_take (i := 28) (oi := ({ dst := some 37, op := Op.load 23 (Operand.tmp 36), type := 23, pos := "law.go:21", after := #[{ on := 27, ground := Ground.data }, { on := 22, ground := Ground.guard }], guard := some (22, true) } : Oper)) (v := ?_) rfl (by kernel_rfl) (by kernel_rfl) (by kernel_rfl) (fun _ _ _ h => h) (Or.inl ⟨by rfl, ?_⟩) hS ?_
  rotate_left
  · intro wv hS; have hrun := (hS.cell (p := ⟨w1.heap.size, j, none⟩) HZ.out).trans CJ.out; go_simp; try with_reducible rfl
  try simp only [Act.put, List.setIfInBounds_toArray, List.set_cons_zero, List.set_cons_succ]
  refine wpAnyH_take (i := 29) (oi := ({ dst := some 38, op := Op.binOp BinOp.eql 23 (Operand.tmp 34) (Operand.tmp 37) 23, type := 4, pos := "law.go:21", after := #[{ on := 25, ground := Ground.data }, { on := 28, ground := Ground.data }, { on := 22, ground := Ground.guard }], guard := some (22, true) } : Oper)) (v := ?_) rfl (by kernel_rfl) (by kernel_rfl) (by kernel_rfl) (fun _ _ _ h => h) (Or.inl ⟨by rfl, ?_⟩) hS ?_
  rotate_left
  · intro wv _; go_simp; try with_reducible rfl
  try simp only [Act.put, List.setIfInBounds_toArray, List.set_cons_zero, List.set_cons_succ]
  refine wpAnyH_take (i := 30) (oi := ({ dst := some 39, op := Op.move (Operand.tmp 0), type := 5, pos := "law.go:21", after := #[{ on := 22, ground := Ground.guard }], guard := some (22, true) } : Oper)) (v := ?_) rfl (by kernel_rfl) (by kernel_rfl) (by kernel_rfl) (fun _ _ _ h => h) (Or.inl ⟨by rfl, ?_⟩) hS ?_
  rotate_left
  · intro wv _; go_simp; try with_reducible rfl
  try simp only [Act.put, List.setIfInBounds_toArray, List.set_cons_zero, List.set_cons_succ]
  refine wpAnyH_take (i := 31) (oi := ({ dst := some 40, op := Op.move (Operand.tmp 1), type := 5, pos := "law.go:21", after := #[{ on := 22, ground := Ground.guard }], guard := some (22, true) } : Oper)) (v := ?_) rfl (by kernel_rfl) (by kernel_rfl) (by kernel_rfl) (fun _ _ _ h => h) (Or.inl ⟨by rfl, ?_⟩) hS ?_
  rotate_left
  · intro wv _; go_simp; try with_reducible rfl
  try simp only [Act.put, List.setIfInBounds_toArray, List.set_cons_zero, List.set_cons_succ]
  refine wpAnyH_take (i := 32) (oi := ({ dst := some 41, op := Op.binOp BinOp.eql 5 (Operand.tmp 39) (Operand.tmp 40) 5, type := 4, pos := "law.go:21", after := #[{ on := 30, ground := Ground.data }, { on := 31, ground := Ground.data }, { on := 22, ground := Ground.guard }], guard := some (22, true) } : Oper)) (v := ?_) rfl (by kernel_rfl) (by kernel_rfl) (by kernel_rfl) (fun _ _ _ h => h) (Or.inl ⟨by rfl, ?_⟩) hS ?_
  rotate_left
  · intro wv _; go_simp; try with_reducible rfl
  try simp only [Act.put, List.setIfInBounds_toArray, List.set_cons_zero, List.set_cons_succ]
  refine wpAnyH_take (i := 33) (oi := ({ dst := some 42, op := Op.binOp BinOp.eql 4 (Operand.tmp 38) (Operand.tmp 41) 4, type := 4, pos := "law.go:21", after := #[{ on := 29, ground := Ground.data }, { on := 32, ground := Ground.data }, { on := 22, ground := Ground.guard }], guard := some (22, true) } : Oper)) (v := ?_) rfl (by kernel_rfl) (by kernel_rfl) (by kernel_rfl) (fun _ _ _ h => h) (Or.inl ⟨by rfl, ?_⟩) hS ?_
  rotate_left
  · intro wv _; go_simp; try with_reducible rfl
  try simp only [Act.put, List.setIfInBounds_toArray, List.set_cons_zero, List.set_cons_succ]
  refine wpAnyH_take (i := 34) (oi := ({ dst := some 43, op := Op.pick (Operand.tmp 31) (Operand.tmp 42) (Operand.const (Value.bool false)), type := 4, pos := "law.go:21", after := #[{ on := 22, ground := Ground.data }, { on := 33, ground := Ground.data }], guard := none } : Oper)) (v := ?_) rfl (by kernel_rfl) (by kernel_rfl) (by kernel_rfl) (fun _ _ _ h => h) (Or.inl ⟨by rfl, ?_⟩) hS ?_
  rotate_left
  · intro wv _; go_simp; try with_reducible rfl
  try simp only [Act.put, List.setIfInBounds_toArray, List.set_cons_zero, List.set_cons_succ]
  refine wpAnyH_take (i := 35) (oi := ({ dst := some 4, op := Op.assign (Operand.tmp 43), type := 4, pos := "law.go:21", after := #[{ on := 34, ground := Ground.data }, { on := 22, ground := Ground.chain }, { on := 0, ground := Ground.phase }, { on := 1, ground := Ground.phase }, { on := 2, ground := Ground.phase }, { on := 3, ground := Ground.phase }, { on := 4, ground := Ground.phase }, { on := 5, ground := Ground.phase }, { on := 6, ground := Ground.phase }, { on := 7, ground := Ground.phase }, { on := 8, ground := Ground.phase }, { on := 9, ground := Ground.phase }, { on := 10, ground := Ground.phase }, { on := 11, ground := Ground.phase }, { on := 12, ground := Ground.phase }, { on := 13, ground := Ground.phase }, { on := 14, ground := Ground.phase }, { on := 15, ground := Ground.phase }, { on := 16, ground := Ground.phase }, { on := 17, ground := Ground.phase }, { on := 18, ground := Ground.phase }, { on := 19, ground := Ground.phase }, { on := 20, ground := Ground.phase }, { on := 21, ground := Ground.phase }, { on := 22, ground := Ground.phase }, { on := 23, ground := Ground.phase }, { on := 24, ground := Ground.phase }, { on := 25, ground := Ground.phase }, { on := 26, ground := Ground.phase }, { on := 27, ground := Ground.phase }, { on := 28, ground := Ground.phase }, { on := 29, ground := Ground.phase }, { on := 30, ground := Ground.phase }, { on := 31, ground := Ground.phase }, { on := 32, ground := Ground.phase }, { on := 33, ground := Ground.phase }, { on := 34, ground := Ground.phase }], guard := none } : Oper)) (v := ?_) rfl (by kernel_rfl) (by kernel_rfl) (by kernel_rfl) (fun _ _ _ h => h) (Or.inl ⟨by rfl, ?_⟩) hS ?_
  rotate_left
  · intro wv _; go_simp; try with_reducible rfl
  try simp only [Act.put, List.setIfInBounds_toArray, List.set_cons_zero, List.set_cons_succ]
  refine wpAnyH_done (by kernel_rfl) ?_ _
  refine NoPanic.normal ?_
  go_wp2
  go_ret
  exact ⟨rfl, HW1.out.drew⟩

theorem words_of {xs : List Int} (hl : xs.length = 256) (hw : ∀ x ∈ xs, (Lit.int .u32 x).wf = true) : Words xs := ⟨hl, fun x hx => by have := bounds_u32 (hw x hx); omega⟩
theorem range_below {w wv : World} {b o : Nat} {cs : List Value} (h : w.rangeAt b o cs) (hb : b < w.heap.size) (hS : Below w.heap.size w wv) : wv.rangeAt b o cs :=
  fun j v hj => (hS.cell (p := ⟨b, o + j, none⟩) hb).trans (h j v hj)

set_option maxHeartbeats 4000000 in
set_option maxRecDepth 100000 in
theorem updates_walk (t : List Int) (c : Int) (A : Option Addr) (n cc : Nat) (bs : List Int) (w : World) (ht : Words t) (c0 : (Lit.int .u32 c).wf = true) (hb : Bs w A n cc bs) :
    Calls Try.prog 4 #[.agg (t.map (Value.int .u32)).toArray, .int .u32 c, .slice A n cc] w fun e w' => e = .returned (.bool true) ∧ Below w.heap.size w w' := by
  have hc := bounds_u32 c0
  clear c0
  obtain ⟨r, rfl⟩ : ∃ r : Nat, c = r := ⟨c.toNat, by omega⟩
  have hr : r < 4294967296 := by omega
  clear hc
  have B0 := Lib.hid ((Below.refl w.heap.size w).alloc (Nat.le_refl _) (.cells (t.map (Value.int .u32)).toArray 24))
  have HB0 := Lib.hid (hb.alloc (.cells (t.map (Value.int .u32)).toArray 24))
  have hra : (w.alloc (.cells (t.map (Value.int .u32)).toArray 24)).rangeAt w.heap.size 0 (t.map (Value.int .u32)) := by
    intro j v hj
    rw [Nat.zero_add, cell_of_row _ w.heap.size j _ 24 (0, 0) (heap_alloc_new w _)]
    simpa using hj
  have hsz : w.heap.size < (w.alloc (.cells (t.map (Value.int .u32)).toArray 24)).heap.size := by simp
  have HR := Lib.hid hra; have HS := Lib.hid hsz; have HT := Lib.hid ht
  have hi : (Try.prog.info? 24).map (·.size) = some (t.map (Value.int .u32)).length := by
    have : (t.map (Value.int .u32)).length = 256 := by rw [List.length_map]; exact ht.1
    rw [this]; exact info24
  have HI := Lib.hid hi
  clear hb hra hsz ht hi
  by_cases hn : (2000 : Int) < n
  · go_enter Try.func4, Try.ntmps4
    go_wp2_with fail
    refine (crcAlive_any _).mono ?_; rintro e w1 ⟨rfl, hw1⟩
    have HW1 := Lib.hid (B0.out.trans (hw1.mono (Nat.le_of_lt HS.out))); clear hw1
    go_wp2_with fail
    go_ret
    exact ⟨rfl, HW1.out⟩
  · go_enter Try.func4, Try.ntmps4
    go_wp2_with fail
    refine (crcAlive_any _).mono ?_; rintro e w1 ⟨rfl, hw1⟩
    have HW1 := Lib.hid (B0.out.trans (hw1.mono (Nat.le_of_lt HS.out)))
    have HB1 := Lib.hid (HB0.out.below hw1)
    have HR1 := Lib.hid (range_below HR.out HS.out hw1)
    have HS1 := Lib.hid (Nat.lt_of_lt_of_le HS.out hw1.size)
    clear hw1
    go_wp2_with fail
    refine wp_region_noPanic ?_
    refine wp_region_held_drew (S := (fun wv => Below w1.heap.size w1 wv)) (by kernel_rfl) ((Below.refl w1.heap.size w1).drew) (fun hS => ?_)
    refine wpAnyH_take (i := 0) (oi := ({ dst := some 12, op := Op.load 24 (Operand.tmp 3), type := 24, pos := "law.go:32", after := #[], guard := none } : Oper)) (v := .agg (t.map (Value.int .u32)).toArray) rfl (by kernel_rfl) (by kernel_rfl) (by kernel_rfl) (fun _ _ _ h => h) (yieldsIf_load_mid (by rfl) _ _ (by rfl) (w.heap.size) 0 (by rfl) (t.map (Value.int .u32)) _ (fun wv hS => range_below HR1.out HS1.out hS) Try.underlying24 (by rfl) HI.out) hS ?_
    try simp only [Act.put, List.setIfInBounds_toArray, List.set_cons_zero, List.set_cons_succ]
    refine wpAnyH_take (i := 1) (oi := ({ dst := some 13, op := Op.move (Operand.tmp 1), type := 23, pos := "law.go:32", after := #[], guard := none } : Oper)) (v := ?_) rfl (by kernel_rfl) (by kernel_rfl) (by kernel_rfl) (fun _ _ _ h => h) (Or.inl ⟨by rfl, ?_⟩) hS ?_
    rotate_left
    · intro wv _; go_simp; try with_reducible rfl
    try simp only [Act.put, List.setIfInBounds_toArray, List.set_cons_zero, List.set_cons_succ]
    refine wpAnyH_take (i := 2) (oi := ({ dst := some 14, op := Op.move (Operand.tmp 2), type := 28, pos := "law.go:32", after := #[], guard := none } : Oper)) (v := ?_) rfl (by kernel_rfl) (by kernel_rfl) (by kernel_rfl) (fun _ _ _ h => h) (Or.inl ⟨by rfl, ?_⟩) hS ?_
    rotate_left
    · intro wv _; go_simp; try with_reducible rfl
    try simp only [Act.put, List.setIfInBounds_toArray, List.set_cons_zero, List.set_cons_succ]
    refine wpAnyH_take (i := 4) (oi := ({ dst := some 16, op := Op.load 24 (Operand.tmp 3), type := 24, pos := "law.go:32", after := #[], guard := none } : Oper)) (v := .agg (t.map (Value.int .u32)).toArray) rfl (by kernel_rfl) (by kernel_rfl) (by kernel_rfl) (fun _ _ _ h => h) (yieldsIf_load_mid (by rfl) _ _ (by rfl) (w.heap.size) 0 (by rfl) (t.map (Value.int .u32)) _ (fun wv hS => range_below HR1.out HS1.out hS) Try.underlying24 (by rfl) HI.out) hS ?_
    try simp only [Act.put, List.setIfInBounds_toArray, List.set_cons_zero, List.set_cons_succ]
    refine wpAnyH_take (i := 5) (oi := ({ dst := some 17, op := Op.move (Operand.tmp 1), type := 23, pos := "law.go:32", after := #[], guard := none } : Oper)) (v := ?_) rfl (by kernel_rfl) (by kernel_rfl) (by kernel_rfl) (fun _ _ _ h => h) (Or.inl ⟨by rfl, ?_⟩) hS ?_
    rotate_left
    · intro wv _; go_simp; try with_reducible rfl
    try simp only [Act.put, List.setIfInBounds_toArray, List.set_cons_zero, List.set_cons_succ]
    refine wpAnyH_take (i := 6) (oi := ({ dst := some 18, op := Op.move (Operand.tmp 2), type := 28, pos := "law.go:32", after := #[], guard := none } : Oper)) (v := ?_) rfl (by kernel_rfl) (by kernel_rfl) (by kernel_rfl) (fun _ _ _ h => h) (Or.inl ⟨by rfl, ?_⟩) hS ?_
    rotate_left
    · intro wv _; go_simp; try with_reducible rfl
    try simp only [Act.put, List.setIfInBounds_toArray, List.set_cons_zero, List.set_cons_succ]
    refine wpAnyH_ready (rs := [3]) (by kernel_rfl) (by simp) (AllReadyH.cons (o := ({ dst := some 15, op := Op.call { callee := Callee.value (Operand.func 11), args := #[Operand.tmp 12, Operand.tmp 13, Operand.tmp 14], argTypes := #[24, 23, 28] }, type := 23, pos := "law.go:32", after := #[{ on := 0, ground := Ground.data }, { on := 1, ground := Ground.data }, { on := 2, ground := Ground.data }], guard := none } : Oper)) rfl (fun K hK => ?_) AllReadyH.nil)
    go_simp
    refine (update_any t A n cc bs r _ HT.out HB1.out.drew (by omega) hr).mono ?_; rintro e w2 ⟨rfl, hw2⟩
    have HW2 := Lib.hid (HW1.out.drew.trans (hw2.mono HW1.out.size)); have HB2 := Lib.hid (HB1.out.drew.below hw2)
    replace hS := hS.trans hw2
    clear hw2
    go_wp2_with fail
    refine Shut.out hK _ _ (by first | trivial | exact hS) (fun _ => ?_)
    clear hK K
    try simp only [Act.put, List.setIfInBounds_toArray, List.set_cons_zero, List.set_cons_succ]
    refine wpAnyH_ready (rs := [7]) (by kernel_rfl) (by simp) (AllReadyH.cons (o := ({ dst := some 19, op := Op.call { callee := Callee.value (Operand.func 12), args := #[Operand.tmp 16, Operand.tmp 17, Operand.tmp 18], argTypes := #[24, 23, 28] }, type := 23, pos := "law.go:32", after := #[{ on := 4, ground := Ground.data }, { on := 5, ground := Ground.data }, { on := 6, ground := Ground.data }, { on := 3, ground := Ground.chain }], guard := none } : Oper)) rfl (fun K hK => ?_) AllReadyH.nil)
    go_simp
    refine (refUpdate_any t A n cc bs r _ HT.out HB2.out (by omega) hr).mono ?_; rintro e w3 ⟨rfl, hw3⟩
    have HW3 := Lib.hid (HW2.out.trans (hw3.mono HW2.out.size))
    replace hS := hS.trans (hw3.mono hS.size)
    clear hw3
    go_wp2_with fail
    refine Shut.out hK _ _ (by first | trivial | exact hS) (fun _ => ?_)
    clear hK K
    try simp only [Act.put, List.setIfInBounds_toArray, List.set_cons_zero, List.set_cons_succ]
    refine wpAnyH_take (i := 8) (oi := ({ dst := some 20, op := Op.binOp BinOp.eql 23 (Operand.tmp 15) (Operand.tmp 19) 23, type := 4, pos := "law.go:32", after := #[{ on := 3, ground := Ground.data }, { on := 7, ground := Ground.data }], guard := none } : Oper)) (v := ?_) rfl (by kernel_rfl) (by kernel_rfl) (by kernel_rfl) (fun _ _ _ h => h) (Or.inl ⟨by rfl, ?_⟩) hS ?_
    rotate_left
    · intro wv _; go_simp; try with_reducible rfl
    try simp only [Act.put, List.setIfInBounds_toArray, List.set_cons_zero, List.set_cons_succ]
    refine wpAnyH_take (i := 9) (oi := ({ dst := some 6, op := Op.assign (Operand.tmp 20), type := 4, pos := "law.go:32", after := #[{ on := 8, ground := Ground.data }, { on := 7, ground := Ground.chain }, { on := 0, ground := Ground.phase }, { on := 1, ground := Ground.phase }, { on := 2, ground := Ground.phase }, { on := 3, ground := Ground.phase }, { on := 4, ground := Ground.phase }, { on := 5, ground := Ground.phase }, { on := 6, ground := Ground.phase }, { on := 7, ground := Ground.phase }, { on := 8, ground := Ground.phase }], guard := none } : Oper)) (v := ?_) rfl (by kernel_rfl) (by kernel_rfl) (by kernel_rfl) (fun _ _ _ h => h) (Or.inl ⟨by rfl, ?_⟩) hS ?_
    rotate_left
    · intro wv _; go_simp; try with_reducible rfl
    try simp only [Act.put, List.setIfInBounds_toArray, List.set_cons_zero, List.set_cons_succ]
    refine wpAnyH_done (by kernel_rfl) ?_ _
    refine NoPanic.normal ?_
    go_wp2
    go_ret
    exact ⟨rfl, HW3.out⟩

theorem sums_walk (A : Option Addr) (n cc : Nat) (bs : List Int) (w : World) (hb : Bs w A n cc bs) :
    Calls Try.prog 5 #[.slice A n cc] w fun e w' => e = .returned (.bool true) ∧ Below w.heap.size w w' := by
  have HB := Lib.hid hb
  clear hb
  by_cases hn : (2000 : Int) < n
  · go_enter Try.func5, Try.ntmps5
    go_wp2_with fail
    refine (crcAlive_any _).mono ?_; rintro e w1 ⟨rfl, hw1⟩
    have HW1 := Lib.hid hw1; clear hw1
    go_wp2_with fail
    go_ret
    exact ⟨rfl, HW1.out⟩
  · go_enter Try.func5, Try.ntmps5
    go_wp2_with fail
    refine (crcAlive_any _).mono ?_; rintro e w1 ⟨rfl, hw1⟩
    have HW1 := Lib.hid hw1; have HB1 := Lib.hid (HB.out.below hw1); clear hw1
    go_wp2_with fail
    refine (sum_any A n cc bs w1 HB1.out (by omega)).mono ?_; rintro e w2 ⟨rfl, hw2⟩
    have HW2 := Lib.hid (HW1.out.trans (hw2.mono HW1.out.size)); have HB2 := Lib.hid (HB1.out.below hw2); clear hw2
    go_wp2_with fail
    refine (refSum_any A n cc bs w2 HB2.out (by omega)).mono ?_; rintro e w3 ⟨rfl, rfl⟩
    go_wp2_with fail
    refine (table_any w2).mono ?_; rintro e w3 ⟨rfl, hw3⟩
    have HW3 := Lib.hid (HW2.out.trans (hw3.mono HW2.out.size)); have HB3 := Lib.hid (HB2.out.below hw3); clear hw3
    have P4 := update_any (tabL 256) A n cc bs 4294967295 w3 (tabL_words 256) HB3.out (by omega) (by decide)
    have e4 : updates (tabL 256) bs 4294967295 = goes bs 4294967295 := updates_table (tabL 256) (fun i hi => by rw [down8_tab i hi]; simp) bs _ HB3.out.byte
    rw [e4] at P4
    have HP := Lib.hid P4; clear P4 e4
    go_wp2_with fail
    refine HP.out.mono ?_; rintro e w4 ⟨rfl, hw4⟩
    have HW4 := Lib.hid (HW3.out.trans (hw4.mono HW3.out.size)); have HB4 := Lib.hid (HB3.out.below hw4); clear hw4
    go_wp2_with fail
    refine (refGo_any A n cc bs 4294967295 w4 HB4.out (by omega) (by decide)).mono ?_; rintro e w5 ⟨rfl, rfl⟩
    go_wp2_with fail
    go_ret
    exact ⟨rfl, HW4.out⟩
end Go.Proofs.Ytahgacjclffjcaa
