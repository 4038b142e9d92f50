/- CrcTells and CrcPuts walked to their end: each answers true, over any world; no condition. -/
import Derived.Test.YtahgacjclffjcaaCrcG
import Derived.Lib.MinMax
namespace Go.Proofs.Ytahgacjclffjcaa
set_option linter.unusedVariables false
set_option linter.unusedSimpArgs false
open Go.RowKit

theorem min4 (W : World) (ts : Array TypeId) (t : TypeId) (a b c d : Int) : (Builtin.min_ ts t #[.int .i64 a, .int .i64 b, .int .i64 c, .int .i64 d]).run Try.prog W = .ok (.int .i64 (min (min (min a b) c) d)) W := by
  have e : ∀ x y : Int, (if y < x then y else x) = min x y := fun x y => by rw [Int.min_def]; split <;> split <;> omega
  simp [Builtin.min_, Builtin.min2, e]

/-- one byte of such a slice stored, in a block that is known whole. -/
theorem Bs.stored {w : World} {g n c i : Nat} {bs : List Int} {x : Int} (h : Bs w (some ⟨g, 0, none⟩) n c bs) (hi : i < n) (h0 : 0 ≤ x) (h1 : x ≤ 255) : Bs (w.setCell ⟨g, i, none⟩ (.int .u8 x)) (some ⟨g, 0, none⟩) n c (bs.set i x) := by
  refine ⟨by rw [List.length_set]; exact h.len, h.cap, fun b hb => ?_, fun hn => ?_⟩
  · rcases List.mem_or_eq_of_mem_set hb with h2 | h2
    · exact h.byte b h2
    · subst h2; exact ⟨h0, h1⟩
  · obtain ⟨b, off, e, hb, hc⟩ := h.mem hn
    injection e with e; injection e with e1 e2; subst e1; subst e2
    refine ⟨g, 0, rfl, by simpa using hb, fun j hj => ?_⟩
    have hl := h.len
    by_cases hji : j = i
    · subst hji
      have hcj := hc j hj
      rw [Nat.zero_add] at hcj ⊢
      rw [World.cell?_setCell_same _ _ _ hcj]
      simp [List.getD, List.getElem?_set, show j < bs.length by omega]
    · rw [World.cell?_setCell_other _ _ _ _ (by intro h; injection h with _ h2 _; omega), hc j hj]
      simp [List.getD, List.getElem?_set, Ne.symm hji]

theorem sumS_set (bs : List Int) (i : Nat) (x : Int) (hb : ∀ b ∈ bs, 0 ≤ b ∧ b ≤ 255) (hi : i < bs.length) (hx : 0 ≤ x ∧ x ≤ 255) : ∃ q : Bool, ((sumS (bs.set i x) : Int) == (sumS bs : Int)) = q ∧ (x == bs.getD i 0) = q := by
  by_cases h : x = bs.getD i 0
  · refine ⟨true, ?_, by simpa using h⟩
    have e : bs.set i x = bs := by rw [h]; simp [List.getD, List.getElem?_eq_getElem hi]
    rw [e]; simp
  · refine ⟨false, ?_, by simpa using h⟩
    simp only [beq_eq_false_iff_ne]
    intro h2
    have l1 := goes_lt bs 4294967295 hb (by decide)
    have hb2 : ∀ b ∈ bs.set i x, 0 ≤ b ∧ b ≤ 255 := fun b hb' => by
      rcases List.mem_or_eq_of_mem_set hb' with h3 | h3
      · exact hb b h3
      · subst h3; exact hx
    have l2 := goes_lt (bs.set i x) 4294967295 hb2 (by decide)
    unfold sumS at h2
    exact h (goes_set bs i x 0 hb hi hx 4294967295 (by decide) (by omega))

set_option maxHeartbeats 4000000 in
set_option maxRecDepth 100000 in
theorem tells_walk (A : Option Addr) (n cc : Nat) (bs : List Int) (a b x : Int) (w : World) (hb : Bs w A n cc bs) (a0 : (Lit.int .u16 a).wf = true) (b0 : (Lit.int .u16 b).wf = true) (x0 : (Lit.int .u8 x).wf = true) :
    Calls Try.prog 6 #[.slice A n cc, .agg #[.int .u16 a, .int .u16 b], .int .u8 x] w fun e w' => e = .returned (.bool true) ∧ Below w.heap.size w w' := by
  have ha := bounds_u16 a0
  have hx := bounds_u8 x0
  clear a0 b0 x0
  obtain ⟨ha0, ha1⟩ := ha
  obtain ⟨hx0, hx1⟩ := hx
  have HB := Lib.hid (hb.alloc (.cells #[.int .u16 a, .int .u16 b] 35))
  have B0 := Lib.hid ((Below.refl w.heap.size w).alloc (Nat.le_refl _) (.cells #[.int .u16 a, .int .u16 b] 35))
  have hA : 0 < n → ∃ bb off, A = some ⟨bb, off, none⟩ ∧ bb < w.heap.size := fun h => by obtain ⟨bb, off, e, h2, _⟩ := hb.mem h; exact ⟨bb, off, e, h2⟩
  have HA := Lib.hid hA
  clear hb hA
  by_cases hn : (1000 : Int) < n
  · have hd : decide ((1000 : Int) < n) = true := by simpa using hn
    go_enter Try.func6, Try.ntmps6
    go_wp2_with fail
    refine (crcAlive_any _).mono ?_; rintro e w1 ⟨rfl, hw1⟩
    have HW1 := Lib.hid (B0.out.trans (hw1.mono (by simp))); clear hw1
    go_wp2_with fail
    go_ret
    exact ⟨rfl, HW1.out⟩
  · have hd : decide ((1000 : Int) < n) = false := by simpa using hn
    by_cases hn0 : n = 0
    · subst hn0
      go_enter Try.func6, Try.ntmps6
      go_wp2_with fail
      refine (crcAlive_any _).mono ?_; rintro e w1 ⟨rfl, hw1⟩
      have HW1 := Lib.hid (B0.out.trans (hw1.mono (by simp))); clear hw1
      go_wp2_with fail
      go_ret
      exact ⟨rfl, HW1.out⟩
    · have hd2 : ((n : Int) == 0) = false := by simpa using hn0
      obtain ⟨bb, off, rfl, hbl⟩ := HA.out (by omega)
      obtain ⟨i5, hi5, hz0, hz1, hz2⟩ := info_parts infoByte
      have HI := Lib.hid hi5; have HZ0 := Lib.hid hz0; have HZ1 := Lib.hid hz1; have HZ2 := Lib.hid hz2; clear hi5 hz0 hz1 hz2
      have hpos : 0 < n := by omega
      clear hn0
      go_enter Try.func6, Try.ntmps6
      go_wp2_with fail
      refine (crcAlive_any _).mono ?_; rintro e w1 ⟨rfl, hw1⟩
      have hc0 : w1.cell? ⟨w.heap.size, 0, none⟩ = some (.int .u16 a) := by
        rw [hw1.cell (p := ⟨w.heap.size, 0, none⟩) (by simp), cell_of_row _ w.heap.size 0 _ 35 (0, 0) (heap_alloc_new w _)]; rfl
      have HW1 := Lib.hid (B0.out.trans (hw1.mono (by simp))); have HB1 := Lib.hid (HB.out.below hw1)
      have hlt1 : w.heap.size < w1.heap.size := by have := hw1.size; simp at this; omega
      clear hw1
      have hi0 : 0 ≤ a % (n : Int) := Int.emod_nonneg _ (by omega)
      have hi1 : a % (n : Int) < (n : Int) := Int.emod_lt_of_pos _ (by omega)
      obtain ⟨i, hi⟩ : ∃ i : Nat, a % (n : Int) = i := ⟨(a % (n : Int)).toNat, by omega⟩
      rw [hi] at hi0 hi1
      obtain ⟨A2, c2, w2, hap, hown, hb2, hbel⟩ := app_lit0 (P := Try.prog) w1 28 28 5 i5 _ Try.underlying28 HI.out HZ0.out HZ1.out HZ2.out rfl _ n cc bs HB1.out (by omega)
      rcases hown.2 with ⟨_, h0⟩ | ⟨g, cap, cur, hv, hg, hh, _, _, _, _⟩
      · omega
      · injection hv with hv1 hv2 hv3
        subst hv1 hv3
        have hcell := hb2.mem hpos
        obtain ⟨g', off', he', hgl, hcs⟩ := hcell
        injection he' with he'; injection he' with e1 e2; subst e1; subst e2
        have hci := hcs i (by omega)
        rw [Nat.zero_add] at hci
        have hfi := frozen_of_row w2 g i cur 5 hh
        have hb3 := hb2.stored (i := i) (x := x) (by omega) hx0 hx1
        have hbel3 : Below w1.heap.size w1 (w2.setCell ⟨g, i, none⟩ (.int .u8 x)) := hbel.setCell (p := ⟨g, i, none⟩) hg _
        have HB3 := Lib.hid hb3; have HW3 := Lib.hid (HW1.out.trans (hbel3.mono HW1.out.size)); have HO3 := Lib.hid (HB1.out.below hbel3)
        obtain ⟨bb2, off2, y, hA2, hbl2, hcy, y0, y1, _, hget⟩ := HO3.out.look i (by omega)
        injection hA2 with hA2; injection hA2 with e1 e2; subst e1; subst e2
        have hsum := sumS_set bs i x HO3.out.byte (by have := HO3.out.len; omega) ⟨hx0, hx1⟩
        rw [hget] at hsum
        obtain ⟨q, hq1, hq2⟩ := hsum
        have HCY := Lib.hid hcy; have HBL := Lib.hid hbl2
        have li0 : (0 : Int) ≤ (i : Int) := by omega
        have li : (i : Int) < (n : Int) := by omega
        have liN : i < n := by omega
        clear hown hb2 hbel hh hcs hb3 hbel3 hget hcy hbl2 hi0 hi1 hg hgl
        go_wp2_with (at_builtin; refine wpl_app_run rfl rfl rfl rfl hap ?_)
        generalize w2.setCell ⟨g, i, none⟩ (.int .u8 x) = w3 at *
        clear hap hci hfi hc0
        have HS1 := fun W (hW : Bs W (some ⟨g, 0, none⟩) n c2 (bs.set i x)) => sum_any (some ⟨g, 0, none⟩) n c2 _ W hW (by omega)
        have HS2 := fun W (hW : Bs W (some ⟨bb, off, none⟩) n cc bs) => sum_any (some ⟨bb, off, none⟩) n cc bs W hW (by omega)
        generalize sumS (bs.set i x) = s1 at *
        generalize sumS bs = s2 at *
        have K1 := Lib.hid HS1; have K2 := Lib.hid HS2; clear HS1 HS2
        refine wp_region_noPanic ?_
        refine wp_region_held_drew (S := (fun wv => Below w3.heap.size w3 wv)) (by kernel_rfl) ((Below.refl w3.heap.size w3).drew) (fun hS => ?_)
        refine wpAnyH_take (i := 0) (oi := ({ dst := some 32, op := Op.move (Operand.tmp 8), type := 28, pos := "law.go:70", after := #[], guard := none } : Oper)) (v := ?_) rfl (by kernel_rfl) (by kernel_rfl) (by kernel_rfl) (fun _ _ _ h => h) (Or.inl ⟨by rfl, ?_⟩) hS ?_
        rotate_left
        · intro wv _; go_simp; try with_reducible rfl
        try simp only [Act.put, List.setIfInBounds_toArray, List.set_cons_zero, List.set_cons_succ]
        refine wpAnyH_take (i := 2) (oi := ({ dst := some 34, op := Op.move (Operand.tmp 0), type := 28, pos := "law.go:70", after := #[], guard := none } : Oper)) (v := ?_) rfl (by kernel_rfl) (by kernel_rfl) (by kernel_rfl) (fun _ _ _ h => h) (Or.inl ⟨by rfl, ?_⟩) hS ?_
        rotate_left
        · intro wv _; go_simp; try with_reducible rfl
        try simp only [Act.put, List.setIfInBounds_toArray, List.set_cons_zero, List.set_cons_succ]
        refine wpAnyH_take (i := 5) (oi := ({ dst := some 37, op := Op.move (Operand.tmp 2), type := 5, pos := "law.go:70", after := #[], guard := none } : Oper)) (v := ?_) rfl (by kernel_rfl) (by kernel_rfl) (by kernel_rfl) (fun _ _ _ h => h) (Or.inl ⟨by rfl, ?_⟩) hS ?_
        rotate_left
        · intro wv _; go_simp; try with_reducible rfl
        try simp only [Act.put, List.setIfInBounds_toArray, List.set_cons_zero, List.set_cons_succ]
        refine wpAnyH_take (i := 6) (oi := ({ dst := some 38, op := Op.move (Operand.tmp 0), type := 28, pos := "law.go:70", after := #[], guard := none } : Oper)) (v := ?_) rfl (by kernel_rfl) (by kernel_rfl) (by kernel_rfl) (fun _ _ _ h => h) (Or.inl ⟨by rfl, ?_⟩) hS ?_
        rotate_left
        · intro wv _; go_simp; try with_reducible rfl
        try simp only [Act.put, List.setIfInBounds_toArray, List.set_cons_zero, List.set_cons_succ]
        refine wpAnyH_take (i := 7) (oi := ({ dst := some 39, op := Op.move (Operand.tmp 7), type := 3, pos := "law.go:70", after := #[], guard := none } : Oper)) (v := ?_) rfl (by kernel_rfl) (by kernel_rfl) (by kernel_rfl) (fun _ _ _ h => h) (Or.inl ⟨by rfl, ?_⟩) hS ?_
        rotate_left
        · intro wv _; go_simp; try with_reducible rfl
        try simp only [Act.put, List.setIfInBounds_toArray, List.set_cons_zero, List.set_cons_succ]
        refine wpAnyH_take (i := 8) (oi := ({ dst := some 40, op := Op.indexAddr 28 (Operand.tmp 38) (Operand.tmp 39), type := 0, pos := "law.go:70", after := #[{ on := 6, ground := Ground.data }, { on := 7, ground := Ground.data }], guard := none } : Oper)) (v := ?_) rfl (by kernel_rfl) (by kernel_rfl) (by kernel_rfl) (fun _ _ _ h => h) (Or.inl ⟨by rfl, ?_⟩) hS ?_
        rotate_left
        · intro wv _; go_simp; try with_reducible rfl
        try simp only [Act.put, List.setIfInBounds_toArray, List.set_cons_zero, List.set_cons_succ]
        refine wpAnyH_take (i := 9) (oi := ({ dst := some 41, op := Op.load 5 (Operand.tmp 40), type := 5, pos := "law.go:70", after := #[{ on := 8, ground := Ground.data }], guard := none } : Oper)) (v := ?_) rfl (by kernel_rfl) (by kernel_rfl) (by kernel_rfl) (fun _ _ _ h => h) (Or.inl ⟨by rfl, ?_⟩) hS ?_
        rotate_left
        · intro wv hS; have hrun := (hS.cell (p := ⟨_, _, none⟩) HBL.out).trans HCY.out; go_simp; try with_reducible rfl
        try simp only [Act.put, List.setIfInBounds_toArray, List.set_cons_zero, List.set_cons_succ]
        refine wpAnyH_take (i := 10) (oi := ({ dst := some 42, op := Op.binOp BinOp.eql 5 (Operand.tmp 37) (Operand.tmp 41) 5, type := 4, pos := "law.go:70", after := #[{ on := 5, ground := Ground.data }, { on := 9, ground := Ground.data }], guard := none } : Oper)) (v := ?_) rfl (by kernel_rfl) (by kernel_rfl) (by kernel_rfl) (fun _ _ _ h => h) (Or.inl ⟨by rfl, ?_⟩) hS ?_
        rotate_left
        · intro wv _; go_simp; try with_reducible rfl
        try simp only [Act.put, List.setIfInBounds_toArray, List.set_cons_zero, List.set_cons_succ]
        refine wpAnyH_ready (rs := [1]) (by kernel_rfl) (by simp) (AllReadyH.cons (o := ({ dst := some 33, op := Op.call { callee := Callee.value (Operand.func 13), args := #[Operand.tmp 32], argTypes := #[28] }, type := 23, pos := "law.go:70", after := #[{ on := 0, ground := Ground.data }], guard := none } : Oper)) rfl (fun K hK => ?_) AllReadyH.nil)
        go_simp
        refine (K1.out _ HB3.out.drew).mono ?_; rintro e w4 ⟨rfl, hw4⟩
        have HW4 := Lib.hid (HW3.out.drew.trans (hw4.mono HW3.out.size)); have HO4 := Lib.hid (HO3.out.drew.below hw4)
        replace hS := hS.trans hw4
        clear hw4
        go_wp2_with fail
        refine Shut.out hK _ _ (by first | trivial | exact hS) (fun _ => ?_)
        clear hK K
        try simp only [Act.put, List.setIfInBounds_toArray, List.set_cons_zero, List.set_cons_succ]
        refine wpAnyH_ready (rs := [3]) (by kernel_rfl) (by simp) (AllReadyH.cons (o := ({ dst := some 35, op := Op.call { callee := Callee.value (Operand.func 13), args := #[Operand.tmp 34], argTypes := #[28] }, type := 23, pos := "law.go:70", after := #[{ on := 2, ground := Ground.data }, { on := 1, ground := Ground.chain }], guard := none } : Oper)) rfl (fun K hK => ?_) AllReadyH.nil)
        go_simp
        refine (K2.out _ HO4.out).mono ?_; rintro e w5 ⟨rfl, hw5⟩
        have HW5 := Lib.hid (HW4.out.trans (hw5.mono HW4.out.size))
        replace hS := hS.trans (hw5.mono hS.size)
        clear hw5
        go_wp2_with fail
        refine Shut.out hK _ _ (by first | trivial | exact hS) (fun _ => ?_)
        clear hK K
        try simp only [Act.put, List.setIfInBounds_toArray, List.set_cons_zero, List.set_cons_succ]
        refine wpAnyH_take (i := 4) (oi := ({ dst := some 36, op := Op.binOp BinOp.eql 23 (Operand.tmp 33) (Operand.tmp 35) 23, type := 4, pos := "law.go:70", after := #[{ on := 1, ground := Ground.data }, { on := 3, ground := Ground.data }], guard := none } : Oper)) (v := ?_) rfl (by kernel_rfl) (by kernel_rfl) (by kernel_rfl) (fun _ _ _ h => h) (Or.inl ⟨by rfl, ?_⟩) hS ?_
        rotate_left
        · intro wv _; go_simp; try with_reducible rfl
        try simp only [Act.put, List.setIfInBounds_toArray, List.set_cons_zero, List.set_cons_succ]
        refine wpAnyH_take (i := 11) (oi := ({ dst := some 43, op := Op.binOp BinOp.eql 4 (Operand.tmp 36) (Operand.tmp 42) 4, type := 4, pos := "law.go:70", after := #[{ on := 4, ground := Ground.data }, { on := 10, ground := Ground.data }], guard := none } : Oper)) (v := ?_) rfl (by kernel_rfl) (by kernel_rfl) (by kernel_rfl) (fun _ _ _ h => h) (Or.inl ⟨by rfl, ?_⟩) hS ?_
        rotate_left
        · intro wv _; go_simp; try with_reducible rfl
        try simp only [Act.put, List.setIfInBounds_toArray, List.set_cons_zero, List.set_cons_succ]
        refine wpAnyH_take (i := 12) (oi := ({ dst := some 6, op := Op.assign (Operand.tmp 43), type := 4, pos := "law.go:70", after := #[{ on := 11, ground := Ground.data }, { on := 3, ground := Ground.chain }, { on := 0, ground := Ground.phase }, { on := 1, ground := Ground.phase }, { on := 2, ground := Ground.phase }, { on := 3, ground := Ground.phase }, { on := 4, ground := Ground.phase }, { on := 5, ground := Ground.phase }, { on := 6, ground := Ground.phase }, { on := 7, ground := Ground.phase }, { on := 8, ground := Ground.phase }, { on := 9, ground := Ground.phase }, { on := 10, ground := Ground.phase }, { on := 11, ground := Ground.phase }], guard := none } : Oper)) (v := ?_) rfl (by kernel_rfl) (by kernel_rfl) (by kernel_rfl) (fun _ _ _ h => h) (Or.inl ⟨by rfl, ?_⟩) hS ?_
        rotate_left
        · intro wv _; go_simp; try with_reducible rfl
        try simp only [Act.put, List.setIfInBounds_toArray, List.set_cons_zero, List.set_cons_succ]
        refine wpAnyH_done (by kernel_rfl) ?_ _
        refine NoPanic.normal ?_
        go_wp2
        go_ret
        exact ⟨by simp [hq1, hq2], HW5.out⟩
end Go.Proofs.Ytahgacjclffjcaa
