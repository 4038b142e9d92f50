/- CrcPuts walked to its end: it answers true, over any world; no condition. -/
import Derived.Test.YtahgacjclffjcaaCrcH
namespace Go.Proofs.Ytahgacjclffjcaa
set_option linter.unusedVariables false
set_option linter.unusedSimpArgs false
open Go.RowKit

/-- a row so far. -/
def rowL (X : List Int) (n i : Nat) : List Int := (List.range n).map fun j => if j < i then X.getD j 0 else 0
theorem rowL_len (X : List Int) (n i : Nat) : (rowL X n i).length = n := by simp [rowL]
theorem rowL_zero (X : List Int) (n : Nat) : rowL X n 0 = List.replicate n 0 := by
  apply List.ext_getElem <;> simp [rowL]
theorem rowL_all (X : List Int) (n : Nat) (h : X.length = n) : rowL X n n = X := by
  apply List.ext_getElem
  · simp [rowL, h]
  · intro k h1 h2
    have hk : k < n := by simpa [rowL] using h1
    simp [rowL, hk, List.getD, List.getElem?_eq_getElem h2]
theorem rowL_set (X : List Int) (n i : Nat) (v : Int) (hv : X.getD i 0 = v) : ((rowL X n i).map (Value.int .u8)).toArray.setIfInBounds i (.int .u8 v) = ((rowL X n (i + 1)).map (Value.int .u8)).toArray := by
  apply Array.ext'
  simp only [Array.toList_setIfInBounds]
  apply List.ext_getElem
  · simp [rowL_len]
  · intro k h1 h2
    simp only [List.getElem_set, rowL, List.getElem_map, List.getElem_range]
    by_cases hk : i = k
    · subst hk; rw [if_pos rfl, if_pos (by omega), hv]
    · rw [if_neg hk]
      congr 1
      by_cases h3 : k < i
      · rw [if_pos h3, if_pos (by omega)]
      · rw [if_neg h3, if_neg (by omega)]
theorem zip3_len : ∀ (xs bs cs : List Int), xs.length = bs.length → xs.length = cs.length → (zip3 xs bs cs).length = xs.length
  | [], _, _, _, _ => by simp [zip3]
  | x :: xs, [], _, h, _ => by simp at h
  | x :: xs, b :: bs, [], _, h => by simp at h
  | x :: xs, b :: bs, c :: cs, h1, h2 => by simp only [zip3, List.length_cons]; rw [zip3_len xs bs cs (by simpa using h1) (by simpa using h2)]
theorem zip3_get : ∀ (xs bs cs : List Int) (i : Nat), i < xs.length → i < bs.length → i < cs.length → (zip3 xs bs cs).getD i 0 = xor3 (xs.getD i 0) (bs.getD i 0) (cs.getD i 0)
  | [], _, _, _, h, _, _ => by simp at h
  | x :: xs, [], _, _, _, h, _ => by simp at h
  | x :: xs, b :: bs, [], _, _, _, h => by simp at h
  | x :: xs, b :: bs, c :: cs, 0, _, _, _ => by simp [zip3]
  | x :: xs, b :: bs, c :: cs, i + 1, h1, h2, h3 => by
    have := zip3_get xs bs cs i (by simpa using h1) (by simpa using h2) (by simpa using h3)
    simpa [zip3] using this
theorem xor3_byte {a b c : Int} (ha : 0 ≤ a ∧ a ≤ 255) (hb : 0 ≤ b ∧ b ≤ 255) (hc : 0 ≤ c ∧ c ≤ 255) : 0 ≤ xor3 a b c ∧ xor3 a b c ≤ 255 := by
  have h1 : a.toNat ^^^ b.toNat < 2 ^ 8 := Nat.xor_lt_two_pow (by omega) (by omega)
  have h2 : a.toNat ^^^ b.toNat ^^^ c.toNat < 2 ^ 8 := Nat.xor_lt_two_pow h1 (by omega)
  unfold xor3; omega
theorem zip3_byte : ∀ (xs bs cs : List Int), (∀ b ∈ xs, 0 ≤ b ∧ b ≤ 255) → (∀ b ∈ bs, 0 ≤ b ∧ b ≤ 255) → (∀ b ∈ cs, 0 ≤ b ∧ b ≤ 255) → ∀ b ∈ zip3 xs bs cs, 0 ≤ b ∧ b ≤ 255
  | [], _, _, _, _, _ => by simp [zip3]
  | x :: xs, [], _, _, _, _ => by simp [zip3]
  | x :: xs, b :: bs, [], _, _, _ => by simp [zip3]
  | x :: xs, b :: bs, c :: cs, h1, h2, h3 => by
    intro y hy
    simp only [zip3, List.mem_cons] at hy
    rcases hy with rfl | hy
    · exact xor3_byte (h1 x (by simp)) (h2 b (by simp)) (h3 c (by simp))
    · exact zip3_byte xs bs cs (fun b hb => h1 b (by simp [hb])) (fun b hb => h2 b (by simp [hb])) (fun b hb => h3 b (by simp [hb])) y hy
theorem getD_take (xs : List Int) (n i : Nat) (h : i < n) : (xs.take n).getD i 0 = xs.getD i 0 := by simp [List.getD, List.getElem?_take, h]
theorem Bs.of_heap {w : World} {g : Nat} {e : TypeId} {fr : Nat × Nat} {xs : List Int} (h : w.heap[g]? = some (.cells (xs.map (Value.int .u8)).toArray e fr)) (hx : ∀ b ∈ xs, 0 ≤ b ∧ b ≤ 255) {q : Nat} (hq : xs.length = q) :
    Bs w (some ⟨g, 0, none⟩) q q xs :=
  by
  have hg : g < w.heap.size := by
    rcases Nat.lt_or_ge g w.heap.size with h2 | h2
    · exact h2
    · rw [Array.getElem?_eq_none h2] at h
      cases h
  refine ⟨hq, Nat.le_refl _, hx, fun _ => ⟨g, 0, rfl, hg, fun i hi => ?_⟩⟩
  rw [cell_of_row _ g (0 + i) _ e fr h]
  have : i < xs.length := by omega
  simp [this]

set_option maxHeartbeats 4000000 in
set_option maxRecDepth 100000 in
theorem puts_walk (A : Option Addr) (n1 k1 : Nat) (xs : List Int) (B : Option Addr) (n2 k2 : Nat) (bs : List Int) (C : Option Addr) (n3 k3 : Nat) (cs : List Int) (w : World)
    (ha : Bs w A n1 k1 xs) (hb : Bs w B n2 k2 bs) (hc : Bs w C n3 k3 cs) :
    Calls Try.prog 7 #[.slice A n1 k1, .slice B n2 k2, .slice C n3 k3] w fun e w' => e = .returned (.bool true) ∧ Below w.heap.size w w' := by
  have HA := Lib.hid ha; have HB := Lib.hid hb; have HC := Lib.hid hc
  clear ha hb hc
  obtain ⟨m, hm⟩ : ∃ m, min (min (min n1 n2) n3) 500 = m := ⟨_, rfl⟩
  have hm1 : m ≤ n1 := by omega
  have hm2 : m ≤ n2 := by omega
  have hm3 : m ≤ n3 := by omega
  have hm5 : m ≤ 500 := by omega
  have hmin : ∀ (W : World) (ts : Array TypeId) (t : TypeId), (Builtin.min_ ts t #[.int .i64 (n1 : Int), .int .i64 (n2 : Int), .int .i64 (n3 : Int), .int .i64 500]).run Try.prog W = .ok (.int .i64 (m : Int)) W := by
    intro W ts t
    rw [min4]
    have : min (min (min (n1 : Int) (n2 : Int)) (n3 : Int)) 500 = (m : Int) := by omega
    rw [this]
  have hmk := run_make_row' (P := Try.prog) 28 5 (.int .u8 0) 1 Try.underlying28 infoByte rfl .i64 .i64 m (by omega) (by omega)
  clear hm
  obtain ⟨X, hX⟩ : ∃ X, zip3 (xs.take m) (bs.take m) (cs.take m) = X := ⟨_, rfl⟩
  have lA : (xs.take m).length = m := by rw [List.length_take, HA.out.len]; omega
  have lB : (bs.take m).length = m := by rw [List.length_take, HB.out.len]; omega
  have lC : (cs.take m).length = m := by rw [List.length_take, HC.out.len]; omega
  have bA : ∀ b ∈ xs.take m, 0 ≤ b ∧ b ≤ 255 := fun b h => HA.out.byte b (List.mem_of_mem_take h)
  have bB : ∀ b ∈ bs.take m, 0 ≤ b ∧ b ≤ 255 := fun b h => HB.out.byte b (List.mem_of_mem_take h)
  have bC : ∀ b ∈ cs.take m, 0 ≤ b ∧ b ≤ 255 := fun b h => HC.out.byte b (List.mem_of_mem_take h)
  have lX := Lib.hid (show X.length = m by rw [← hX, zip3_len _ _ _ (by omega) (by omega), lA])
  have bX := Lib.hid (show ∀ b ∈ X, 0 ≤ b ∧ b ≤ 255 by rw [← hX]; exact zip3_byte _ _ _ bA bB bC)
  have gX := Lib.hid (show ∀ i, i < m → X.getD i 0 = xor3 (xs.getD i 0) (bs.getD i 0) (cs.getD i 0) by
    intro i hi
    rw [← hX, zip3_get _ _ _ i (by omega) (by omega) (by omega), getD_take _ _ _ hi, getD_take _ _ _ hi, getD_take _ _ _ hi])
  have hsum := sumS_xor3 (xs.take m) (bs.take m) (cs.take m) bA bB bC (by omega) (by omega)
  rw [hX] at hsum
  have HSUM := Lib.hid hsum; have HX := Lib.hid hX
  clear hX lA lB lC bA bB bC hsum
  go_enter Try.func7, Try.ntmps7
  go_wp2_with fail
  refine (crcAlive_any _).mono ?_; rintro e w1 ⟨rfl, hw1⟩
  have HW1 := Lib.hid hw1; have HA1 := Lib.hid (HA.out.below hw1); have HB1 := Lib.hid (HB.out.below hw1); have HC1 := Lib.hid (HC.out.below hw1); clear hw1
  go_wp2_with fail
  have h0 : (w1.alloc (.cells (madeCells #[.int .u8 0] m) 5)).heap[w1.heap.size]? = some (.cells ((rowL X m 0).map (Value.int .u8)).toArray 5 (0, 0)) := by
    rw [heap_alloc_new, rowL_zero]
    have := toList_madeCells_one (.int .u8 0) m
    congr 2
    apply Array.ext'
    rw [this]; simp
  have H0 := Lib.hid h0; have HB0 := Lib.hid ((Below.refl w1.heap.size w1).alloc (Nat.le_refl _) (.cells (madeCells #[.int .u8 0] m) 5))
  clear h0 hmk hmin
  go_loopw [9] (fun iv wr => ∃ i : Nat, iv = .int .i64 i ∧ i ≤ m ∧ Hid (wr.heap[w1.heap.size]? = some (.cells ((rowL X m i).map (Value.int .u8)).toArray 5 (0, 0))) ∧ Hid (Below w1.heap.size w1 wr)) (fun iv _ => m - (intOf iv).toNat)
  case atStart => exact ⟨0, rfl, by omega, H0, HB0⟩
  case round =>
    obtain ⟨i, rfl, hi, ht, hbl⟩ := hrel
    by_cases hlt : i < m
    · obtain ⟨pa, oa, xa, hAe, hla, hca, xa0, xa1, _, hga⟩ := HA1.out.look i (by omega)
      obtain ⟨pb, ob, xb, hBe, hlb, hcb, xb0, xb1, _, hgb⟩ := HB1.out.look i (by omega)
      obtain ⟨pc, oc, xc, hCe, hlc, hcc, xc0, xc1, _, hgc⟩ := HC1.out.look i (by omega)
      subst hAe hBe hCe
      have hgx := gX.out i hlt
      rw [hga, hgb, hgc] at hgx
      have e1 : bits .xor .u8 xa xb = ((xa.toNat ^^^ xb.toNat : Nat) : Int) := u8_xor _ _ xa0 (by omega) xb0 (by omega)
      have l1 : xa.toNat ^^^ xb.toNat < 256 := Nat.xor_lt_two_pow (n := 8) (by omega) (by omega)
      have e2 : bits .xor .u8 ((xa.toNat ^^^ xb.toNat : Nat) : Int) xc = xor3 xa xb xc := by
        rw [u8_xor _ _ (by omega) (by omega) xc0 (by omega)]; simp [xor3]
      generalize xa.toNat ^^^ xb.toNat = z at *
      generalize xor3 xa xb xc = v at *
      have hcell := cell_of_row wr w1.heap.size i _ 5 (0, 0) ht.out
      have hcell2 : wr.cell? ⟨w1.heap.size, i, none⟩ = some (.int .u8 0) := by rw [hcell]; simp [rowL, hlt]
      have hf := frozen_of_row wr w1.heap.size i _ 5 ht.out
      have ht2 := heap_setCell_same wr.drew w1.heap.size i _ 5 (.int .u8 v) ht.out
      rw [rowL_set X m i v hgx] at ht2
      have hb2 := hbl.out.drew.setCell (p := ⟨w1.heap.size, i, none⟩) (Nat.le_refl _) (.int .u8 v)
      have HT2 := Lib.hid ht2; have HB2 := Lib.hid hb2
      have HCA := Lib.hid hca; have HCB := Lib.hid hcb; have HCC := Lib.hid hcc; have HLA := Lib.hid hla; have HLB := Lib.hid hlb; have HLC := Lib.hid hlc
      have i0 : (0 : Int) ≤ (i : Int) := by omega
      have i1 : (i : Int) < (n1 : Int) := by omega
      have i2 : (i : Int) < (n2 : Int) := by omega
      have i3 : (i : Int) < (n3 : Int) := by omega
      have i4 : (i : Int) < (m : Int) := by omega
      clear hgx hga hgb hgc hcell ht2 hb2 hca hcb hcc hla hlb hlc
      go_wp2_with fail
      refine wp_region_noPanic ?_
      refine wp_region_held_drew (S := (fun wv => Below w1.heap.size w1 wv)) (by kernel_rfl) (hbl.out.drew) (fun hS => ?_)
      refine wpAnyH_take (i := 0) (oi := ({ dst := some 26, op := Op.move (Operand.tmp 8), type := 28, pos := "law.go:81", after := #[], guard := none } : Oper)) (v := ?_) rfl (by kernel_rfl) (by kernel_rfl) (by kernel_rfl) (fun _ _ _ h => h) (Or.inl ⟨by rfl, ?_⟩) hS ?_
      rotate_left
      · intro wv _; go_simp; try with_reducible rfl
      try simp only [Act.put, List.setIfInBounds_toArray, List.set_cons_zero, List.set_cons_succ]
      refine wpAnyH_take (i := 1) (oi := ({ dst := some 27, op := Op.move (Operand.tmp 9), type := 3, pos := "law.go:81", after := #[], guard := none } : Oper)) (v := ?_) rfl (by kernel_rfl) (by kernel_rfl) (by kernel_rfl) (fun _ _ _ h => h) (Or.inl ⟨by rfl, ?_⟩) hS ?_
      rotate_left
      · intro wv _; go_simp; try with_reducible rfl
      try simp only [Act.put, List.setIfInBounds_toArray, List.set_cons_zero, List.set_cons_succ]
      refine wpAnyH_take (i := 2) (oi := ({ dst := some 28, op := Op.move (Operand.tmp 0), type := 28, pos := "law.go:81", after := #[], guard := none } : Oper)) (v := ?_) rfl (by kernel_rfl) (by kernel_rfl) (by kernel_rfl) (fun _ _ _ h => h) (Or.inl ⟨by rfl, ?_⟩) hS ?_
      rotate_left
      · intro wv _; go_simp; try with_reducible rfl
      try simp only [Act.put, List.setIfInBounds_toArray, List.set_cons_zero, List.set_cons_succ]
      refine wpAnyH_take (i := 3) (oi := ({ dst := some 29, op := Op.move (Operand.tmp 9), type := 3, pos := "law.go:81", after := #[], guard := none } : Oper)) (v := ?_) rfl (by kernel_rfl) (by kernel_rfl) (by kernel_rfl) (fun _ _ _ h => h) (Or.inl ⟨by rfl, ?_⟩) hS ?_
      rotate_left
      · intro wv _; go_simp; try with_reducible rfl
      try simp only [Act.put, List.setIfInBounds_toArray, List.set_cons_zero, List.set_cons_succ]
      refine wpAnyH_take (i := 4) (oi := ({ dst := some 30, op := Op.indexAddr 28 (Operand.tmp 28) (Operand.tmp 29), type := 0, pos := "law.go:81", after := #[{ on := 2, ground := Ground.data }, { on := 3, ground := Ground.data }], guard := none } : Oper)) (v := ?_) rfl (by kernel_rfl) (by kernel_rfl) (by kernel_rfl) (fun _ _ _ h => h) (Or.inl ⟨by rfl, ?_⟩) hS ?_
      rotate_left
      · intro wv _; go_simp; try with_reducible rfl
      try simp only [Act.put, List.setIfInBounds_toArray, List.set_cons_zero, List.set_cons_succ]
      refine wpAnyH_take (i := 5) (oi := ({ dst := some 31, op := Op.load 5 (Operand.tmp 30), type := 5, pos := "law.go:81", after := #[{ on := 4, ground := Ground.data }], guard := none } : Oper)) (v := ?_) rfl (by kernel_rfl) (by kernel_rfl) (by kernel_rfl) (fun _ _ _ h => h) (Or.inl ⟨by rfl, ?_⟩) hS ?_
      rotate_left
      · intro wv hS; have hrun := (hS.cell (p := ⟨_, _, none⟩) HLA.out).trans HCA.out; go_simp; try with_reducible rfl
      try simp only [Act.put, List.setIfInBounds_toArray, List.set_cons_zero, List.set_cons_succ]
      refine wpAnyH_take (i := 6) (oi := ({ dst := some 32, op := Op.move (Operand.tmp 1), type := 28, pos := "law.go:81", after := #[], guard := none } : Oper)) (v := ?_) rfl (by kernel_rfl) (by kernel_rfl) (by kernel_rfl) (fun _ _ _ h => h) (Or.inl ⟨by rfl, ?_⟩) hS ?_
      rotate_left
      · intro wv _; go_simp; try with_reducible rfl
      try simp only [Act.put, List.setIfInBounds_toArray, List.set_cons_zero, List.set_cons_succ]
      refine wpAnyH_take (i := 7) (oi := ({ dst := some 33, op := Op.move (Operand.tmp 9), type := 3, pos := "law.go:81", after := #[], guard := none } : Oper)) (v := ?_) rfl (by kernel_rfl) (by kernel_rfl) (by kernel_rfl) (fun _ _ _ h => h) (Or.inl ⟨by rfl, ?_⟩) hS ?_
      rotate_left
      · intro wv _; go_simp; try with_reducible rfl
      try simp only [Act.put, List.setIfInBounds_toArray, List.set_cons_zero, List.set_cons_succ]
      refine wpAnyH_take (i := 8) (oi := ({ dst := some 34, op := Op.indexAddr 28 (Operand.tmp 32) (Operand.tmp 33), type := 0, pos := "law.go:81", after := #[{ on := 6, ground := Ground.data }, { on := 7, ground := Ground.data }], guard := none } : Oper)) (v := ?_) rfl (by kernel_rfl) (by kernel_rfl) (by kernel_rfl) (fun _ _ _ h => h) (Or.inl ⟨by rfl, ?_⟩) hS ?_
      rotate_left
      · intro wv _; go_simp; try with_reducible rfl
      try simp only [Act.put, List.setIfInBounds_toArray, List.set_cons_zero, List.set_cons_succ]
      refine wpAnyH_take (i := 9) (oi := ({ dst := some 35, op := Op.load 5 (Operand.tmp 34), type := 5, pos := "law.go:81", after := #[{ on := 8, ground := Ground.data }], guard := none } : Oper)) (v := ?_) rfl (by kernel_rfl) (by kernel_rfl) (by kernel_rfl) (fun _ _ _ h => h) (Or.inl ⟨by rfl, ?_⟩) hS ?_
      rotate_left
      · intro wv hS; have hrun := (hS.cell (p := ⟨_, _, none⟩) HLB.out).trans HCB.out; go_simp; try with_reducible rfl
      try simp only [Act.put, List.setIfInBounds_toArray, List.set_cons_zero, List.set_cons_succ]
      refine wpAnyH_take (i := 10) (oi := ({ dst := some 36, op := Op.binOp BinOp.xor 5 (Operand.tmp 31) (Operand.tmp 35) 5, type := 5, pos := "law.go:81", after := #[{ on := 5, ground := Ground.data }, { on := 9, ground := Ground.data }], guard := none } : Oper)) (v := ?_) rfl (by kernel_rfl) (by kernel_rfl) (by kernel_rfl) (fun _ _ _ h => h) (Or.inl ⟨by rfl, ?_⟩) hS ?_
      rotate_left
      · intro wv _; go_simp; try with_reducible rfl
      try simp only [Act.put, List.setIfInBounds_toArray, List.set_cons_zero, List.set_cons_succ]
      refine wpAnyH_take (i := 11) (oi := ({ dst := some 37, op := Op.move (Operand.tmp 2), type := 28, pos := "law.go:81", after := #[], guard := none } : Oper)) (v := ?_) rfl (by kernel_rfl) (by kernel_rfl) (by kernel_rfl) (fun _ _ _ h => h) (Or.inl ⟨by rfl, ?_⟩) hS ?_
      rotate_left
      · intro wv _; go_simp; try with_reducible rfl
      try simp only [Act.put, List.setIfInBounds_toArray, List.set_cons_zero, List.set_cons_succ]
      refine wpAnyH_take (i := 12) (oi := ({ dst := some 38, op := Op.move (Operand.tmp 9), type := 3, pos := "law.go:81", after := #[], guard := none } : Oper)) (v := ?_) rfl (by kernel_rfl) (by kernel_rfl) (by kernel_rfl) (fun _ _ _ h => h) (Or.inl ⟨by rfl, ?_⟩) hS ?_
      rotate_left
      · intro wv _; go_simp; try with_reducible rfl
      try simp only [Act.put, List.setIfInBounds_toArray, List.set_cons_zero, List.set_cons_succ]
      refine wpAnyH_take (i := 13) (oi := ({ dst := some 39, op := Op.indexAddr 28 (Operand.tmp 37) (Operand.tmp 38), type := 0, pos := "law.go:81", after := #[{ on := 11, ground := Ground.data }, { on := 12, ground := Ground.data }], guard := none } : Oper)) (v := ?_) rfl (by kernel_rfl) (by kernel_rfl) (by kernel_rfl) (fun _ _ _ h => h) (Or.inl ⟨by rfl, ?_⟩) hS ?_
      rotate_left
      · intro wv _; go_simp; try with_reducible rfl
      try simp only [Act.put, List.setIfInBounds_toArray, List.set_cons_zero, List.set_cons_succ]
      refine wpAnyH_take (i := 14) (oi := ({ dst := some 40, op := Op.load 5 (Operand.tmp 39), type := 5, pos := "law.go:81", after := #[{ on := 13, ground := Ground.data }], guard := none } : Oper)) (v := ?_) rfl (by kernel_rfl) (by kernel_rfl) (by kernel_rfl) (fun _ _ _ h => h) (Or.inl ⟨by rfl, ?_⟩) hS ?_
      rotate_left
      · intro wv hS; have hrun := (hS.cell (p := ⟨_, _, none⟩) HLC.out).trans HCC.out; go_simp; try with_reducible rfl
      try simp only [Act.put, List.setIfInBounds_toArray, List.set_cons_zero, List.set_cons_succ]
      refine wpAnyH_take (i := 15) (oi := ({ dst := some 41, op := Op.binOp BinOp.xor 5 (Operand.tmp 36) (Operand.tmp 40) 5, type := 5, pos := "law.go:81", after := #[{ on := 10, ground := Ground.data }, { on := 14, ground := Ground.data }], guard := none } : Oper)) (v := ?_) rfl (by kernel_rfl) (by kernel_rfl) (by kernel_rfl) (fun _ _ _ h => h) (Or.inl ⟨by rfl, ?_⟩) hS ?_
      rotate_left
      · intro wv _; go_simp; try with_reducible rfl
      try simp only [Act.put, List.setIfInBounds_toArray, List.set_cons_zero, List.set_cons_succ]
      refine wpAnyH_take (i := 16) (oi := ({ dst := some 42, op := Op.indexAddr 28 (Operand.tmp 26) (Operand.tmp 27), type := 0, pos := "law.go:81", after := #[{ on := 0, ground := Ground.data }, { on := 1, ground := Ground.data }, { on := 0, ground := Ground.phase }, { on := 1, ground := Ground.phase }, { on := 2, ground := Ground.phase }, { on := 3, ground := Ground.phase }, { on := 4, ground := Ground.phase }, { on := 5, ground := Ground.phase }, { on := 6, ground := Ground.phase }, { on := 7, ground := Ground.phase }, { on := 8, ground := Ground.phase }, { on := 9, ground := Ground.phase }, { on := 10, ground := Ground.phase }, { on := 11, ground := Ground.phase }, { on := 12, ground := Ground.phase }, { on := 13, ground := Ground.phase }, { on := 14, ground := Ground.phase }, { on := 15, ground := Ground.phase }], guard := none } : Oper)) (v := ?_) rfl (by kernel_rfl) (by kernel_rfl) (by kernel_rfl) (fun _ _ _ h => h) (Or.inl ⟨by rfl, ?_⟩) hS ?_
      rotate_left
      · intro wv _; go_simp; try with_reducible rfl
      try simp only [Act.put, List.setIfInBounds_toArray, List.set_cons_zero, List.set_cons_succ]
      refine wpAnyH_ready (rs := [17]) (by kernel_rfl) (by simp) (AllReadyH.cons (o := ({ dst := none, op := Op.store 5 (Operand.tmp 42) (Operand.tmp 41), type := 0, pos := "law.go:81", after := #[{ on := 16, ground := Ground.data }, { on := 15, ground := Ground.data }, { on := 0, ground := Ground.phase }, { on := 1, ground := Ground.phase }, { on := 2, ground := Ground.phase }, { on := 3, ground := Ground.phase }, { on := 4, ground := Ground.phase }, { on := 5, ground := Ground.phase }, { on := 6, ground := Ground.phase }, { on := 7, ground := Ground.phase }, { on := 8, ground := Ground.phase }, { on := 9, ground := Ground.phase }, { on := 10, ground := Ground.phase }, { on := 11, ground := Ground.phase }, { on := 12, ground := Ground.phase }, { on := 13, ground := Ground.phase }, { on := 14, ground := Ground.phase }, { on := 15, ground := Ground.phase }], guard := none } : Oper)) rfl (fun K hK => ?_) AllReadyH.nil)
      go_simp
      replace hS := HB2.out
      refine Shut.out hK _ _ (by first | trivial | exact hS) (fun _ => ?_)
      clear hK K
      try simp only [Act.put, List.setIfInBounds_toArray, List.set_cons_zero, List.set_cons_succ]
      refine wpAnyH_done (by kernel_rfl) ?_ _
      refine NoPanic.normal ?_
      go_wp2_with fail
      go_roundw
      case rel => exact ⟨i + 1, by go_num, by omega, HT2, HB2⟩
      case measure => simp [intOf]; omega
    · obtain rfl : i = m := by omega
      have ht2 := ht.out
      rw [rowL_all X i lX.out] at ht2
      have HXB := Lib.hid (Bs.of_heap ht2 bX.out lX.out)
      obtain ⟨A2, c2, hsl1, ha2⟩ := (HA1.out.below hbl.out).sliceh 28 undBytes sizeByte (i : Int) i rfl hm1
      obtain ⟨B2, d2, hsl2, hb2⟩ := (HB1.out.below hbl.out).sliceh 28 undBytes sizeByte (i : Int) i rfl hm2
      obtain ⟨C2, e2, hsl3, hc2⟩ := (HC1.out.below hbl.out).sliceh 28 undBytes sizeByte (i : Int) i rfl hm3
      have HA2 := Lib.hid ha2; have HB2 := Lib.hid hb2; have HC2 := Lib.hid hc2
      have HW2 := Lib.hid (HW1.out.trans (hbl.out.mono HW1.out.size))
      clear ht2 ha2 hb2 hc2 ht hbl
      have K1 := fun W (hW : Bs W (some ⟨w1.heap.size, 0, none⟩) i i X) => sum_any (some ⟨w1.heap.size, 0, none⟩) i i X W hW (by omega)
      have K2 := fun W (hW : Bs W A2 i c2 (xs.take i)) => sum_any A2 i c2 (xs.take i) W hW (by omega)
      have K3 := fun W (hW : Bs W B2 i d2 (bs.take i)) => sum_any B2 i d2 (bs.take i) W hW (by omega)
      have K4 := fun W (hW : Bs W C2 i e2 (cs.take i)) => sum_any C2 i e2 (cs.take i) W hW (by omega)
      have s2 := sumS_lt (xs.take i)
      have s3 := sumS_lt (bs.take i)
      have s4 := sumS_lt (cs.take i)
      have hs := HSUM.out
      generalize sumS X = sx at *
      generalize sumS (xs.take i) = sa at *
      generalize sumS (bs.take i) = sb at *
      generalize sumS (cs.take i) = sc at *
      have x1 : bits .xor .u32 (sa : Int) (sb : Int) = ((sa ^^^ sb : Nat) : Int) := u32_xor_nat _ _ s2 s3
      have hab := xor_lt s2 s3
      have x2 : bits .xor .u32 ((sa ^^^ sb : Nat) : Int) (sc : Int) = ((sa ^^^ sb ^^^ sc : Nat) : Int) := u32_xor_nat _ _ hab s4
      rw [← hs] at x2
      clear hs HSUM
      generalize sa ^^^ sb = sab at *
      have HK1 := Lib.hid K1; have HK2 := Lib.hid K2; have HK3 := Lib.hid K3; have HK4 := Lib.hid K4
      clear K1 K2 K3 K4
      go_wp2_with fail
      refine wp_region_noPanic ?_
      refine wp_region_held_drew (S := fun _ => True) (by kernel_rfl) trivial (fun hS => ?_)
      refine wpAnyH_take (i := 0) (oi := ({ dst := some 43, op := Op.move (Operand.tmp 8), type := 28, pos := "law.go:83", after := #[], guard := none } : Oper)) (v := ?_) rfl (by kernel_rfl) (by kernel_rfl) (by kernel_rfl) (fun _ _ _ h => h) (Or.inl ⟨by rfl, ?_⟩) hS ?_
      rotate_left
      · intro wv _; go_simp; try with_reducible rfl
      try simp only [Act.put, List.setIfInBounds_toArray, List.set_cons_zero, List.set_cons_succ]
      refine wpAnyH_take (i := 2) (oi := ({ dst := some 45, op := Op.move (Operand.tmp 0), type := 28, pos := "law.go:83", after := #[], guard := none } : Oper)) (v := ?_) rfl (by kernel_rfl) (by kernel_rfl) (by kernel_rfl) (fun _ _ _ h => h) (Or.inl ⟨by rfl, ?_⟩) hS ?_
      rotate_left
      · intro wv _; go_simp; try with_reducible rfl
      try simp only [Act.put, List.setIfInBounds_toArray, List.set_cons_zero, List.set_cons_succ]
      refine wpAnyH_take (i := 3) (oi := ({ dst := some 46, op := Op.move (Operand.tmp 7), type := 3, pos := "law.go:83", after := #[], guard := none } : Oper)) (v := ?_) rfl (by kernel_rfl) (by kernel_rfl) (by kernel_rfl) (fun _ _ _ h => h) (Or.inl ⟨by rfl, ?_⟩) hS ?_
      rotate_left
      · intro wv _; go_simp; try with_reducible rfl
      try simp only [Act.put, List.setIfInBounds_toArray, List.set_cons_zero, List.set_cons_succ]
      refine wpAnyH_take (i := 4) (oi := ({ dst := some 47, op := Op.slice 28 (Operand.tmp 45) none (some (Operand.tmp 46)) none, type := 28, pos := "law.go:83", after := #[{ on := 2, ground := Ground.data }, { on := 3, ground := Ground.data }], guard := none } : Oper)) (v := ?_) rfl (by kernel_rfl) (by kernel_rfl) (by kernel_rfl) (fun _ _ _ h => h) (Or.inl ⟨by rfl, ?_⟩) hS ?_
      rotate_left
      · intro wv _; go_simp; try with_reducible rfl
      try simp only [Act.put, List.setIfInBounds_toArray, List.set_cons_zero, List.set_cons_succ]
      refine wpAnyH_take (i := 6) (oi := ({ dst := some 49, op := Op.move (Operand.tmp 1), type := 28, pos := "law.go:83", after := #[], guard := none } : Oper)) (v := ?_) rfl (by kernel_rfl) (by kernel_rfl) (by kernel_rfl) (fun _ _ _ h => h) (Or.inl ⟨by rfl, ?_⟩) hS ?_
      rotate_left
      · intro wv _; go_simp; try with_reducible rfl
      try simp only [Act.put, List.setIfInBounds_toArray, List.set_cons_zero, List.set_cons_succ]
      refine wpAnyH_take (i := 7) (oi := ({ dst := some 50, op := Op.move (Operand.tmp 7), type := 3, pos := "law.go:83", after := #[], guard := none } : Oper)) (v := ?_) rfl (by kernel_rfl) (by kernel_rfl) (by kernel_rfl) (fun _ _ _ h => h) (Or.inl ⟨by rfl, ?_⟩) hS ?_
      rotate_left
      · intro wv _; go_simp; try with_reducible rfl
      try simp only [Act.put, List.setIfInBounds_toArray, List.set_cons_zero, List.set_cons_succ]
      refine wpAnyH_take (i := 8) (oi := ({ dst := some 51, op := Op.slice 28 (Operand.tmp 49) none (some (Operand.tmp 50)) none, type := 28, pos := "law.go:83", after := #[{ on := 6, ground := Ground.data }, { on := 7, ground := Ground.data }], guard := none } : Oper)) (v := ?_) rfl (by kernel_rfl) (by kernel_rfl) (by kernel_rfl) (fun _ _ _ h => h) (Or.inl ⟨by rfl, ?_⟩) hS ?_
      rotate_left
      · intro wv _; go_simp; try with_reducible rfl
      try simp only [Act.put, List.setIfInBounds_toArray, List.set_cons_zero, List.set_cons_succ]
      refine wpAnyH_take (i := 11) (oi := ({ dst := some 54, op := Op.move (Operand.tmp 2), type := 28, pos := "law.go:83", after := #[], guard := none } : Oper)) (v := ?_) rfl (by kernel_rfl) (by kernel_rfl) (by kernel_rfl) (fun _ _ _ h => h) (Or.inl ⟨by rfl, ?_⟩) hS ?_
      rotate_left
      · intro wv _; go_simp; try with_reducible rfl
      try simp only [Act.put, List.setIfInBounds_toArray, List.set_cons_zero, List.set_cons_succ]
      refine wpAnyH_take (i := 12) (oi := ({ dst := some 55, op := Op.move (Operand.tmp 7), type := 3, pos := "law.go:83", after := #[], guard := none } : Oper)) (v := ?_) rfl (by kernel_rfl) (by kernel_rfl) (by kernel_rfl) (fun _ _ _ h => h) (Or.inl ⟨by rfl, ?_⟩) hS ?_
      rotate_left
      · intro wv _; go_simp; try with_reducible rfl
      try simp only [Act.put, List.setIfInBounds_toArray, List.set_cons_zero, List.set_cons_succ]
      refine wpAnyH_take (i := 13) (oi := ({ dst := some 56, op := Op.slice 28 (Operand.tmp 54) none (some (Operand.tmp 55)) none, type := 28, pos := "law.go:83", after := #[{ on := 11, ground := Ground.data }, { on := 12, ground := Ground.data }], guard := none } : Oper)) (v := ?_) rfl (by kernel_rfl) (by kernel_rfl) (by kernel_rfl) (fun _ _ _ h => h) (Or.inl ⟨by rfl, ?_⟩) hS ?_
      rotate_left
      · intro wv _; go_simp; try with_reducible rfl
      try simp only [Act.put, List.setIfInBounds_toArray, List.set_cons_zero, List.set_cons_succ]
      refine wpAnyH_ready (rs := [1]) (by kernel_rfl) (by simp) (AllReadyH.cons (o := ({ dst := some 44, op := Op.call { callee := Callee.value (Operand.func 13), args := #[Operand.tmp 43], argTypes := #[28] }, type := 23, pos := "law.go:83", after := #[{ on := 0, ground := Ground.data }], guard := none } : Oper)) rfl (fun K hK => ?_) AllReadyH.nil)
      go_simp
      refine (HK1.out _ HXB.out.drew).mono ?_; rintro e w4 ⟨rfl, hw4⟩
      have HW4 := Lib.hid (HW2.out.drew.trans (hw4.mono HW2.out.size)); have HA4 := Lib.hid (HA2.out.drew.below hw4); have HB4 := Lib.hid (HB2.out.drew.below hw4); have HC4 := Lib.hid (HC2.out.drew.below hw4)
      clear hw4
      go_wp2_with fail
      refine Shut.out hK _ _ (by first | trivial | exact hS) (fun _ => ?_)
      clear hK K
      try simp only [Act.put, List.setIfInBounds_toArray, List.set_cons_zero, List.set_cons_succ]
      refine wpAnyH_ready (rs := [5]) (by kernel_rfl) (by simp) (AllReadyH.cons (o := ({ dst := some 48, op := Op.call { callee := Callee.value (Operand.func 13), args := #[Operand.tmp 47], argTypes := #[28] }, type := 23, pos := "law.go:83", after := #[{ on := 4, ground := Ground.data }, { on := 1, ground := Ground.chain }], guard := none } : Oper)) rfl (fun K hK => ?_) AllReadyH.nil)
      go_simp
      refine (HK2.out _ HA4.out).mono ?_; rintro e w5 ⟨rfl, hw5⟩
      have HW5 := Lib.hid (HW4.out.trans (hw5.mono HW4.out.size)); have HB5 := Lib.hid (HB4.out.below hw5); have HC5 := Lib.hid (HC4.out.below hw5)
      clear hw5
      go_wp2_with fail
      refine Shut.out hK _ _ (by first | trivial | exact hS) (fun _ => ?_)
      clear hK K
      try simp only [Act.put, List.setIfInBounds_toArray, List.set_cons_zero, List.set_cons_succ]
      refine wpAnyH_ready (rs := [9]) (by kernel_rfl) (by simp) (AllReadyH.cons (o := ({ dst := some 52, op := Op.call { callee := Callee.value (Operand.func 13), args := #[Operand.tmp 51], argTypes := #[28] }, type := 23, pos := "law.go:83", after := #[{ on := 8, ground := Ground.data }, { on := 5, ground := Ground.chain }], guard := none } : Oper)) rfl (fun K hK => ?_) AllReadyH.nil)
      go_simp
      refine (HK3.out _ HB5.out).mono ?_; rintro e w6 ⟨rfl, hw6⟩
      have HW6 := Lib.hid (HW5.out.trans (hw6.mono HW5.out.size)); have HC6 := Lib.hid (HC5.out.below hw6)
      clear hw6
      go_wp2_with fail
      refine Shut.out hK _ _ (by first | trivial | exact hS) (fun _ => ?_)
      clear hK K
      try simp only [Act.put, List.setIfInBounds_toArray, List.set_cons_zero, List.set_cons_succ]
      refine wpAnyH_take (i := 10) (oi := ({ dst := some 53, op := Op.binOp BinOp.xor 23 (Operand.tmp 48) (Operand.tmp 52) 23, type := 23, pos := "law.go:83", after := #[{ on := 5, ground := Ground.data }, { on := 9, ground := Ground.data }], guard := none } : Oper)) (v := ?_) rfl (by kernel_rfl) (by kernel_rfl) (by kernel_rfl) (fun _ _ _ h => h) (Or.inl ⟨by rfl, ?_⟩) hS ?_
      rotate_left
      · intro wv _; go_simp; try with_reducible rfl
      try simp only [Act.put, List.setIfInBounds_toArray, List.set_cons_zero, List.set_cons_succ]
      refine wpAnyH_ready (rs := [14]) (by kernel_rfl) (by simp) (AllReadyH.cons (o := ({ dst := some 57, op := Op.call { callee := Callee.value (Operand.func 13), args := #[Operand.tmp 56], argTypes := #[28] }, type := 23, pos := "law.go:83", after := #[{ on := 13, ground := Ground.data }, { on := 9, ground := Ground.chain }], guard := none } : Oper)) rfl (fun K hK => ?_) AllReadyH.nil)
      go_simp
      refine (HK4.out _ HC6.out).mono ?_; rintro e w7 ⟨rfl, hw7⟩
      have HW7 := Lib.hid (HW6.out.trans (hw7.mono HW6.out.size))
      clear hw7
      go_wp2_with fail
      refine Shut.out hK _ _ (by first | trivial | exact hS) (fun _ => ?_)
      clear hK K
      try simp only [Act.put, List.setIfInBounds_toArray, List.set_cons_zero, List.set_cons_succ]
      refine wpAnyH_take (i := 15) (oi := ({ dst := some 58, op := Op.binOp BinOp.xor 23 (Operand.tmp 53) (Operand.tmp 57) 23, type := 23, pos := "law.go:83", after := #[{ on := 10, ground := Ground.data }, { on := 14, ground := Ground.data }], guard := none } : Oper)) (v := ?_) rfl (by kernel_rfl) (by kernel_rfl) (by kernel_rfl) (fun _ _ _ h => h) (Or.inl ⟨by rfl, ?_⟩) hS ?_
      rotate_left
      · intro wv _; go_simp; try with_reducible rfl
      try simp only [Act.put, List.setIfInBounds_toArray, List.set_cons_zero, List.set_cons_succ]
      refine wpAnyH_take (i := 16) (oi := ({ dst := some 59, op := Op.binOp BinOp.eql 23 (Operand.tmp 44) (Operand.tmp 58) 23, type := 4, pos := "law.go:83", after := #[{ on := 1, ground := Ground.data }, { on := 15, ground := Ground.data }], guard := none } : Oper)) (v := ?_) rfl (by kernel_rfl) (by kernel_rfl) (by kernel_rfl) (fun _ _ _ h => h) (Or.inl ⟨by rfl, ?_⟩) hS ?_
      rotate_left
      · intro wv _; go_simp; try with_reducible rfl
      try simp only [Act.put, List.setIfInBounds_toArray, List.set_cons_zero, List.set_cons_succ]
      refine wpAnyH_take (i := 17) (oi := ({ dst := some 6, op := Op.assign (Operand.tmp 59), type := 4, pos := "law.go:83", after := #[{ on := 16, ground := Ground.data }, { on := 14, ground := Ground.chain }, { on := 0, ground := Ground.phase }, { on := 1, ground := Ground.phase }, { on := 2, ground := Ground.phase }, { on := 3, ground := Ground.phase }, { on := 4, ground := Ground.phase }, { on := 5, ground := Ground.phase }, { on := 6, ground := Ground.phase }, { on := 7, ground := Ground.phase }, { on := 8, ground := Ground.phase }, { on := 9, ground := Ground.phase }, { on := 10, ground := Ground.phase }, { on := 11, ground := Ground.phase }, { on := 12, ground := Ground.phase }, { on := 13, ground := Ground.phase }, { on := 14, ground := Ground.phase }, { on := 15, ground := Ground.phase }, { on := 16, ground := Ground.phase }], guard := none } : Oper)) (v := ?_) rfl (by kernel_rfl) (by kernel_rfl) (by kernel_rfl) (fun _ _ _ h => h) (Or.inl ⟨by rfl, ?_⟩) hS ?_
      rotate_left
      · intro wv _; go_simp; try with_reducible rfl
      try simp only [Act.put, List.setIfInBounds_toArray, List.set_cons_zero, List.set_cons_succ]
      refine wpAnyH_done (by kernel_rfl) ?_ _
      refine NoPanic.normal ?_
      go_wp2
      go_ret
      exact ⟨rfl, HW7.out⟩
end Go.Proofs.Ytahgacjclffjcaa
