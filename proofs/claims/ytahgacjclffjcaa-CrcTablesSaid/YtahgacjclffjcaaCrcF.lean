/- The fixed fact 'alive' of layer 3 is true, and writes nothing that was there; no condition. -/
import Derived.Test.YtahgacjclffjcaaCrcC
import Derived.Lib.SlBytesConst
namespace Go.Proofs.Ytahgacjclffjcaa
set_option linter.unusedVariables false
set_option linter.unusedSimpArgs false
open Go.RowKit

theorem sum19 : sumS [49, 50, 51, 52, 53, 54, 55, 56, 57] = 3421780262 := by decide +kernel
theorem sum0 : sumS [] = 0 := by decide +kernel
theorem sum14 : ∃ a, a < 4294967296 ∧ sumS [49, 50, 51, 52] = a := ⟨_, by decide +kernel, rfl⟩
theorem sumJ : (goes (List.replicate 5 0) (sumS [49, 50, 51, 52]) ^^^ sumS [53, 54, 55, 56, 57]) = 3421780262 := by decide +kernel
theorem sumS_lt (bs : List Int) : sumS bs < 4294967296 := by unfold sumS; omega
theorem tab0 : (tabL 256).getD 0 0 = 0 := by rw [tabL_get 256 0 (by decide)]; decide +kernel
theorem tab1 : (tabL 256).getD 1 0 = 1996959894 := by rw [tabL_get 256 1 (by decide)]; decide +kernel
theorem tab255 : (tabL 256).getD 255 0 = 755167117 := by rw [tabL_get 256 255 (by decide)]; decide +kernel

theorem sum_lit (W : World) (xs : List Int) (q : Nat) (s : Nat) (fr : Nat × Nat) (hq : xs.length = q) (hq2 : q ≤ 65536) (hx : ∀ b ∈ xs, 0 ≤ b ∧ b ≤ 255) (h : sumS xs = s) :
    Calls Try.prog 13 #[.slice (some ⟨W.heap.size, 0, none⟩) q q] (W.alloc (.cells (xs.map (Value.int .u8)).toArray 5 fr))
      fun r w' => r = .returned (.int .u32 s) ∧ Below W.heap.size W w' := by
  refine (sum_any _ _ _ _ _ (Bs.newf W 5 fr xs hx hq) hq2).mono ?_
  rintro r w' ⟨he, hb⟩
  rw [h] at he
  exact ⟨he, ((Below.refl _ _).alloc (Nat.le_refl _) _).trans (hb.mono (by simp))⟩
/-- a constant text, as bytes. -/
theorem lit_bytes (W : World) (C : Array Value) (q : Nat) (hq : C.size = q) : (convert 28 28 (.slice (some ⟨W.heap.size, 0, none⟩) q q)).run Try.prog (W.alloc (.cells C 5)) =
    .ok (.slice (some ⟨W.heap.size, 0, none⟩) q q) (W.alloc (.cells C 5 (q, q + 1))) := by
  have h := Lib.run_convert_bytes_const (P := Try.prog) W 28 5 C q q Try.underlying28 Try.underlying5
  rw [hq] at h
  exact h

set_option maxHeartbeats 1000000 in
theorem crcAlive_any (w : World) : Calls Try.prog 8 #[] w fun e w' => e = .returned (.bool true) ∧ Below w.heap.size w w' := by
  go_enter Try.func8, Try.ntmps8
  go_wp2_with fail
  refine (table_any w).mono ?_; rintro e w1 ⟨rfl, hw1⟩
  obtain ⟨hth, hi, ho, hb2, hcell⟩ := var_words w1 (tabL 256) (tabL_words 256)
  have c0 := hcell 0 (by decide)
  have c1 := hcell 1 (by decide)
  have c2 := hcell 255 (by decide)
  rw [tab0] at c0
  rw [tab1] at c1
  rw [tab255] at c2
  have HW1 := Lib.hid (hw1.trans (hb2.mono hw1.size))
  clear hcell hw1 hb2
  have H1 := Lib.hid hth; have H2 := Lib.hid hi; have H3 := Lib.hid ho; clear hth hi ho
  generalize hcs : (tabL 256).map (Value.int .u32) = cs at *
  clear hcs
  have L1 := lit_bytes ((w1.alloc (.cells tz 24)).setCells w1.heap.size 0 cs) #[.int .u8 49, .int .u8 50, .int .u8 51, .int .u8 52, .int .u8 53, .int .u8 54, .int .u8 55, .int .u8 56, .int .u8 57] 9 rfl
  go_wp2_with (refine wpList_store_mid (by rfl) _ _ _ (by rfl) w1.heap.size 0 cs.toArray (by rfl) (by rfl) H1.out H2.out H3.out ?_)
  refine (sum_lit _ [49, 50, 51, 52, 53, 54, 55, 56, 57] 9 _ (9, 10) rfl (by omega) (by simp) sum19).mono ?_; rintro e w2 ⟨rfl, hw2⟩
  have HW2 := Lib.hid (HW1.out.trans (hw2.mono HW1.out.size)); clear hw2 L1 c0 c1 c2
  have P2 := sum_any none 0 0 [] w2 (Bs.nil _ _ _) (by omega)
  rw [sum0] at P2
  go_wp2_with fail
  refine P2.mono ?_; rintro e w3 ⟨rfl, hw3⟩
  have HW3 := Lib.hid (HW2.out.trans (hw3.mono HW2.out.size)); clear hw3 P2
  have L3 := lit_bytes w3 #[.int .u8 49, .int .u8 50, .int .u8 51, .int .u8 52] 4 rfl
  go_wp2_with fail
  refine (sum_lit _ [49, 50, 51, 52] 4 _ (4, 5) rfl (by omega) (by simp) rfl).mono ?_; rintro e w4 ⟨rfl, hw4⟩
  have HW4 := Lib.hid (HW3.out.trans (hw4.mono HW3.out.size)); clear hw4 L3
  have L4 := lit_bytes w4 #[.int .u8 53, .int .u8 54, .int .u8 55, .int .u8 56, .int .u8 57] 5 rfl
  have s1 := sumS_lt [49, 50, 51, 52]
  have s2 := sumS_lt [53, 54, 55, 56, 57]
  have HJ := sumJ
  have P5 := sum_lit w4 [53, 54, 55, 56, 57] 5 _ (5, 6) rfl (by omega) (by simp) rfl
  generalize sumS [49, 50, 51, 52] = sa at *
  generalize sumS [53, 54, 55, 56, 57] = sb at *
  have HJ2 := Lib.hid HJ; have HP5 := Lib.hid P5; clear HJ P5
  go_wp2_with fail
  refine HP5.out.mono ?_; rintro e w5 ⟨rfl, hw5⟩
  have HW5 := Lib.hid (HW4.out.trans (hw5.mono HW4.out.size)); clear hw5 L4
  have P6 := join_any sa sb 5 w5 s1 s2 (by omega)
  rw [HJ2.out] at P6
  go_wp2_with fail
  refine P6.mono ?_; rintro e w6 ⟨rfl, hw6⟩
  have HW6 := Lib.hid (HW5.out.trans (hw6.mono HW5.out.size)); clear hw6 P6
  go_wp2_with fail
  go_ret
  exact ⟨rfl, HW6.out⟩
end Go.Proofs.Ytahgacjclffjcaa
