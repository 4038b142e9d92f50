/- The fixed fact 'alive' of layer 2 is true, and writes nothing that was there; no condition. -/
import Derived.Test.YtmipoigjhilceaaVarC
namespace Go.Proofs.Ytmipoigjhilceaa
set_option linter.unusedVariables false
set_option linter.unusedSimpArgs false
open Go.RowKit

theorem vb300 : [9] ++ vb (300 : Int).toNat = [9, 172, 2] := by
  rw [show (300 : Int).toNat = 300 from rfl, vb_big (by omega), vb_small (by omega)]; rfl
theorem vbm3 : ([] : List Int) ++ vb (zig (-3)).toNat = [5] := by
  rw [show (zig (-3)).toNat = 5 from rfl, vb_small (by omega)]; rfl
theorem vs127 : ((vs (127 : Int).toNat : Nat) : Int) = 1 := by rw [show (127 : Int).toNat = 127 from rfl, vs_small (by omega)]; rfl
theorem vs128 : ((vs (128 : Int).toNat : Nat) : Int) = 2 := by rw [show (128 : Int).toNat = 128 from rfl, vs_big (by omega), vs_small (by omega)]; rfl
theorem vs63 : ((vs (9223372036854775808 : Int).toNat : Nat) : Int) = 10 := by
  rw [show (9223372036854775808 : Int).toNat = 9223372036854775808 from rfl, vs_big (by omega), vs_big (by omega), vs_big (by omega), vs_big (by omega), vs_big (by omega), vs_big (by omega), vs_big (by omega), vs_big (by omega), vs_big (by omega), vs_small (by omega)]; rfl
theorem rd1 : readS [9, 172, 2] 1 = (300, 3, 0) := by decide
theorem rd2 : readS [128, 0] 0 = (0, 0, 3) := by decide
theorem rd3 : readS [128] 0 = (0, 0, 2) := by decide
theorem rd4 : readS [255, 255, 255, 255, 255, 255, 255, 255, 255, 2] 0 = (0, 0, 4) := by decide
theorem rd5 : readIntS [5] 0 = (-3, 1, 0) := by decide

theorem varRead_lit (W : World) (xs : List Int) (q : Nat) (x n e : Int) (hq : xs.length = q) (hq2 : q ≤ 16384) (hx : ∀ b ∈ xs, 0 ≤ b ∧ b ≤ 255) (h : readS xs 0 = (x, n, e)) :
    Calls Try.prog 18 #[.slice (some ⟨W.heap.size, 0, none⟩) q q, .int .i64 0] (W.alloc (.cells (xs.map (Value.int .u8)).toArray 5))
      fun r w' => r = .returned (.tuple #[.int .u64 x, .int .i64 n, .int .i64 e]) ∧ Below W.heap.size W w' := by
  refine (varRead_any _ _ _ _ 0 _ (Bs.new_ W 5 xs hx hq) hq2).mono ?_
  rintro r w' ⟨he, rfl⟩
  rw [h] at he
  exact ⟨he, (Below.refl _ _).alloc (Nat.le_refl _) _⟩

set_option maxHeartbeats 1000000 in
theorem varAlive_any (w : World) : Calls Try.prog 8 #[] w fun e w' => e = .returned (.bool true) ∧ Below w.heap.size w w' := by
  have b0 : Bs (w.alloc (.cells #[.int .u8 9] 5)) (some ⟨w.heap.size, 0, none⟩) 1 1 [9] := Bs.new_ w 5 [9] (by simp) rfl
  have P1 := varAppend_any _ _ _ _ 300 _ b0 (by omega) (by omega) (by omega)
  rw [vb300] at P1
  have B0 := Lib.hid ((Below.refl w.heap.size w).alloc (Nat.le_refl _) (.cells #[.int .u8 9] 5))
  clear b0
  go_enter Try.func8, Try.ntmps8
  go_wp2_with fail
  refine P1.mono ?_; rintro e w1 ⟨A1, n1, c1, rfl, hb1, hw1⟩
  clear P1
  obtain rfl : n1 = 3 := by have := hb1.len; simpa using this.symm
  have T1 := varRead_any _ _ _ _ 1 _ hb1 (by omega)
  rw [rd1] at T1
  have HB1 := Lib.hid hb1; have HW1 := Lib.hid (B0.out.trans (hw1.mono (by simp))); clear hb1 hw1
  go_wp2_with fail
  refine T1.mono ?_; rintro e w2 ⟨rfl, rfl⟩
  clear T1
  go_wp2_with fail
  refine (varRead_lit w1 [128, 0] 2 _ _ _ rfl (by omega) (by simp) rd2).mono ?_; rintro e w2 ⟨rfl, hw2⟩
  have HB2 := Lib.hid (HB1.out.below hw2); have HW2 := Lib.hid (HW1.out.trans (hw2.mono HW1.out.size)); clear hw2
  go_wp2_with fail
  refine (varRead_lit w2 [128] 1 _ _ _ rfl (by omega) (by simp) rd3).mono ?_; rintro e w3 ⟨rfl, hw3⟩
  have HB3 := Lib.hid (HB2.out.below hw3); have HW3 := Lib.hid (HW2.out.trans (hw3.mono HW2.out.size)); clear hw3
  go_wp2_with fail
  refine (varRead_lit w3 [255, 255, 255, 255, 255, 255, 255, 255, 255, 2] 10 _ _ _ rfl (by omega) (by simp) rd4).mono ?_; rintro e w4 ⟨rfl, hw4⟩
  have HB4 := Lib.hid (HB3.out.below hw4); have HW4 := Lib.hid (HW3.out.trans (hw4.mono HW3.out.size)); clear hw4
  have P5 := appendInt_any none 0 0 [] (-3) w4 (Bs.nil _ _ _) (by omega) (by omega) (by omega)
  rw [vbm3] at P5
  go_wp2_with fail
  refine P5.mono ?_; rintro e w5 ⟨A5, n5, c5, rfl, hb5, hw5⟩
  clear P5
  obtain rfl : n5 = 1 := by have := hb5.len; simpa using this.symm
  have HB5 := Lib.hid (HB4.out.below hw5); have HW5 := Lib.hid (HW4.out.trans (hw5.mono HW4.out.size)); clear hw5
  have P6 := varReadInt_any _ _ _ _ 0 _ hb5 (by omega)
  rw [rd5] at P6
  clear hb5
  go_wp2_with fail
  refine P6.mono ?_; rintro e w6 ⟨rfl, rfl⟩
  clear P6
  have hs1 := HB5.out.text
  have x1 : strOfNums [9, 172, 2] = ⟨#[9, 172, 2]⟩ := rfl
  rw [x1] at hs1
  have S1 := varSize_any 127 w5 (by omega) (by omega)
  have S2 := varSize_any 128 w5 (by omega) (by omega)
  have S3 := varSize_any 9223372036854775808 w5 (by omega) (by omega)
  have Z1 := zig_any (-1) w5 (by omega) (by omega)
  have Z2 := zag_any 4 w5 (by omega) (by omega)
  rw [vs127] at S1
  rw [vs128] at S2
  rw [vs63] at S3
  rw [show zig (-1) = 1 by decide] at Z1
  rw [show zag 4 = 2 by decide] at Z2
  have HS1 := Lib.hid S1; have HS2 := Lib.hid S2; have HS3 := Lib.hid S3; have HZ1 := Lib.hid Z1; have HZ2 := Lib.hid Z2
  clear S1 S2 S3 Z1 Z2 x1
  go_wp2_with fail
  refine HS1.out.mono ?_; rintro e w' ⟨rfl, rfl⟩
  go_wp2_with fail
  refine HS2.out.mono ?_; rintro e w' ⟨rfl, rfl⟩
  go_wp2_with fail
  refine HS3.out.mono ?_; rintro e w' ⟨rfl, rfl⟩
  go_wp2_with fail
  refine HZ1.out.mono ?_; rintro e w' ⟨rfl, rfl⟩
  go_wp2_with fail
  refine HZ2.out.mono ?_; rintro e w' ⟨rfl, rfl⟩
  go_wp2
  go_ret
  exact ⟨rfl, HW5.out⟩
end Go.Proofs.Ytmipoigjhilceaa
