/- The fixed fact 'alive' is true, and writes nothing that was there; no condition. -/
import Derived.Test.YtaggiooolhgepaaE
namespace Go.Proofs.Ytaggiooolhgepaa
set_option linter.unusedVariables false
set_option linter.unusedSimpArgs false
open Go.RowKit

theorem dg1 : dg 1 = 1 := by rw [dg_pos (by omega)]; simp [dg_zero]
theorem sz258 : sz 258 = 2 := by simp [sz, dg1]
theorem sz256 : sz 256 = 2 := by simp [sz, dg1]
theorem sz255 : sz 255 = 1 := by simp [sz, dg_zero]
theorem sz1 : sz 1 = 1 := by simp [sz, dg_zero]
theorem sz263 : sz 9223372036854775808 = 8 := by
  simp only [sz]
  rw [dg_pos (by omega), dg_pos (by omega), dg_pos (by omega), dg_pos (by omega), dg_pos (by omega), dg_pos (by omega), dg_pos (by omega)]
  simp [dg_zero]
theorem put1 : putS [9] 258 3 = ([9, 2, 1, 0], 0) := by
  have h : fitsB 258 3 = true := fits_yes (by omega) (by omega) (by simp [sz258])
  rw [putS, if_neg (by omega), if_neg (by simp [h])]; rfl
theorem put2 : putS [] 256 1 = ([], 4) := by
  have h : fitsB 256 1 = false := fits_no2 (by simp [sz256])
  rw [putS, if_neg (by omega), if_pos h]
theorem take1 : takeS [9, 2, 1, 0] 1 2 = (258, 3, 0) := rfl
theorem take2 : takeS [9, 2, 1, 0] 2 3 = (0, 0, 2) := rfl
theorem cut1 : cutS [9, 2, 1, 0] 2 2 = ([1, 0], 4, 0) := rfl
theorem fit1 : fitsB 255 1 = true := fits_yes (by omega) (by omega) (by simp [sz255])
theorem fit2 : fitsB 1 0 = false := fits_no1 (by omega)

theorem alive_any (w : World) : Calls Try.prog 7 #[] w fun e w' => e = .returned (.bool true) ∧ Below w.heap.size w w' := by
  have b0 : Bs (w.alloc (.cells #[.int .u8 9] 5)) (some ⟨w.heap.size, 0, none⟩) 1 1 [9] := Bs.new_ w 5 [9] (by simp) rfl
  have P1 := put_any _ _ _ _ 258 3 _ b0 (by omega) (by omega) (by omega)
  have B0 := Lib.hid ((Below.refl w.heap.size w).alloc (Nat.le_refl _) (.cells #[.int .u8 9] 5))
  rw [put1] at P1
  go_enter Try.func7, Try.ntmps7
  go_wp2_with (go_at_call 8; refine P1.mono ?_; rintro e w1 ⟨A1, c1, rfl, hb1, hw1⟩)
  clear P1
  replace hb1 : Bs w1 A1 4 c1 [9, 2, 1, 0] := hb1
  have T1 := take_any _ _ _ _ 1 2 _ hb1 (by simp)
  rw [take1] at T1
  have HB1 := Lib.hid hb1; have HW1 := Lib.hid hw1; clear hb1 hw1
  go_wp2_with (go_at_call 14; refine T1.mono ?_; rintro e w2 ⟨rfl, hw2⟩)
  clear T1
  have hb1 := HB1.out.below hw2
  have T2 := cut_any _ _ _ _ 2 2 _ hb1 (by simp)
  rw [cut1] at T2
  have HB2 := Lib.hid hb1; have HW2 := Lib.hid hw2; clear hb1 hw2
  go_wp2_with (go_at_call 16; refine T2.mono ?_; rintro e w3 ⟨A3, c3, rfl, hb3, hw3⟩)
  clear T2
  replace hb3 : Bs w3 A3 2 c3 [1, 0] := hb3
  have P2 := put_any _ _ _ _ 256 1 _ (Bs.nil w3 none 0) (by omega) (by omega) (by omega)
  rw [put2] at P2
  have HB3 := Lib.hid hb3; have HW3 := Lib.hid hw3; clear hb3 hw3
  go_wp2_with (go_at_call 8; refine P2.mono ?_; rintro e w4 ⟨A4, c4, rfl, hb4, hw4⟩)
  clear P2 hb4
  have hb1 := (HB2.out.below HW3.out).below hw4
  have T3 := take_any _ _ _ _ 2 3 _ hb1 (by simp)
  rw [take2] at T3
  have HW4 := Lib.hid hw4; clear hw4 hb1
  go_wp2_with (go_at_call 14; refine T3.mono ?_; rintro e w5 ⟨rfl, hw5⟩)
  clear T3
  have hs1 := (((HB2.out.below HW3.out).below HW4.out).below hw5).str (P := Try.prog) 22 5 9 Try.underlying22 Try.underlying5 Try.underlying9
  have hs2 := ((HB3.out.below HW4.out).below hw5).str (P := Try.prog) 22 5 9 Try.underlying22 Try.underlying5 Try.underlying9
  have F1 := fits_any 255 1 w5 (by omega) (by omega)
  have F2 := fits_any 1 0 w5 (by omega) (by omega)
  have S1 := size_any 9223372036854775808 w5 (by omega) (by omega)
  have S2 := size_any 0 w5 (by omega) (by omega)
  rw [fit1] at F1
  rw [fit2] at F2
  have e1 : ((sz (9223372036854775808 : Int).toNat : Nat) : Int) = 8 := by rw [show (9223372036854775808 : Int).toNat = 9223372036854775808 from rfl, sz263]; rfl
  have e2 : ((sz (0 : Int).toNat : Nat) : Int) = 1 := by rw [show (0 : Int).toNat = 0 from rfl, sz_zero]; rfl
  rw [e1] at S1
  rw [e2] at S2
  have x1 : strOfNums [9, 2, 1, 0] = ⟨#[9, 2, 1, 0]⟩ := rfl
  have x2 : strOfNums [1, 0] = ⟨#[1, 0]⟩ := rfl
  rw [x1] at hs1
  rw [x2] at hs2
  clear x1 x2 e1 e2
  have HF1 := Lib.hid F1; have HF2 := Lib.hid F2; have HS1 := Lib.hid S1; have HS2 := Lib.hid S2; have HW5 := Lib.hid hw5
  clear F1 F2 S1 S2 hw5
  go_wp2_with fail
  rw [hs1]
  go_wp2_with fail
  refine HF1.out.mono ?_; rintro e w' ⟨rfl, rfl⟩
  go_wp2_with fail
  refine HF2.out.mono ?_; rintro e w' ⟨rfl, rfl⟩
  go_wp2_with fail
  refine HS1.out.mono ?_; rintro e w' ⟨rfl, rfl⟩
  go_wp2_with fail
  refine HS2.out.mono ?_; rintro e w' ⟨rfl, rfl⟩
  go_wp2
  go_ret
  refine ⟨rfl, ?_⟩
  have g1 := B0.out.trans (HW1.out.mono (by simp))
  have g2 := g1.trans (HW2.out.mono g1.size)
  have g3 := g2.trans (HW3.out.mono g2.size)
  have g4 := g3.trans (HW4.out.mono g3.size)
  exact g4.trans (HW5.out.mono g4.size)
end Go.Proofs.Ytaggiooolhgepaa
