/- OctetParts returns true for every slice of bytes and every two bytes. -/
import Derived.Test.YtaggiooolhgepaaI
namespace Go.Proofs.Ytaggiooolhgepaa
set_option linter.unusedVariables false
set_option linter.unusedSimpArgs false
open Go.RowKit

theorem cutS_ok {bs : List Int} {k m : Nat} (h : k + m ≤ bs.length) : cutS bs k m = ((bs.drop k).take m, (k : Int) + m, 0) := by
  rw [cutS, if_neg (by omega), if_neg (by omega)]; simp
theorem len_part {bs : List Int} {k m : Nat} (h : k + m ≤ bs.length) : ((bs.drop k).take m).length = m := by
  rw [List.length_take, List.length_drop]; omega
theorem parts_cat (bs : List Int) (i j : Nat) (h : i + j ≤ bs.length) : ((bs.drop 0).take i ++ (bs.drop i).take j) ++ (bs.drop (i + j)).take (bs.length - i - j) = bs := by
  rw [List.take_of_length_le (l := bs.drop (i + j)) (by rw [List.length_drop]; omega), List.drop_zero]
  rw [show bs.drop (i + j) = (bs.drop i).drop j by rw [List.drop_drop], List.append_assoc, List.take_append_drop, List.take_append_drop]
theorem str_append (l1 l2 : List Int) : strOfNums l1 ++ strOfNums l2 = strOfNums (l1 ++ l2) := by
  apply ByteArray.ext
  simp [strOfNums]

theorem parts_walk (A : Option Addr) (n c : Nat) (bs : List Int) (a b : Int) (w : World) (hb : Bs w A n c bs) (a0 : 0 ≤ a) (a1 : a ≤ 255) (b0 : 0 ≤ b) (b1 : b ≤ 255) :
    Calls Try.prog 6 #[.slice A n c, .agg #[.int .u8 a, .int .u8 b]] w fun e w' => e = .returned (.bool true) ∧ Below w.heap.size w w' := by
  have HB := Lib.hid (hb.alloc (.cells #[.int .u8 a, .int .u8 b] 36))
  have B0 := Lib.hid ((Below.refl w.heap.size w).alloc (Nat.le_refl _) (.cells #[.int .u8 a, .int .u8 b] 36))
  have HLn := Lib.hid hb.len
  clear hb
  by_cases hn : (200 : Int) < n
  · go_enter Try.func6, Try.ntmps6
    go_wp2_with (go_at_call 7; refine (alive_any _).mono ?_; rintro e w1 ⟨rfl, hw1⟩)
    go_ret
    exact ⟨rfl, B0.out.trans (hw1.mono (by simp))⟩
  · go_enter Try.func6, Try.ntmps6
    go_wp2_with fail
    refine (alive_any _).mono ?_; rintro e w1 ⟨rfl, hw1⟩
    have hc0 : w1.cell? ⟨w.heap.size, 0, none⟩ = some (.int .u8 a) := by
      rw [hw1.cell (p := ⟨w.heap.size, 0, none⟩) (by simp), cell_of_row _ w.heap.size 0 _ 36 (0, 0) (heap_alloc_new w _)]; rfl
    have hc1 : w1.cell? ⟨w.heap.size, 1, none⟩ = some (.int .u8 b) := by
      rw [hw1.cell (p := ⟨w.heap.size, 1, none⟩) (by simp), cell_of_row _ w.heap.size 1 _ 36 (0, 0) (heap_alloc_new w _)]; rfl
    have hb1 := HB.out.below hw1
    have HW1 := Lib.hid hw1; have HB1 := Lib.hid hb1; clear hw1 hb1
    have hi0 : 0 ≤ a % ((n : Int) + 1) := Int.emod_nonneg _ (by omega)
    have hi1 : a % ((n : Int) + 1) < (n : Int) + 1 := Int.emod_lt_of_pos _ (by omega)
    have hj0 : 0 ≤ b % ((n : Int) - a % ((n : Int) + 1) + 1) := Int.emod_nonneg _ (by omega)
    have hj1 : b % ((n : Int) - a % ((n : Int) + 1) + 1) < (n : Int) - a % ((n : Int) + 1) + 1 := Int.emod_lt_of_pos _ (by omega)
    go_wp2_with fail
    obtain ⟨i, hi⟩ : ∃ i : Nat, a % ((n : Int) + 1) = i := ⟨(a % ((n : Int) + 1)).toNat, by omega⟩
    rw [hi] at hi0 hi1 hj0 hj1 ⊢
    obtain ⟨j, hj⟩ : ∃ j : Nat, b % ((n : Int) - (i : Int) + 1) = j := ⟨(b % ((n : Int) - (i : Int) + 1)).toNat, by omega⟩
    rw [hj] at hj0 hj1 ⊢
    have hij : i + j ≤ n := by omega
    have hin : i ≤ n := by omega
    clear hi hj hc0 hc1 hi0 hi1 hj0 hj1
    have P1 := cut_any A n c bs ((0 : Nat) : Int) i w1 HB1.out (by omega)
    rw [cutS_ok (by rw [HLn.out]; omega)] at P1
    dsimp only at P1
    have L1 : ((bs.drop 0).take i).length = i := len_part (by rw [HLn.out]; omega)
    refine P1.mono ?_; rintro e w2 ⟨A2, c2, rfl, hb2, hw2⟩
    simp only [L1] at hb2 ⊢
    have b2 := HB1.out.below hw2
    have P2 := cut_any A n c bs i j w2 b2 (by omega)
    rw [cutS_ok (by rw [HLn.out]; omega)] at P2
    dsimp only at P2
    have HP2 := Lib.hid P2; have HB2 := Lib.hid hb2; have HW2 := Lib.hid hw2; have Hb2 := Lib.hid b2
    clear P1 P2 L1 hb2 hw2 b2
    go_wp2_with fail
    refine HP2.out.mono ?_; rintro e w3 ⟨A3, c3, rfl, hb3, hw3⟩
    have L2 : ((bs.drop i).take j).length = j := len_part (by rw [HLn.out]; omega)
    simp only [L2] at hb3 ⊢
    have b3 := Hb2.out.below hw3
    have P3 := cut_any A n c bs ((i + j : Nat) : Int) ((n - i - j : Nat) : Int) w3 b3 (by omega)
    rw [cutS_ok (by rw [HLn.out]; omega)] at P3
    dsimp only at P3
    have ea : ((i + j : Nat) : Int) = (i : Int) + (j : Int) := by omega
    have eb : ((n - i - j : Nat) : Int) = (n : Int) - (i : Int) - (j : Int) := by omega
    have ec : (i : Int) + (j : Int) + ((n : Int) - (i : Int) - (j : Int)) = n := by omega
    rw [ea, eb, ec] at P3
    have HP3 := Lib.hid P3; have HB3 := Lib.hid hb3; have HW3 := Lib.hid hw3; have Hb3 := Lib.hid b3
    clear P3 L2 hb3 hw3 b3 ea eb ec
    go_wp2_with fail
    refine HP3.out.mono ?_; rintro e w4 ⟨A4, c4, rfl, hb4, hw4⟩
    have L3 : ((bs.drop (i + j)).take (n - i - j)).length = n - i - j := len_part (by rw [HLn.out]; omega)
    simp only [L3] at hb4 ⊢
    have hs1 := ((HB2.out.below HW3.out).below hw4).str (P := Try.prog) 22 5 9 Try.underlying22 Try.underlying5 Try.underlying9
    have hs2 := (HB3.out.below hw4).str (P := Try.prog) 22 5 9 Try.underlying22 Try.underlying5 Try.underlying9
    have hs3 := hb4.str (P := Try.prog) 22 5 9 Try.underlying22 Try.underlying5 Try.underlying9
    have hs4 := (Hb3.out.below hw4).str (P := Try.prog) 22 5 9 Try.underlying22 Try.underlying5 Try.underlying9
    have hcat : strOfNums ((bs.drop 0).take i) ++ strOfNums ((bs.drop i).take j) ++ strOfNums ((bs.drop (i + j)).take (n - i - j)) = strOfNums bs := by
      rw [str_append, str_append]
      have := parts_cat bs i j (by rw [HLn.out]; omega)
      rw [HLn.out] at this
      rw [this]
    have z1 : (strOfNums ((bs.drop 0).take i)).size ≤ 200 := by rw [strOfNums_size, List.length_take]; omega
    have z2 : (strOfNums ((bs.drop i).take j)).size ≤ 200 := by rw [strOfNums_size, List.length_take]; omega
    have z3 : (strOfNums ((bs.drop (i + j)).take (n - i - j))).size ≤ 200 := by rw [strOfNums_size, List.length_take]; omega
    generalize strOfNums ((bs.drop 0).take i) = s1 at *
    generalize strOfNums ((bs.drop i).take j) = s2 at *
    generalize strOfNums ((bs.drop (i + j)).take (n - i - j)) = s3 at *
    generalize strOfNums bs = s4 at *
    have HW4 := Lib.hid hw4
    clear hw4 hb4 L3
    go_wp2_with fail
    go_ret
    have g1 := B0.out.trans (HW1.out.mono (by simp))
    have g2 := g1.trans (HW2.out.mono g1.size)
    have g3 := g2.trans (HW3.out.mono g2.size)
    exact ⟨rfl, g3.trans (HW4.out.mono g3.size)⟩
end Go.Proofs.Ytaggiooolhgepaa
