/- OctetBack returns true for every slice of bytes, every number and every two bytes. -/
import Derived.Test.YtaggiooolhgepaaH
import Derived.Deep.QuietTactic
import Derived.BigQuiet
namespace Go.Proofs.Ytaggiooolhgepaa
set_option linter.unusedVariables false
set_option linter.unusedSimpArgs false
open Go.RowKit

theorem back_walk (A : Option Addr) (n c : Nat) (bs : List Int) (x a b : Int) (w : World) (hb : Bs w A n c bs) (x0 : 0 ≤ x) (x1 : x ≤ 18446744073709551615) (a0 : 0 ≤ a) (a1 : a ≤ 255) :
    Calls Try.prog 5 #[.slice A n c, .int .u64 x, .agg #[.int .u8 a, .int .u8 b]] w fun e w' => e = .returned (.bool true) ∧ Below w.heap.size w w' := by
  have HB := Lib.hid (hb.alloc (.cells #[.int .u8 a, .int .u8 b] 36))
  have B0 := Lib.hid ((Below.refl w.heap.size w).alloc (Nat.le_refl _) (.cells #[.int .u8 a, .int .u8 b] 36))
  have HLn := Lib.hid hb.len
  clear hb
  by_cases hn : (1000 : Int) < n
  · go_enter Try.func5, Try.ntmps5
    go_wp2_with (go_at_call 7; refine (alive_any _).mono ?_; rintro e w1 ⟨rfl, hw1⟩)
    go_ret
    exact ⟨rfl, B0.out.trans (hw1.mono (by simp))⟩
  · go_enter Try.func5, Try.ntmps5
    go_wp2_with fail
    refine (alive_any _).mono ?_; rintro e w1 ⟨rfl, hw1⟩
    have hc0 : w1.cell? ⟨w.heap.size, 0, none⟩ = some (.int .u8 a) := by
      rw [hw1.cell (p := ⟨w.heap.size, 0, none⟩) (by simp), cell_of_row _ w.heap.size 0 _ 36 (0, 0) (heap_alloc_new w _)]; rfl
    have b1 := HB.out.below hw1
    go_wp2_with fail
    obtain ⟨q, hq⟩ : ∃ q : Nat, (1 : Int) + a % 8 = q := ⟨(1 + a % 8).toNat, by omega⟩
    have q1 : 1 ≤ q := by omega
    have q8 : q ≤ 8 := by omega
    have P1 := put_any A n c bs x q w1 b1 (by omega) x0 x1
    have HW1 := Lib.hid hw1; have HB1 := Lib.hid b1; clear hw1 b1
    cases hf : fitsB x q with
    | false =>
      rw [show putS bs x q = ([], 4) by rw [putS, if_neg (by omega), if_pos hf]] at P1
      have hsz : (q : Int) < (sz x.toNat : Int) := by
        have : ¬ (1 ≤ (q : Int) ∧ (q : Int) ≤ 8 ∧ (sz x.toNat : Int) ≤ q) := by simpa [fitsB] using hf
        omega
      have hd : decide ((q : Int) < (sz x.toNat : Int)) = true := by simpa using hsz
      have HF := Lib.hid hf; clear hf
      rw [hq]
      clear hq
      refine P1.mono ?_; rintro e w2 ⟨A2, c2, rfl, hb2, hw2⟩
      clear P1 hc0
      have F1 := Lib.hid (fits_any x q w2 x0 x1)
      have S1 := Lib.hid (size_any x w2 x0 x1)
      have HW2 := Lib.hid hw2; clear hw2 hb2
      go_wp2_with fail
      refine F1.out.mono ?_; rw [HF.out]; rintro e w' ⟨rfl, rfl⟩
      go_wp2_with fail
      refine S1.out.mono ?_; rintro e w' ⟨rfl, rfl⟩
      go_wp2
      go_ret
      have g1 := B0.out.trans (HW1.out.mono (by simp))
      exact ⟨by simp [hsz], g1.trans (HW2.out.mono g1.size)⟩
    | true =>
      have hR := putS_ok (bs := bs) q1 q8 hf
      rw [hR] at P1
      have HF := Lib.hid hf; have HQ := Lib.hid hq; clear hf hR
      rw [hq]
      clear hq
      refine P1.mono ?_; rintro e w2 ⟨A2, c2, rfl, hb2, hw2⟩
      clear P1 hc0
      have F1 := Lib.hid (fits_any x q w2 x0 x1)
      have hl : (bs ++ digs x q).length = n + q := by rw [List.length_append, HLn.out, digs_len]
      simp only [hl] at hb2 ⊢
      have T1 := take_any _ _ _ _ (n : Int) (q : Int) w2 hb2 (by omega)
      have hT := takeS_back (bs := bs) x0 q1 q8 HF.out
      rw [HLn.out] at hT
      rw [hT] at T1
      have HW2 := Lib.hid hw2; have HB2 := Lib.hid hb2; have HT1 := Lib.hid T1; clear hw2 hb2 hl T1 hT
      go_wp2_with fail
      refine F1.out.mono ?_; rw [HF.out]; rintro e w' ⟨rfl, rfl⟩
      go_wp2_with fail
      refine HT1.out.mono ?_; rintro e w3 ⟨rfl, hw3⟩
      have b3 := HB2.out.below hw3
      obtain ⟨A5, c5, hsl, hb5⟩ := b3.sliceh (P := Try.prog) 22 und22 size5 (n : Int) n rfl (by omega)
      have e1 : (bs ++ digs x q).take n = bs := by rw [← HLn.out]; simp
      rw [e1] at hb5
      have hs1 := fun k => (hb5.drewN k).str (P := Try.prog) 22 5 9 Try.underlying22 Try.underlying5 Try.underlying9
      have hs2 := fun k => (((HB1.out.below HW2.out).below hw3).drewN k).str (P := Try.prog) 22 5 9 Try.underlying22 Try.underlying5 Try.underlying9
      have HB3 := Lib.hid b3; have HW3 := Lib.hid hw3
      clear b3 hb5 e1 hw3
      go_wp2_with fail
      go_quiet (fail)
      clear hsl
      obtain ⟨A6, c6, hsl2, hb6⟩ := (HB3.out.drewN nq).sliceh (P := Try.prog) 22 und22 size5 ((n : Int) + (q : Int) - 1) (n + q - 1) (by omega) (by omega)
      have T2 := take_any _ _ _ _ (n : Int) (q : Int) _ hb6 (by omega)
      have hT := takeS_short (bs := bs) (x := x) q1 q8
      rw [HLn.out] at hT
      rw [hT] at T2
      have HT2 := Lib.hid T2; clear T2 hT hb6
      go_wp2_with fail
      refine HT2.out.mono ?_; rintro e w4 ⟨rfl, hw4⟩
      have S1 := Lib.hid (size_any x w4 x0 x1)
      have HW4 := Lib.hid hw4; clear hw4 hsl2
      have hsz := (fits_lt x0 HF.out).2
      have hd : decide ((sz x.toNat : Int) ≤ (q : Int)) = true := by simpa using hsz
      go_wp2_with fail
      refine S1.out.mono ?_; rintro e w' ⟨rfl, rfl⟩
      go_wp2
      go_ret
      have g1 := B0.out.trans (HW1.out.mono (by simp))
      have g2 := g1.trans (HW2.out.mono g1.size)
      have g3 := g2.trans (HW3.out.mono g2.size)
      refine ⟨by simp [hsz], ?_⟩
      have g4 : Below w.heap.size w (w3.drewN nq) := ⟨g3.os, g3.tape, g3.output, g3.size, g3.block⟩
      exact g4.trans (HW4.out.mono g4.size)
end Go.Proofs.Ytaggiooolhgepaa
