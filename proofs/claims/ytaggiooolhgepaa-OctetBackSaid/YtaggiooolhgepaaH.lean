/- OctetTakes returns true for every slice of bytes and every two numbers; and plain facts on what is put and taken. -/
import Derived.Test.YtaggiooolhgepaaG
namespace Go.Proofs.Ytaggiooolhgepaa
set_option linter.unusedVariables false
set_option linter.unusedSimpArgs false
open Go.RowKit

theorem takes_walk (A : Option Addr) (n c : Nat) (bs : List Int) (x m : Int) (w : World) (hb : Bs w A n c bs) :
    Calls Try.prog 4 #[.slice A n c, .int .i64 x, .int .i64 m] w fun e w' => e = .returned (.bool true) ∧ Below w.heap.size w w' := by
  have HB := Lib.hid hb
  clear hb
  by_cases hn : (1000 : Int) < n
  · go_enter Try.func4, Try.ntmps4
    go_wp2_with (go_at_call 7; refine (alive_any _).mono ?_; rintro e w1 ⟨rfl, hw1⟩)
    go_ret
    exact ⟨rfl, hw1⟩
  · go_enter Try.func4, Try.ntmps4
    go_wp2_with (go_at_call 7; refine (alive_any _).mono ?_; rintro e w1 ⟨rfl, hw1⟩)
    have b1 := HB.out.below hw1
    have P1 := take_any A n c bs x m w1 b1 (by omega)
    have HW1 := Lib.hid hw1; have HB1 := Lib.hid b1; clear hw1 b1
    go_wp2_with (go_at_call 14; refine P1.mono ?_; rintro e w2 ⟨rfl, hw2⟩)
    clear P1
    have b2 := HB1.out.below hw2
    have P2 := refTake_any A n c bs x m w2 b2 (by omega)
    have HW2 := Lib.hid hw2; have HB2 := Lib.hid b2; clear hw2 b2
    go_wp2_with (go_at_call 15; refine P2.mono ?_; rintro e w3 ⟨rfl, hw3⟩)
    clear P2
    have b3 := HB2.out.below hw3
    have P3 := cut_any A n c bs x m w3 b3 (by omega)
    have HW3 := Lib.hid hw3; have HB3 := Lib.hid b3; clear hw3 b3
    go_wp2_with (go_at_call 16; refine P3.mono ?_; rintro e w4 ⟨A4, c4, rfl, hb4, hw4⟩)
    clear P3
    have b4 := HB3.out.below hw4
    have P4 := refCut_any A n c bs x m w4 b4 (by omega)
    have HW4 := Lib.hid hw4; have HB4 := Lib.hid hb4; clear hw4 hb4 b4
    go_wp2_with (go_at_call 17; refine P4.mono ?_; rintro e w5 ⟨A5, c5, rfl, hb5, hw5⟩)
    clear P4
    have hs1 := (HB4.out.below hw5).str (P := Try.prog) 22 5 9 Try.underlying22 Try.underlying5 Try.underlying9
    have hs2 := hb5.str (P := Try.prog) 22 5 9 Try.underlying22 Try.underlying5 Try.underlying9
    have HW5 := Lib.hid hw5; clear hw5 hb5
    go_wp2_with fail
    rw [hs1]
    go_wp2_with fail
    go_ret
    have g1 := HW1.out.trans (HW2.out.mono HW1.out.size)
    have g2 := g1.trans (HW3.out.mono g1.size)
    have g3 := g2.trans (HW4.out.mono g2.size)
    exact ⟨rfl, g3.trans (HW5.out.mono g3.size)⟩

theorem putS_ok {bs : List Int} {x : Int} {q : Nat} (h1 : 1 ≤ q) (h8 : q ≤ 8) (hf : fitsB x q = true) : putS bs x q = (bs ++ digs x q, 0) := by
  rw [putS, if_neg (by omega), if_neg (by simp [hf])]; rfl
theorem num_digs : ∀ (k : Nat) (x : Int), 0 ≤ x → x < 256 ^ k → num (digs x k) = x
  | 0, x, h0, h => by simp at h; simp [digs, num]; omega
  | k + 1, x, h0, h => by
    have := num_digs k (x / 256) (by omega) (by rw [Int.pow_succ] at h; omega)
    simp only [digs, num, this]; omega
theorem lt_pow_dg : ∀ (k x : Nat), dg x ≤ k → x < 256 ^ k
  | 0, x, h => by
    by_cases h0 : 0 < x
    · rw [dg_pos h0] at h; omega
    · have : x = 0 := by omega
      subst this; decide
  | k + 1, x, h => by
    by_cases h0 : 0 < x
    · rw [dg_pos h0] at h
      have := lt_pow_dg k (x / 256) (by omega)
      rw [Nat.pow_succ]; omega
    · have : x = 0 := by omega
      subst this; exact Nat.pow_pos (by decide)
theorem fits_lt {x : Int} {q : Nat} (x0 : 0 ≤ x) (hf : fitsB x q = true) : x < 256 ^ q ∧ (sz x.toNat : Int) ≤ q := by
  have h : 1 ≤ (q : Int) ∧ (q : Int) ≤ 8 ∧ (sz x.toNat : Int) ≤ q := by simpa [fitsB] using hf
  refine ⟨?_, h.2.2⟩
  have h2 : dg x.toNat ≤ q := by
    by_cases h0 : 0 < x.toNat
    · rw [← sz_dg h0]; omega
    · have : x.toNat = 0 := by omega
      rw [this, dg_zero]; omega
  have h3 := lt_pow_dg q x.toNat h2
  have h4 : ((256 ^ q : Nat) : Int) = (256 : Int) ^ q := by simp
  omega
theorem takeS_back {bs : List Int} {x : Int} {q : Nat} (x0 : 0 ≤ x) (h1 : 1 ≤ q) (h8 : q ≤ 8) (hf : fitsB x q = true) : takeS (bs ++ digs x q) bs.length q = (x, (bs.length : Int) + q, 0) := by
  have hc : cutS (bs ++ digs x q) bs.length q = (digs x q, (bs.length : Int) + q, 0) := by
    have hl := digs_len q x
    rw [cutS, if_neg (by rw [List.length_append]; omega), if_neg (by rw [List.length_append, hl]; omega)]
    have e : (bs ++ digs x q).drop ((bs.length : Int)).toNat = digs x q := by simp
    rw [e, List.take_of_length_le (by rw [hl]; omega)]
  rw [takeS_ok (by omega) hc, num_digs q x x0 (fits_lt x0 hf).1]
theorem takeS_short {bs : List Int} {x : Int} {q : Nat} (h1 : 1 ≤ q) (h8 : q ≤ 8) : takeS ((bs ++ digs x q).take (bs.length + q - 1)) bs.length q = (0, 0, 2) := by
  have hl := digs_len q x
  refine takeS_err (by omega) ?_ (by decide)
  have hl2 : ((bs ++ digs x q).take (bs.length + q - 1)).length = bs.length + q - 1 := by rw [List.length_take, List.length_append, hl]; omega
  rw [cutS, hl2, if_neg (by omega), if_pos (by omega)]
end Go.Proofs.Ytaggiooolhgepaa
