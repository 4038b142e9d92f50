/- What the program's own order, steps and sums of layer 5 answer; no condition. -/
import Derived.Test.YtmjpemddndjcpaaRealOA
import Derived.Laws.Cover2
namespace Go.Proofs.Ytmjpemddndjcpaa
set_option linter.unusedVariables false
set_option linter.unusedSimpArgs false
open Go.RowKit
open Ieee
theorem less_f64 {x y : Nat} (hx : x < 18446744073709551616) (hy : y < 18446744073709551616) : (FloatKind.f64.format.order x y == some .lt) = lessN x y := (less_order hx hy).symm
theorem same_f64 {x y : Nat} (hx : x < 18446744073709551616) (hy : y < 18446744073709551616) : (FloatKind.f64.format.order x y == some .eq) = sameN x y := by
  show (double.order x y == some .eq) = sameN x y
  unfold sameN
  have h1 := less_val hx hy
  have h2 := less_val hy hx
  by_cases h : rung x ≤ 9218868437227405312 ∧ rung y ≤ 9218868437227405312
  · have c1 : clsN x ≠ 4 := by rw [ne_eq, cls4]; omega
    have c2 : clsN y ≠ 4 := by rw [ne_eq, cls4]; omega
    rw [order_val x y h.1 h.2, decide_eq_true (⟨c1, c2⟩ : clsN x ≠ 4 ∧ clsN y ≠ 4)]
    rcases Int.lt_trichotomy (val x) (val y) with h3 | h3 | h3
    · rw [Int.compare_eq_lt.2 h3, h1.2 ⟨h.1, h.2, h3⟩]; rfl
    · have e1 : lessN x y = false := by
        cases h4 : lessN x y with
        | false => rfl
        | true => have := (h1.1 h4).2.2; omega
      have e2 : lessN y x = false := by
        cases h4 : lessN y x with
        | false => rfl
        | true => have := (h2.1 h4).2.2; omega
      rw [e1, e2, Int.compare_eq_eq.2 h3]; rfl
    · rw [Int.compare_eq_gt.2 h3, h2.2 ⟨h.2, h.1, h3⟩]
      cases lessN x y <;> rfl
  · have c : ¬ (clsN x ≠ 4 ∧ clsN y ≠ 4) := by rw [ne_eq, ne_eq, cls4, cls4]; omega
    rw [order_nan x y (by omega), decide_eq_false c]; rfl
theorem realLess_any0 (x y : Nat) (w : World) (hx : x < 18446744073709551616) (hy : y < 18446744073709551616) : Calls Try.prog 22 #[.int .u64 (x : Int), .int .u64 (y : Int)] w fun e w' => e = .returned (.bool (lessN x y)) ∧ w = w' := by
  have A := Lib.hid (fun w => realNumber_any x w)
  have B := Lib.hid (fun w => realNumber_any y w)
  have L := less_f64 hx hy
  generalize lessN x y = b at *
  go_enter Try.func22, Try.ntmps22
  go_wp2_with fail
  refine (A.out _).mono ?_; rintro e w' ⟨rfl, rfl⟩
  go_wp2_with fail
  refine (B.out _).mono ?_; rintro e w' ⟨rfl, rfl⟩
  go_wp2_with fail
  go_ret
  exact ⟨rfl, rfl⟩
theorem upN_key {x : Nat} (hx : x < 18446744073709551616) (h4 : clsN x ≠ 4) (h0 : clsN x ≠ 0) : keyN x + 1 < 18446744073709551616 ∧ unkeyN (min (keyN x + 1) 18442240474082181120) = upN x := by
  have hr : rung x ≤ 9218868437227405312 := by rw [ne_eq, cls4] at h4; omega
  have hr0 : rung x ≠ 0 := by rw [ne_eq, cls0] at h0; exact h0
  have h3 := @cls3 x
  have hp := word_parts hx
  have hk := keyN_lt hx
  unfold upN unkeyN
  rw [if_neg h4, if_neg h0]
  rw [sgn_iff hx] at hp ⊢
  unfold keyN at hk ⊢
  rw [sgn_iff hx] at hk ⊢
  by_cases hs : 9223372036854775808 ≤ x
  · rw [decide_eq_true hs] at *
    simp only [if_true] at *
    have e : min (18446744073709551615 - x + 1) 18442240474082181120 = 18446744073709551615 - x + 1 := by omega
    rw [e, sgn_iff (by omega), decide_eq_false (by omega)]
    simp only [Bool.false_eq_true, if_false]
    omega
  · rw [decide_eq_false hs] at *
    simp only [Bool.false_eq_true, if_false] at *
    refine ⟨by omega, ?_⟩
    rw [sgn_iff (by omega), decide_eq_true (by omega)]
    simp only [if_true]
    split <;> omega
theorem downN_word {x : Nat} (hx : x < 18446744073709551616) (h4 : clsN x ≠ 4) (h0 : ¬ (x = 0 ∨ x = 9223372036854775808)) (hi : x ≠ 18442240474082181120) : downN x = if 9223372036854775808 ≤ x then x + 1 else x - 1 := by
  obtain ⟨a1, a2, a3, a4⟩ := ord_neg hx h4
  have hi2 : negN x ≠ 9218868437227405312 := fun h => hi (a4.1 h)
  obtain ⟨b1, b2, b3⟩ := ord_up a1 a2 hi2
  have e2 := upN_eq a1 a2 hi2
  unfold downN
  rw [negN_eq b1 b2]
  have hn := negN_eq hx h4
  rw [ne_eq, cls4_word hx] at h4
  by_cases hs : 9223372036854775808 ≤ x
  · rw [if_pos hs] at hn ⊢
    rw [if_neg (by omega), if_neg (by omega)] at e2
    rw [e2, hn, if_neg (by omega)]; omega
  · rw [if_neg hs] at hn ⊢
    rw [if_neg (by omega), if_pos (by omega)] at e2
    rw [e2, hn, if_pos (by omega)]; omega
theorem unkeyN_eq {x : Nat} (hx : x < 18446744073709551616) : unkeyN x = if 9223372036854775808 ≤ x then x - 9223372036854775808 else 18446744073709551615 - x := by
  unfold unkeyN
  rw [sgn_iff hx]
  by_cases h : 9223372036854775808 ≤ x
  · rw [decide_eq_true h, if_pos rfl, if_pos h]
  · rw [decide_eq_false h, if_neg (by decide), if_neg h]
theorem downN_key {x : Nat} (hx : x < 18446744073709551616) (h4 : clsN x ≠ 4) (h0 : clsN x ≠ 0) : 1 ≤ keyN x ∧ unkeyN (max (keyN x - 1) 4503599627370495) = downN x := by
  have h4' := h4
  rw [ne_eq, cls4_word hx] at h4'
  have h0' : ¬ (x = 0 ∨ x = 9223372036854775808) := fun h => h0 ((cls0_word hx).2 h)
  have hk := keyN_lt hx
  rw [keyN_eq hx] at hk ⊢
  by_cases hi : x = 18442240474082181120
  · subst hi
    exact ⟨by decide, by rw [down_inf]; kernel_rfl⟩
  · rw [downN_word hx h4 h0' hi]
    by_cases hs : 9223372036854775808 ≤ x
    · rw [if_pos hs] at hk ⊢
      rw [if_pos hs]
      have e : max (18446744073709551615 - x - 1) 4503599627370495 = 18446744073709551615 - x - 1 := by omega
      refine ⟨by omega, ?_⟩
      rw [e, unkeyN_eq (by omega), if_neg (by omega)]; omega
    · rw [if_neg hs] at hk ⊢
      rw [if_neg hs]
      have e : max (x + 9223372036854775808 - 1) 4503599627370495 = x + 9223372036854775808 - 1 := by omega
      refine ⟨by omega, ?_⟩
      rw [e, unkeyN_eq (by omega), if_pos (by omega)]; omega
end Go.Proofs.Ytmjpemddndjcpaa
