/- What the program's own order, steps and sums of layer 5 answer; no condition. -/
import Derived.Test.YtemdhlajdmkppaaRealOA
import Derived.Laws.Cover2
namespace Go.Proofs.Ytemdhlajdmkppaa
set_option linter.unusedVariables false
set_option linter.unusedSimpArgs false
open Go.RowKit
open Ieee
theorem less_f64 {x y : Nat} (hx : x < 18446744073709551616) (hy : y < 18446744073709551616) : (FloatKind.f64.format.order x y == some .lt) = lessN x y := (less_order hx hy).symm
theorem same_f64 {x y : Nat} (hx : x < 18446744073709551616) (hy : y < 18446744073709551616) : (FloatKind.f64.format.order x y == some .eq) = sameN x y := by
  show (double.order x y == some .eq) = sameN x y
  unfold sameN
  have h1 := less_val hx hy
  have h2 := less_val hy hx
  by_cases h : rung x ≤ 9218868437227405312 ∧ rung y ≤ 9218868437227405312
  · have c1 : clsN x ≠ 4 := by rw [ne_eq, cls4]; omega
    have c2 : clsN y ≠ 4 := by rw [ne_eq, cls4]; omega
    rw [order_val x y h.1 h.2, decide_eq_true (⟨c1, c2⟩ : clsN x ≠ 4 ∧ clsN y ≠ 4)]
    rcases Int.lt_trichotomy (val x) (val y) with h3 | h3 | h3
    · rw [Int.compare_eq_lt.2 h3, h1.2 ⟨h.1, h.2, h3⟩]; rfl
    · have e1 : lessN x y = false := by
        cases h4 : lessN x y with
        | false => rfl
        | true => have := (h1.1 h4).2.2; omega
      have e2 : lessN y x = false := by
        cases h4 : lessN y x with
        | false => rfl
        | true => have := (h2.1 h4).2.2; omega
      rw [e1, e2, Int.compare_eq_eq.2 h3]; rfl
    · rw [Int.compare_eq_gt.2 h3, h2.2 ⟨h.2, h.1, h3⟩]
      cases lessN x y <;> rfl
  · have c : ¬ (clsN x ≠ 4 ∧ clsN y ≠ 4) := by rw [ne_eq, ne_eq, cls4, cls4]; omega
    rw [order_nan x y (by omega), decide_eq_false c]; rfl
theorem realLess_any0 (x y : Nat) (w : World) (hx : x < 18446744073709551616) (hy : y < 18446744073709551616) : Calls Try.prog 19 #[.int .u64 (x : Int), .int .u64 (y : Int)] w fun e w' => e = .returned (.bool (lessN x y)) ∧ w = w' := by
  have A := Lib.hid (fun w => realNumber_any x w)
  have B := Lib.hid (fun w => realNumber_any y w)
  have L := less_f64 hx hy
  generalize lessN x y = b at *
  go_enter Try.func19, Try.ntmps19
  go_wp2_with fail
  refine (A.out _).mono ?_; rintro e w' ⟨rfl, rfl⟩
  go_wp2_with fail
  refine (B.out _).mono ?_; rintro e w' ⟨rfl, rfl⟩
  go_wp2_with fail
  go_ret
  exact ⟨rfl, rfl⟩
theorem realSame_any0 (x y : Nat) (w : World) (hx : x < 18446744073709551616) (hy : y < 18446744073709551616) : Calls Try.prog 21 #[.int .u64 (x : Int), .int .u64 (y : Int)] w fun e w' => e = .returned (.bool (sameN x y)) ∧ w = w' := by
  have A := Lib.hid (fun w => realNumber_any x w)
  have B := Lib.hid (fun w => realNumber_any y w)
  have L := same_f64 hx hy
  generalize sameN x y = b at *
  go_enter Try.func21, Try.ntmps21
  go_wp2_with fail
  refine (A.out _).mono ?_; rintro e w' ⟨rfl, rfl⟩
  go_wp2_with fail
  refine (B.out _).mono ?_; rintro e w' ⟨rfl, rfl⟩
  go_wp2_with fail
  go_ret
  exact ⟨rfl, rfl⟩
theorem realLeast_any0 (x y : Nat) (w : World) (hx : x < 18446744073709551616) (hy : y < 18446744073709551616) : Calls Try.prog 23 #[.int .u64 (x : Int), .int .u64 (y : Int)] w fun e w' => e = .returned (.int .u64 (leastN x y : Nat)) ∧ w = w' := by
  have A := fun b w hb => realIsNone_any x b w hx hb
  have B := fun b w hb => realIsNone_any y b w hy hb
  by_cases h1 : clsN x = 4
  · have R := Lib.hid (show 9221120237041090560 = leastN x y by unfold leastN; rw [if_pos (Or.inl h1)])
    replace A := Lib.hid (fun w => A true w (decide_eq_true h1))
    clear h1 B
    go_enter Try.func23, Try.ntmps23
    go_wp2_with fail
    refine (A.out _).mono ?_; rintro e w' ⟨rfl, rfl⟩
    go_wp2_with fail
    go_ret
    exact ⟨ret_u64n R.out, rfl⟩
  · replace A := Lib.hid (fun w => A false w (decide_eq_false h1))
    by_cases h2 : clsN y = 4
    · have R := Lib.hid (show 9221120237041090560 = leastN x y by unfold leastN; rw [if_pos (Or.inr h2)])
      replace B := Lib.hid (fun w => B true w (decide_eq_true h2))
      clear h1 h2
      go_enter Try.func23, Try.ntmps23
      go_wp2_with fail
      refine (A.out _).mono ?_; rintro e w' ⟨rfl, rfl⟩
      go_wp2_with fail
      refine (B.out _).mono ?_; rintro e w' ⟨rfl, rfl⟩
      go_wp2_with fail
      go_ret
      exact ⟨ret_u64n R.out, rfl⟩
    · replace B := Lib.hid (fun w => B false w (decide_eq_false h2))
      have R : unkeyN (min (keyN x) (keyN y)) = leastN x y := by
        unfold leastN
        rw [if_neg (by omega)]
        by_cases h3 : keyN x ≤ keyN y
        · rw [if_pos h3, Nat.min_eq_left h3, unkey_key hx]
        · rw [if_neg h3, Nat.min_eq_right (by omega), unkey_key hy]
      have KX := fun w => realKey_any0 x w hx
      have KY := fun w => realKey_any0 y w hy
      have UK : ∀ m : Nat, m = min (keyN x) (keyN y) → ∀ w, Calls Try.prog 17 #[.int .u64 (m : Int)] w fun e w' => e = .returned (.int .u64 (leastN x y : Nat)) ∧ w = w' := by
        intro m hm w
        have := realUnkey_any0 m w (by have := keyN_lt hx; omega)
        rwa [hm, R, ← hm] at this
      have kx := keyN_lt hx; have ky := keyN_lt hy
      generalize leastN x y = r at *
      generalize keyN x = k at *
      generalize keyN y = l at *
      clear h1 h2 R
      replace KX := Lib.hid KX; replace KY := Lib.hid KY; replace UK := Lib.hid UK
      go_enter Try.func23, Try.ntmps23
      go_wp2_with fail
      refine (A.out _).mono ?_; rintro e w' ⟨rfl, rfl⟩
      go_wp2_with fail
      refine (B.out _).mono ?_; rintro e w' ⟨rfl, rfl⟩
      go_wp2_with fail
      refine (KX.out _).mono ?_; rintro e w' ⟨rfl, rfl⟩
      go_wp2_with fail
      refine (KY.out _).mono ?_; rintro e w' ⟨rfl, rfl⟩
      go_wp2_with fail
      all_goals
        refine (UK.out _ (by omega) _).mono ?_; rintro e w' ⟨rfl, rfl⟩
        go_wp2_with fail
        go_ret
        exact ⟨rfl, rfl⟩
theorem realMost_any0 (x y : Nat) (w : World) (hx : x < 18446744073709551616) (hy : y < 18446744073709551616) : Calls Try.prog 25 #[.int .u64 (x : Int), .int .u64 (y : Int)] w fun e w' => e = .returned (.int .u64 (mostN x y : Nat)) ∧ w = w' := by
  have A := fun b w hb => realIsNone_any x b w hx hb
  have B := fun b w hb => realIsNone_any y b w hy hb
  by_cases h1 : clsN x = 4
  · have R := Lib.hid (show 9221120237041090560 = mostN x y by unfold mostN; rw [if_pos (Or.inl h1)])
    replace A := Lib.hid (fun w => A true w (decide_eq_true h1))
    clear h1 B
    go_enter Try.func25, Try.ntmps25
    go_wp2_with fail
    refine (A.out _).mono ?_; rintro e w' ⟨rfl, rfl⟩
    go_wp2_with fail
    go_ret
    exact ⟨ret_u64n R.out, rfl⟩
  · replace A := Lib.hid (fun w => A false w (decide_eq_false h1))
    by_cases h2 : clsN y = 4
    · have R := Lib.hid (show 9221120237041090560 = mostN x y by unfold mostN; rw [if_pos (Or.inr h2)])
      replace B := Lib.hid (fun w => B true w (decide_eq_true h2))
      clear h1 h2
      go_enter Try.func25, Try.ntmps25
      go_wp2_with fail
      refine (A.out _).mono ?_; rintro e w' ⟨rfl, rfl⟩
      go_wp2_with fail
      refine (B.out _).mono ?_; rintro e w' ⟨rfl, rfl⟩
      go_wp2_with fail
      go_ret
      exact ⟨ret_u64n R.out, rfl⟩
    · replace B := Lib.hid (fun w => B false w (decide_eq_false h2))
      have R : unkeyN (max (keyN x) (keyN y)) = mostN x y := by
        unfold mostN
        rw [if_neg (by omega)]
        by_cases h3 : keyN y ≤ keyN x
        · rw [if_pos h3, Nat.max_eq_left h3, unkey_key hx]
        · rw [if_neg h3, Nat.max_eq_right (by omega), unkey_key hy]
      have KX := fun w => realKey_any0 x w hx
      have KY := fun w => realKey_any0 y w hy
      have UK : ∀ m : Nat, m = max (keyN x) (keyN y) → ∀ w, Calls Try.prog 17 #[.int .u64 (m : Int)] w fun e w' => e = .returned (.int .u64 (mostN x y : Nat)) ∧ w = w' := by
        intro m hm w
        have := realUnkey_any0 m w (by have := keyN_lt hx; have := keyN_lt hy; omega)
        rwa [hm, R, ← hm] at this
      have kx := keyN_lt hx; have ky := keyN_lt hy
      generalize mostN x y = r at *
      generalize keyN x = k at *
      generalize keyN y = l at *
      clear h1 h2 R
      replace KX := Lib.hid KX; replace KY := Lib.hid KY; replace UK := Lib.hid UK
      go_enter Try.func25, Try.ntmps25
      go_wp2_with fail
      refine (A.out _).mono ?_; rintro e w' ⟨rfl, rfl⟩
      go_wp2_with fail
      refine (B.out _).mono ?_; rintro e w' ⟨rfl, rfl⟩
      go_wp2_with fail
      refine (KX.out _).mono ?_; rintro e w' ⟨rfl, rfl⟩
      go_wp2_with fail
      refine (KY.out _).mono ?_; rintro e w' ⟨rfl, rfl⟩
      go_wp2_with fail
      all_goals
        refine (UK.out _ (by omega) _).mono ?_; rintro e w' ⟨rfl, rfl⟩
        go_wp2_with fail
        go_ret
        exact ⟨rfl, rfl⟩
theorem upN_key {x : Nat} (hx : x < 18446744073709551616) (h4 : clsN x ≠ 4) (h0 : clsN x ≠ 0) : keyN x + 1 < 18446744073709551616 ∧ unkeyN (min (keyN x + 1) 18442240474082181120) = upN x := by
  have hr : rung x ≤ 9218868437227405312 := by rw [ne_eq, cls4] at h4; omega
  have hr0 : rung x ≠ 0 := by rw [ne_eq, cls0] at h0; exact h0
  have h3 := @cls3 x
  have hp := word_parts hx
  have hk := keyN_lt hx
  unfold upN unkeyN
  rw [if_neg h4, if_neg h0]
  rw [sgn_iff hx] at hp ⊢
  unfold keyN at hk ⊢
  rw [sgn_iff hx] at hk ⊢
  by_cases hs : 9223372036854775808 ≤ x
  · rw [decide_eq_true hs] at *
    simp only [if_true] at *
    have e : min (18446744073709551615 - x + 1) 18442240474082181120 = 18446744073709551615 - x + 1 := by omega
    rw [e, sgn_iff (by omega), decide_eq_false (by omega)]
    simp only [Bool.false_eq_true, if_false]
    omega
  · rw [decide_eq_false hs] at *
    simp only [Bool.false_eq_true, if_false] at *
    refine ⟨by omega, ?_⟩
    rw [sgn_iff (by omega), decide_eq_true (by omega)]
    simp only [if_true]
    split <;> omega
theorem downN_word {x : Nat} (hx : x < 18446744073709551616) (h4 : clsN x ≠ 4) (h0 : ¬ (x = 0 ∨ x = 9223372036854775808)) (hi : x ≠ 18442240474082181120) : downN x = if 9223372036854775808 ≤ x then x + 1 else x - 1 := by
  obtain ⟨a1, a2, a3, a4⟩ := ord_neg hx h4
  have hi2 : negN x ≠ 9218868437227405312 := fun h => hi (a4.1 h)
  obtain ⟨b1, b2, b3⟩ := ord_up a1 a2 hi2
  have e2 := upN_eq a1 a2 hi2
  unfold downN
  rw [negN_eq b1 b2]
  have hn := negN_eq hx h4
  rw [ne_eq, cls4_word hx] at h4
  by_cases hs : 9223372036854775808 ≤ x
  · rw [if_pos hs] at hn ⊢
    rw [if_neg (by omega), if_neg (by omega)] at e2
    rw [e2, hn, if_neg (by omega)]; omega
  · rw [if_neg hs] at hn ⊢
    rw [if_neg (by omega), if_pos (by omega)] at e2
    rw [e2, hn, if_pos (by omega)]; omega
theorem unkeyN_eq {x : Nat} (hx : x < 18446744073709551616) : unkeyN x = if 9223372036854775808 ≤ x then x - 9223372036854775808 else 18446744073709551615 - x := by
  unfold unkeyN
  rw [sgn_iff hx]
  by_cases h : 9223372036854775808 ≤ x
  · rw [decide_eq_true h, if_pos rfl, if_pos h]
  · rw [decide_eq_false h, if_neg (by decide), if_neg h]
theorem downN_key {x : Nat} (hx : x < 18446744073709551616) (h4 : clsN x ≠ 4) (h0 : clsN x ≠ 0) : 1 ≤ keyN x ∧ unkeyN (max (keyN x - 1) 4503599627370495) = downN x := by
  have h4' := h4
  rw [ne_eq, cls4_word hx] at h4'
  have h0' : ¬ (x = 0 ∨ x = 9223372036854775808) := fun h => h0 ((cls0_word hx).2 h)
  have hk := keyN_lt hx
  rw [keyN_eq hx] at hk ⊢
  by_cases hi : x = 18442240474082181120
  · subst hi
    exact ⟨by decide, by rw [down_inf]; kernel_rfl⟩
  · rw [downN_word hx h4 h0' hi]
    by_cases hs : 9223372036854775808 ≤ x
    · rw [if_pos hs] at hk ⊢
      rw [if_pos hs]
      have e : max (18446744073709551615 - x - 1) 4503599627370495 = 18446744073709551615 - x - 1 := by omega
      refine ⟨by omega, ?_⟩
      rw [e, unkeyN_eq (by omega), if_neg (by omega)]; omega
    · rw [if_neg hs] at hk ⊢
      rw [if_neg hs]
      have e : max (x + 9223372036854775808 - 1) 4503599627370495 = x + 9223372036854775808 - 1 := by omega
      refine ⟨by omega, ?_⟩
      rw [e, unkeyN_eq (by omega), if_pos (by omega)]; omega
theorem realUp_any0 (x : Nat) (w : World) (hx : x < 18446744073709551616) : Calls Try.prog 27 #[.int .u64 (x : Int)] w fun e w' => e = .returned (.int .u64 (upN x : Nat)) ∧ w = w' := by
  have C := fun w => realClass_any0 x w hx
  obtain ⟨c, hc⟩ : ∃ c : Int, (clsN x : Int) = c := ⟨_, rfl⟩
  have e4 := cls_beq hc 4
  have e0 := cls_beq hc 0
  rw [hc] at C
  replace C := Lib.hid C
  by_cases h4 : clsN x = 4
  · rw [decide_eq_true h4] at e4
    have R := Lib.hid (show 9221120237041090560 = upN x by unfold upN; rw [if_pos h4])
    clear e0 hc h4
    go_enter Try.func27, Try.ntmps27
    go_wp2_with fail
    refine (C.out _).mono ?_; rintro e w' ⟨rfl, rfl⟩
    go_wp2_with fail
    go_ret
    exact ⟨ret_u64n R.out, rfl⟩
  · rw [decide_eq_false h4] at e4
    have KI := Lib.hid (fun w => (show Calls Try.prog 15 #[.int .u64 9218868437227405312] w fun e w' => e = .returned (.int .u64 18442240474082181120) ∧ w = w' from realKey_any0 9218868437227405312 w (by decide)))
    by_cases h0 : clsN x = 0
    · rw [decide_eq_true h0] at e0
      have R : (1 : Nat) = upN x := by unfold upN; rw [if_neg h4, if_pos h0]
      have K0 := Lib.hid (fun w => (show Calls Try.prog 15 #[.int .u64 0] w fun e w' => e = .returned (.int .u64 9223372036854775808) ∧ w = w' from realKey_any0 0 w (by decide)))
      have UK := Lib.hid (fun w => (show Calls Try.prog 17 #[.int .u64 9223372036854775809] w fun e w' => e = .returned (.int .u64 1) ∧ w = w' from realUnkey_any0 9223372036854775809 w (by decide)))
      replace R := Lib.hid R
      clear hc h4 h0
      go_enter Try.func27, Try.ntmps27
      go_wp2_with fail
      refine (C.out _).mono ?_; rintro e w' ⟨rfl, rfl⟩
      go_wp2_with fail
      refine (K0.out _).mono ?_; rintro e w' ⟨rfl, rfl⟩
      go_wp2_with fail
      refine (KI.out _).mono ?_; rintro e w' ⟨rfl, rfl⟩
      go_wp2_with fail
      refine (UK.out _).mono ?_; rintro e w' ⟨rfl, rfl⟩
      go_wp2_with fail
      go_ret
      exact ⟨ret_u64n R.out, rfl⟩
    · rw [decide_eq_false h0] at e0
      obtain ⟨hk, R⟩ := upN_key hx h4 h0
      have UK : ∀ m : Int, m = ((min (keyN x + 1) 18442240474082181120 : Nat) : Int) → ∀ w, Calls Try.prog 17 #[.int .u64 m] w fun e w' => e = .returned (.int .u64 (upN x : Nat)) ∧ w = w' := by
        intro m hm w
        have := realUnkey_any0 (min (keyN x + 1) 18442240474082181120) w (by omega)
        rwa [R, ← hm] at this
      have KX := fun w => realKey_any0 x w hx
      generalize upN x = r at *
      generalize keyN x = k at *
      clear hc h4 h0 R
      replace KX := Lib.hid KX; replace UK := Lib.hid UK
      go_enter Try.func27, Try.ntmps27
      go_wp2_with fail
      refine (C.out _).mono ?_; rintro e w' ⟨rfl, rfl⟩
      go_wp2_with fail
      refine (KX.out _).mono ?_; rintro e w' ⟨rfl, rfl⟩
      go_wp2_with fail
      refine (KI.out _).mono ?_; rintro e w' ⟨rfl, rfl⟩
      go_wp2_with fail
      all_goals
        refine (UK.out _ (by omega) _).mono ?_; rintro e w' ⟨rfl, rfl⟩
        go_wp2_with fail
        go_ret
        exact ⟨rfl, rfl⟩
theorem realDown_any0 (x : Nat) (w : World) (hx : x < 18446744073709551616) : Calls Try.prog 29 #[.int .u64 (x : Int)] w fun e w' => e = .returned (.int .u64 (downN x : Nat)) ∧ w = w' := by
  have C := fun w => realClass_any0 x w hx
  obtain ⟨c, hc⟩ : ∃ c : Int, (clsN x : Int) = c := ⟨_, rfl⟩
  have e4 := cls_beq hc 4
  have e0 := cls_beq hc 0
  rw [hc] at C
  replace C := Lib.hid C
  by_cases h4 : clsN x = 4
  · rw [decide_eq_true h4] at e4
    have R := Lib.hid ((steps_none h4).2.symm)
    clear e0 hc h4
    go_enter Try.func29, Try.ntmps29
    go_wp2_with fail
    refine (C.out _).mono ?_; rintro e w' ⟨rfl, rfl⟩
    go_wp2_with fail
    go_ret
    exact ⟨ret_u64n R.out, rfl⟩
  · rw [decide_eq_false h4] at e4
    have KI := Lib.hid (fun w => (show Calls Try.prog 15 #[.int .u64 18442240474082181120] w fun e w' => e = .returned (.int .u64 4503599627370495) ∧ w = w' from realKey_any0 18442240474082181120 w (by decide)))
    by_cases h0 : clsN x = 0
    · rw [decide_eq_true h0] at e0
      have R : (9223372036854775809 : Nat) = downN x := by
        rcases (cls0_word hx).1 h0 with rfl | rfl <;> kernel_rfl
      have K0 := Lib.hid (fun w => (show Calls Try.prog 15 #[.int .u64 9223372036854775808] w fun e w' => e = .returned (.int .u64 9223372036854775807) ∧ w = w' from realKey_any0 9223372036854775808 w (by decide)))
      have UK := Lib.hid (fun w => (show Calls Try.prog 17 #[.int .u64 9223372036854775806] w fun e w' => e = .returned (.int .u64 9223372036854775809) ∧ w = w' from realUnkey_any0 9223372036854775806 w (by decide)))
      replace R := Lib.hid R
      clear hc h4 h0
      go_enter Try.func29, Try.ntmps29
      go_wp2_with fail
      refine (C.out _).mono ?_; rintro e w' ⟨rfl, rfl⟩
      go_wp2_with fail
      refine (K0.out _).mono ?_; rintro e w' ⟨rfl, rfl⟩
      go_wp2_with fail
      refine (KI.out _).mono ?_; rintro e w' ⟨rfl, rfl⟩
      go_wp2_with fail
      refine (UK.out _).mono ?_; rintro e w' ⟨rfl, rfl⟩
      go_wp2_with fail
      go_ret
      exact ⟨ret_u64n R.out, rfl⟩
    · rw [decide_eq_false h0] at e0
      obtain ⟨hk, R⟩ := downN_key hx h4 h0
      have UK : ∀ m : Int, m = ((max (keyN x - 1) 4503599627370495 : Nat) : Int) → ∀ w, Calls Try.prog 17 #[.int .u64 m] w fun e w' => e = .returned (.int .u64 (downN x : Nat)) ∧ w = w' := by
        intro m hm w
        have := realUnkey_any0 (max (keyN x - 1) 4503599627370495) w (by have := keyN_lt hx; omega)
        rwa [R, ← hm] at this
      have KX := fun w => realKey_any0 x w hx
      have hkl := keyN_lt hx
      generalize downN x = r at *
      generalize keyN x = k at *
      clear hc h4 h0 R
      replace KX := Lib.hid KX; replace UK := Lib.hid UK
      go_enter Try.func29, Try.ntmps29
      go_wp2_with fail
      refine (C.out _).mono ?_; rintro e w' ⟨rfl, rfl⟩
      go_wp2_with fail
      refine (KX.out _).mono ?_; rintro e w' ⟨rfl, rfl⟩
      go_wp2_with fail
      refine (KI.out _).mono ?_; rintro e w' ⟨rfl, rfl⟩
      go_wp2_with fail
      all_goals
        refine (UK.out _ (by omega) _).mono ?_; rintro e w' ⟨rfl, rfl⟩
        go_wp2_with fail
        go_ret
        exact ⟨rfl, rfl⟩
theorem realAdd_any0 (x y : Nat) (w : World) (hx : x < 18446744073709551616) (hy : y < 18446744073709551616) : Calls Try.prog 31 #[.int .u64 (x : Int), .int .u64 (y : Int)] w fun e w' => e = .returned (.int .u64 (orNone (double.add x y) : Nat)) ∧ Below w.heap.size w w' := by
  have A := Lib.hid (fun w => realNumber_any x w)
  have B := Lib.hid (fun w => realNumber_any y w)
  obtain ⟨r, hr⟩ : ∃ r, double.add x y = r := ⟨_, rfl⟩
  rw [hr]
  cases r with
  | some r =>
    have hw := add_rung hr
    have h1 := fun W => run_float_arith (P := Try.prog) W .add 38 .f64 x y r hr
    have h2 := fun w => realWord_any r w hw.2
    rw [show plainN r = orNone (some r) from plain_ok hw.1] at h2
    generalize orNone (some r) = v at *
    replace h2 := Lib.hid h2
    clear hw hr
    go_enter Try.func31, Try.ntmps31
    go_wp2_with fail
    refine (A.out _).mono ?_; rintro e w' ⟨rfl, rfl⟩
    go_wp2_with fail
    refine (B.out _).mono ?_; rintro e w' ⟨rfl, rfl⟩
    go_wp2_with fail
    refine (h2.out _).mono ?_; rintro e w' ⟨rfl, rfl⟩
    go_wp2_with fail
    go_ret
    exact ⟨rfl, Below.refl _ _⟩
  | none =>
    obtain ⟨b, hb1, hb2, h1⟩ := float_none .add 38 x y w (by simp) hr
    have h2 := fun w => realWord_any b w hb2
    rw [show plainN b = orNone none from plain_nan hb1] at h2
    generalize orNone none = v at *
    replace h2 := Lib.hid h2
    clear hb1 hb2 hr
    go_enter Try.func31, Try.ntmps31
    go_wp2_with fail
    refine (A.out _).mono ?_; rintro e w' ⟨rfl, rfl⟩
    go_wp2_with fail
    refine (B.out _).mono ?_; rintro e w' ⟨rfl, rfl⟩
    go_wp2_with fail
    refine (h2.out _).mono ?_; rintro e w' ⟨rfl, rfl⟩
    go_wp2_with fail
    go_ret
    exact ⟨rfl, (Below.refl _ _).drew⟩
theorem realSub_any0 (x y : Nat) (w : World) (hx : x < 18446744073709551616) (hy : y < 18446744073709551616) : Calls Try.prog 33 #[.int .u64 (x : Int), .int .u64 (y : Int)] w fun e w' => e = .returned (.int .u64 (orNone (double.sub x y) : Nat)) ∧ Below w.heap.size w w' := by
  have A := Lib.hid (fun w => realNumber_any x w)
  have B := Lib.hid (fun w => realNumber_any y w)
  obtain ⟨r, hr⟩ : ∃ r, double.sub x y = r := ⟨_, rfl⟩
  rw [hr]
  cases r with
  | some r =>
    have hw := sub_rung hr
    have h1 := fun W => run_float_arith (P := Try.prog) W .sub 38 .f64 x y r hr
    have h2 := fun w => realWord_any r w hw.2
    rw [show plainN r = orNone (some r) from plain_ok hw.1] at h2
    generalize orNone (some r) = v at *
    replace h2 := Lib.hid h2
    clear hw hr
    go_enter Try.func33, Try.ntmps33
    go_wp2_with fail
    refine (A.out _).mono ?_; rintro e w' ⟨rfl, rfl⟩
    go_wp2_with fail
    refine (B.out _).mono ?_; rintro e w' ⟨rfl, rfl⟩
    go_wp2_with fail
    refine (h2.out _).mono ?_; rintro e w' ⟨rfl, rfl⟩
    go_wp2_with fail
    go_ret
    exact ⟨rfl, Below.refl _ _⟩
  | none =>
    obtain ⟨b, hb1, hb2, h1⟩ := float_none .sub 38 x y w (by simp) hr
    have h2 := fun w => realWord_any b w hb2
    rw [show plainN b = orNone none from plain_nan hb1] at h2
    generalize orNone none = v at *
    replace h2 := Lib.hid h2
    clear hb1 hb2 hr
    go_enter Try.func33, Try.ntmps33
    go_wp2_with fail
    refine (A.out _).mono ?_; rintro e w' ⟨rfl, rfl⟩
    go_wp2_with fail
    refine (B.out _).mono ?_; rintro e w' ⟨rfl, rfl⟩
    go_wp2_with fail
    refine (h2.out _).mono ?_; rintro e w' ⟨rfl, rfl⟩
    go_wp2_with fail
    go_ret
    exact ⟨rfl, (Below.refl _ _).drew⟩
theorem realMul_any0 (x y : Nat) (w : World) (hx : x < 18446744073709551616) (hy : y < 18446744073709551616) : Calls Try.prog 35 #[.int .u64 (x : Int), .int .u64 (y : Int)] w fun e w' => e = .returned (.int .u64 (orNone (double.mul x y) : Nat)) ∧ Below w.heap.size w w' := by
  have A := Lib.hid (fun w => realNumber_any x w)
  have B := Lib.hid (fun w => realNumber_any y w)
  obtain ⟨r, hr⟩ : ∃ r, double.mul x y = r := ⟨_, rfl⟩
  rw [hr]
  cases r with
  | some r =>
    have hw := mul_rung hr
    have h1 := fun W => run_float_arith (P := Try.prog) W .mul 38 .f64 x y r hr
    have h2 := fun w => realWord_any r w hw.2
    rw [show plainN r = orNone (some r) from plain_ok hw.1] at h2
    generalize orNone (some r) = v at *
    replace h2 := Lib.hid h2
    clear hw hr
    go_enter Try.func35, Try.ntmps35
    go_wp2_with fail
    refine (A.out _).mono ?_; rintro e w' ⟨rfl, rfl⟩
    go_wp2_with fail
    refine (B.out _).mono ?_; rintro e w' ⟨rfl, rfl⟩
    go_wp2_with fail
    refine (h2.out _).mono ?_; rintro e w' ⟨rfl, rfl⟩
    go_wp2_with fail
    go_ret
    exact ⟨rfl, Below.refl _ _⟩
  | none =>
    obtain ⟨b, hb1, hb2, h1⟩ := float_none .mul 38 x y w (by simp) hr
    have h2 := fun w => realWord_any b w hb2
    rw [show plainN b = orNone none from plain_nan hb1] at h2
    generalize orNone none = v at *
    replace h2 := Lib.hid h2
    clear hb1 hb2 hr
    go_enter Try.func35, Try.ntmps35
    go_wp2_with fail
    refine (A.out _).mono ?_; rintro e w' ⟨rfl, rfl⟩
    go_wp2_with fail
    refine (B.out _).mono ?_; rintro e w' ⟨rfl, rfl⟩
    go_wp2_with fail
    refine (h2.out _).mono ?_; rintro e w' ⟨rfl, rfl⟩
    go_wp2_with fail
    go_ret
    exact ⟨rfl, (Below.refl _ _).drew⟩
theorem realDiv_any0 (x y : Nat) (w : World) (hx : x < 18446744073709551616) (hy : y < 18446744073709551616) : Calls Try.prog 37 #[.int .u64 (x : Int), .int .u64 (y : Int)] w fun e w' => e = .returned (.int .u64 (orNone (double.div x y) : Nat)) ∧ Below w.heap.size w w' := by
  have A := Lib.hid (fun w => realNumber_any x w)
  have B := Lib.hid (fun w => realNumber_any y w)
  obtain ⟨r, hr⟩ : ∃ r, double.div x y = r := ⟨_, rfl⟩
  rw [hr]
  cases r with
  | some r =>
    have hw := div_rung hr
    have h1 := fun W => run_float_arith (P := Try.prog) W .quo 38 .f64 x y r hr
    have h2 := fun w => realWord_any r w hw.2
    rw [show plainN r = orNone (some r) from plain_ok hw.1] at h2
    generalize orNone (some r) = v at *
    replace h2 := Lib.hid h2
    clear hw hr
    go_enter Try.func37, Try.ntmps37
    go_wp2_with fail
    refine (A.out _).mono ?_; rintro e w' ⟨rfl, rfl⟩
    go_wp2_with fail
    refine (B.out _).mono ?_; rintro e w' ⟨rfl, rfl⟩
    go_wp2_with fail
    refine (h2.out _).mono ?_; rintro e w' ⟨rfl, rfl⟩
    go_wp2_with fail
    go_ret
    exact ⟨rfl, Below.refl _ _⟩
  | none =>
    obtain ⟨b, hb1, hb2, h1⟩ := float_none .quo 38 x y w (by simp) hr
    have h2 := fun w => realWord_any b w hb2
    rw [show plainN b = orNone none from plain_nan hb1] at h2
    generalize orNone none = v at *
    replace h2 := Lib.hid h2
    clear hb1 hb2 hr
    go_enter Try.func37, Try.ntmps37
    go_wp2_with fail
    refine (A.out _).mono ?_; rintro e w' ⟨rfl, rfl⟩
    go_wp2_with fail
    refine (B.out _).mono ?_; rintro e w' ⟨rfl, rfl⟩
    go_wp2_with fail
    refine (h2.out _).mono ?_; rintro e w' ⟨rfl, rfl⟩
    go_wp2_with fail
    go_ret
    exact ⟨rfl, (Below.refl _ _).drew⟩
theorem realFromInt_any0 (i : Int) (w : World) (h0 : -9223372036854775808 ≤ i) (h1 : i ≤ 9223372036854775807) : Calls Try.prog 39 #[.int .i64 i] w fun e w' => e = .returned (.int .u64 (fromS i : Nat)) ∧ w = w' := by
  have hc := fromS_cls h0 h1
  have hf : floatOfInt .f64 i = fromS i := fromInt_eq i h0 h1
  have h2 := fun w => realWord_any (fromS i) w (fromS_lt h0 h1)
  rw [plain_ok (by have := cls_le.1 hc; omega)] at h2
  generalize fromS i = r at *
  replace h2 := Lib.hid h2
  clear hc h0 h1
  go_enter Try.func39, Try.ntmps39
  go_wp2_with fail
  refine (h2.out _).mono ?_; rintro e w' ⟨rfl, rfl⟩
  go_wp2_with fail
  go_ret
  exact ⟨rfl, rfl⟩
end Go.Proofs.Ytemdhlajdmkppaa
