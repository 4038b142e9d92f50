/- What the statements of layer 5 need of whole numbers and of none; no condition but those in each theorem. -/
import Derived.Test.YtmjpemddndjcpaaRealI
namespace Go.Proofs.Ytmjpemddndjcpaa
set_option linter.unusedVariables false
set_option linter.unusedSimpArgs false
open Go.RowKit
open Ieee

theorem fromS_zero : fromS 0 = 0 := by kernel_rfl
theorem fromS_pos {i : Int} (h : 0 < i) : fromS i = rungI i.natAbs := by
  unfold fromS
  rw [if_neg (by omega), if_neg (by omega), Nat.zero_add]
theorem fromS_neg {i : Int} (h : i < 0) : fromS i = 9223372036854775808 + rungI i.natAbs := by
  unfold fromS
  rw [if_neg (by omega), if_pos h]
theorem rungI_pos {u : Nat} (h : 0 < u) : 0 < rungI u := by
  have := rungI_low h
  omega
theorem fromS_parts {i : Int} (h0 : -9223372036854775808 ≤ i) (h1 : i ≤ 9223372036854775807) :
    rung (fromS i) = (if i = 0 then 0 else rungI i.natAbs) ∧ sgn (fromS i) = decide (i < 0) ∧ rung (fromS i) < 9218868437227405312 := by
  have hl := fromS_lt h0 h1
  rcases Int.lt_trichotomy i 0 with h | h | h
  · have a := rungI_lt (u := i.natAbs) (by omega) (by omega)
    have e : rung (fromS i) = rungI i.natAbs := by rw [fromS_neg h]; unfold rung; omega
    refine ⟨by rw [if_neg (by omega), e], ?_, by omega⟩
    rw [sgn_iff hl, fromS_neg h, decide_eq_true h, decide_eq_true (by omega)]
  · subst h
    rw [fromS_zero]
    exact ⟨rfl, rfl, by decide⟩
  · have a := rungI_lt (u := i.natAbs) (by omega) (by omega)
    have e : rung (fromS i) = rungI i.natAbs := by rw [fromS_pos h]; unfold rung; omega
    refine ⟨by rw [if_neg (by omega), e], ?_, by omega⟩
    rw [sgn_iff hl, fromS_pos h, decide_eq_false (by omega), decide_eq_false (by omega)]
theorem fromS_cls {i : Int} (h0 : -9223372036854775808 ≤ i) (h1 : i ≤ 9223372036854775807) : clsN (fromS i) ≤ 2 := cls_le.2 (fromS_parts h0 h1).2.2
theorem fromS_ord {i : Int} (h0 : -9223372036854775808 ≤ i) (h1 : i ≤ 9223372036854775807) :
    ordN (fromS i) = if i = 0 then 0 else if i < 0 then -(rungI i.natAbs : Int) else (rungI i.natAbs : Int) := by
  have := fromS_lt h0 h1
  rcases Int.lt_trichotomy i 0 with h | h | h
  · rw [if_neg (by omega), if_pos h, fromS_neg h]
    unfold ordN
    rw [if_neg (by omega)]
    omega
  · subst h
    rw [fromS_zero, if_pos rfl]
    rfl
  · have a := rungI_lt (u := i.natAbs) (by omega) (by omega)
    rw [if_neg (by omega), if_neg (by omega), fromS_pos h]
    unfold ordN
    rw [if_pos (by omega)]
/-- a lesser number has no greater real. -/
theorem fromS_mono {i j : Int} (hi0 : -9223372036854775808 ≤ i) (hi1 : i ≤ 9223372036854775807) (hj0 : -9223372036854775808 ≤ j) (hj1 : j ≤ 9223372036854775807) (h : i ≤ j) :
    lessN (fromS j) (fromS i) = false := by
  refine bool_false (less_ord (fromS_lt hj0 hj1) (fromS_lt hi0 hi1)) ?_
  rintro ⟨_, _, h3⟩
  revert h3
  rw [fromS_ord hi0 hi1, fromS_ord hj0 hj1]
  have a : 0 < i → rungI i.natAbs ≤ rungI j.natAbs := fun h6 => rungI_mono (by omega) (by omega)
  have b : j < 0 → rungI j.natAbs ≤ rungI i.natAbs := fun h6 => rungI_mono (by omega) (by omega)
  split <;> split <;> (try split) <;> (try split) <;> omega
theorem trunc_rungI {u : Nat} (h0 : 0 < u) (h : u ≤ 9007199254740992) : mag (rungI u) / 2 ^ unitK = u := by
  by_cases h5 : u = 9007199254740992
  · subst h5
    rw [show rungI 9007199254740992 = (unitK + 2) * 4503599627370496 by kernel_rfl, mag_edge _ (by omega), show unitK + 2 - 1 = unitK + 1 by omega, Nat.pow_succ]
    rw [show (4503599627370496 : Nat) * (2 ^ unitK * 2) = 9007199254740992 * 2 ^ unitK by omega]
    exact Nat.mul_div_cancel _ (Nat.two_pow_pos _)
  · have hl : u.log2 ≤ 52 := by
      have : u.log2 < 53 := (Nat.log2_lt (by omega)).2 (by omega)
      omega
    rw [rungI_exact h0 hl]
    exact Nat.mul_div_cancel _ (Nat.two_pow_pos _)
theorem rungI_top {u : Nat} (h0 : 0 < u) (h : u ≤ 9007199254740992) : rungI u ≤ 1076 * 4503599627370496 := by
  have := rungI_mono h0 h
  rwa [show rungI 9007199254740992 = 1076 * 4503599627370496 by kernel_rfl] at this
/-- whole numbers come back. -/
theorem toInt_back {i : Int} (h0 : -9007199254740992 ≤ i) (h1 : i ≤ 9007199254740992) : toIntS (fromS i) = i := by
  obtain ⟨a, b, c⟩ := fromS_parts (i := i) (by omega) (by omega)
  have hp := rung_parts (fromS i)
  by_cases hz : i = 0
  · subst hz
    rw [fromS_zero]
    unfold toIntS
    rw [if_neg (show ¬ clsN 0 = 4 by decide), if_neg (show ¬ 1086 ≤ expN 0 by decide), if_neg (show ¬ sgn 0 = true by decide), mag_small 0 (by decide)]
    rfl
  · rw [if_neg hz] at a
    have ht : truncN (fromS i) = i.natAbs := by
      unfold truncN
      rw [a]
      exact trunc_rungI (by omega) (by omega)
    have hr := rungI_top (u := i.natAbs) (by omega) (by omega)
    unfold toIntS
    rw [if_neg (by rw [cls4]; omega), if_neg (by omega), ht, b]
    by_cases hn : i < 0
    · rw [decide_eq_true hn, if_pos rfl]; omega
    · rw [decide_eq_false hn, if_neg (by decide)]; omega
theorem ticks_back {i : Int} (h0 : 1 ≤ i) (h1 : i ≤ 1099511627776) : ticksS (fromS i) = i := by
  have hl := fromS_lt (i := i) (by omega) (by omega)
  have hc := fromS_cls (i := i) (by omega) (by omega)
  have a : lessN 0 (fromS i) = true := by
    refine (less_ord (by decide) hl).2 ⟨by decide, by omega, ?_⟩
    rw [fromS_ord (by omega) (by omega), if_neg (by omega), if_neg (by omega)]
    have := rungI_pos (u := i.natAbs) (by omega)
    have e : ordN 0 = 0 := by decide
    omega
  have b : lessN (fromS 1099511627776) (fromS i) = false := fromS_mono (by omega) (by omega) (by decide) (by decide) h1
  have c : lessN (fromS i) (fromS i) = false := fromS_mono (by omega) (by omega) (by omega) (by omega) (Int.le_refl _)
  unfold ticksS
  rw [a, b, toInt_back (by omega) (by omega), c]
  rfl
theorem ticks_zero {i : Int} (h0 : -9223372036854775808 ≤ i) (h1 : i ≤ 0) : ticksS (fromS i) = 0 := by
  have b : lessN 0 (fromS i) = false := by
    have := fromS_mono (i := i) (j := 0) h0 (by omega) (by decide) (by decide) h1
    rwa [fromS_zero] at this
  unfold ticksS
  rw [b]
  rfl

/-- a sum, plain: none by one word alone. -/
theorem orNone_lt {r : Option Nat} (h : ∀ v, r = some v → rung v ≤ 9218868437227405312 ∧ v < 18446744073709551616) : orNone r < 18446744073709551616 ∧ (clsN (orNone r) = 4 ↔ r = none) ∧ (orNone r = 9221120237041090560 ↔ r = none) := by
  cases r with
  | none => exact ⟨by decide, by simp [orNone, cls_none], by simp [orNone]⟩
  | some v =>
    obtain ⟨h1, h2⟩ := h v rfl
    have e : orNone (some v) = v := rfl
    rw [e]
    refine ⟨h2, ?_, ?_⟩
    · rw [cls4]
      constructor
      · intro h3; omega
      · intro h3; cases h3
    · constructor
      · intro h3
        rw [h3] at h1
        exact absurd h1 (by decide)
      · intro h3; cases h3
theorem addS (x y : Nat) : orNone (double.add x y) < 18446744073709551616 ∧ (clsN (orNone (double.add x y)) = 4 ↔ double.add x y = none) ∧ (orNone (double.add x y) = 9221120237041090560 ↔ double.add x y = none) := orNone_lt fun _ h => add_rung h
theorem subS (x y : Nat) : orNone (double.sub x y) < 18446744073709551616 ∧ (clsN (orNone (double.sub x y)) = 4 ↔ double.sub x y = none) ∧ (orNone (double.sub x y) = 9221120237041090560 ↔ double.sub x y = none) := orNone_lt fun _ h => sub_rung h
theorem mulS (x y : Nat) : orNone (double.mul x y) < 18446744073709551616 ∧ (clsN (orNone (double.mul x y)) = 4 ↔ double.mul x y = none) ∧ (orNone (double.mul x y) = 9221120237041090560 ↔ double.mul x y = none) := orNone_lt fun _ h => mul_rung h
theorem divS (x y : Nat) : orNone (double.div x y) < 18446744073709551616 ∧ (clsN (orNone (double.div x y)) = 4 ↔ double.div x y = none) ∧ (orNone (double.div x y) = 9221120237041090560 ↔ double.div x y = none) := orNone_lt fun _ h => div_rung h
/-- when none comes of two that are not. -/
theorem none_when {x y : Nat} (hx : x < 18446744073709551616) (hy : y < 18446744073709551616) (h1 : clsN x ≠ 4) (h2 : clsN y ≠ 4) :
    (double.add x y = none ↔ clsN x = 3 ∧ clsN y = 3 ∧ x ≠ y) ∧ (double.sub x y = none ↔ clsN x = 3 ∧ x = y) ∧ (double.mul x y = none ↔ (clsN x = 3 ∧ clsN y = 0) ∨ (clsN x = 0 ∧ clsN y = 3)) ∧ (double.div x y = none ↔ (clsN x = 0 ∧ clsN y = 0) ∨ (clsN x = 3 ∧ clsN y = 3)) := by
  have px := word_parts hx
  have py := word_parts hy
  rw [ne_eq, cls4, Nat.not_lt] at h1 h2
  rw [add_none x y h1 h2, sub_none x y h1 h2, mul_none x y h1 h2, div_none x y h1 h2, cls3, cls3, cls0, cls0]
  have e : sgn x = sgn y ∨ sgn x ≠ sgn y := by cases sgn x <;> cases sgn y <;> simp
  refine ⟨?_, ?_, Iff.rfl, Iff.rfl⟩
  · constructor
    · rintro ⟨a, b, c⟩
      exact ⟨a, b, fun h => c (by rw [h])⟩
    · rintro ⟨a, b, c⟩
      refine ⟨a, b, fun h => c ?_⟩
      rw [px, py, a, b, h]
  · constructor
    · rintro ⟨a, b, c⟩
      refine ⟨a, ?_⟩
      rw [px, py, a, b, c]
    · rintro ⟨a, rfl⟩
      exact ⟨a, a, rfl⟩
theorem none_any {x y : Nat} (h : clsN x = 4 ∨ clsN y = 4) : double.add x y = none ∧ double.sub x y = none ∧ double.mul x y = none ∧ double.div x y = none := by
  rw [cls4, cls4] at h
  exact any_nan x y h
theorem sub_selfS {x : Nat} (h : clsN x ≤ 2) : orNone (double.sub x x) = 0 := by
  rw [sub_self' x (cls_le.1 h)]
  rfl
theorem div_zeroS {x : Nat} (h : clsN x ≤ 2) (h0 : clsN x ≠ 0) : orNone (double.div x 0) = if sgn x then 18442240474082181120 else 9218868437227405312 := by
  rw [div_zero' x (cls_le.1 h) (fun h5 => h0 (cls0.2 h5))]
  rfl
theorem none_ints : ticksS 9221120237041090560 = 0 ∧ toIntS 9221120237041090560 = 0 := by
  have c : clsN 9221120237041090560 = 4 := by decide
  have a : lessN 0 9221120237041090560 = false := (order_none (by decide) (by decide) (Or.inr c)).1
  refine ⟨?_, ?_⟩
  · unfold ticksS
    rw [a]
    rfl
  · unfold toIntS
    rw [if_pos c]
end Go.Proofs.Ytmjpemddndjcpaa
