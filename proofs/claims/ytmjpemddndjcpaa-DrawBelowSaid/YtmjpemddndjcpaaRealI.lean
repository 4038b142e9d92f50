/- What the statements of layer 5 need of the document's own functions: order, steps, there and back; no condition but those in each theorem. -/
import Derived.Test.YtmjpemddndjcpaaRealH
namespace Go.Proofs.Ytmjpemddndjcpaa
set_option linter.unusedVariables false
set_option linter.unusedSimpArgs false
open Go.RowKit
open Ieee

/-- a word's place in the order; both zeros have one. -/
def ordN (x : Nat) : Int := if x < 9223372036854775808 then (x : Int) else -((x : Int) - 9223372036854775808)
theorem cls4_word {x : Nat} (hx : x < 18446744073709551616) : clsN x = 4 ↔ (x < 9223372036854775808 ∧ 9218868437227405312 < x) ∨ 18442240474082181120 < x := by
  rw [cls4]
  unfold rung
  omega
theorem cls0_word {x : Nat} (hx : x < 18446744073709551616) : clsN x = 0 ↔ x = 0 ∨ x = 9223372036854775808 := by
  rw [cls0]
  unfold rung
  omega
theorem cls3_word {x : Nat} (hx : x < 18446744073709551616) : clsN x = 3 ↔ x = 9218868437227405312 ∨ x = 18442240474082181120 := by
  rw [cls3]
  unfold rung
  omega
theorem keyN_eq {x : Nat} (hx : x < 18446744073709551616) : keyN x = if 9223372036854775808 ≤ x then 18446744073709551615 - x else x + 9223372036854775808 := by
  unfold keyN
  rw [sgn_iff hx]
  by_cases h : 9223372036854775808 ≤ x
  · rw [decide_eq_true h, if_pos rfl, if_pos h]
  · rw [decide_eq_false h, if_neg (by decide), if_neg h]
theorem less_ord {x y : Nat} (hx : x < 18446744073709551616) (hy : y < 18446744073709551616) :
    lessN x y = true ↔ clsN x ≠ 4 ∧ clsN y ≠ 4 ∧ ordN x < ordN y := by
  unfold lessN ordN
  rw [decide_eq_true_eq, keyN_eq hx, keyN_eq hy, cls0_word hx, cls0_word hy, ne_eq, ne_eq, cls4_word hx, cls4_word hy]
  split <;> split <;> omega
theorem bool_false {b : Bool} {p : Prop} (h : b = true ↔ p) (hp : ¬ p) : b = false := by
  cases b with
  | false => rfl
  | true => exact absurd (h.1 rfl) hp
theorem same_ord {x y : Nat} (hx : x < 18446744073709551616) (hy : y < 18446744073709551616) :
    sameN x y = true ↔ clsN x ≠ 4 ∧ clsN y ≠ 4 ∧ ordN x = ordN y := by
  unfold sameN
  rw [Bool.and_eq_true, Bool.and_eq_true, decide_eq_true_eq]
  constructor
  · rintro ⟨⟨⟨h1, h2⟩, h3⟩, h4⟩
    refine ⟨h1, h2, ?_⟩
    have a : ¬ ordN x < ordN y := fun h => by rw [(less_ord hx hy).2 ⟨h1, h2, h⟩] at h3; cases h3
    have b : ¬ ordN y < ordN x := fun h => by rw [(less_ord hy hx).2 ⟨h2, h1, h⟩] at h4; cases h4
    omega
  · rintro ⟨h1, h2, h3⟩
    refine ⟨⟨⟨h1, h2⟩, ?_⟩, ?_⟩
    · rw [bool_false (less_ord hx hy) (by omega)]; rfl
    · rw [bool_false (less_ord hy hx) (by omega)]; rfl
theorem key_inj {x y : Nat} (hx : x < 18446744073709551616) (hy : y < 18446744073709551616) : keyN x = keyN y ↔ x = y :=
  ⟨fun h => by rw [← unkey_key hx, h, unkey_key hy], fun h => by rw [h]⟩
/-- of two that are not none just one is less, or both are equal. -/
theorem order_one {x y : Nat} (hx : x < 18446744073709551616) (hy : y < 18446744073709551616) (h1 : clsN x ≠ 4) (h2 : clsN y ≠ 4) :
    (lessN x y = true ∧ lessN y x = false ∧ sameN x y = false) ∨ (lessN x y = false ∧ lessN y x = true ∧ sameN x y = false) ∨ (lessN x y = false ∧ lessN y x = false ∧ sameN x y = true) := by
  rcases Int.lt_trichotomy (ordN x) (ordN y) with h | h | h
  · exact Or.inl ⟨(less_ord hx hy).2 ⟨h1, h2, h⟩, bool_false (less_ord hy hx) (by omega), bool_false (same_ord hx hy) (by omega)⟩
  · exact Or.inr (Or.inr ⟨bool_false (less_ord hx hy) (by omega), bool_false (less_ord hy hx) (by omega), (same_ord hx hy).2 ⟨h1, h2, h⟩⟩)
  · exact Or.inr (Or.inl ⟨bool_false (less_ord hx hy) (by omega), (less_ord hy hx).2 ⟨h2, h1, h⟩, bool_false (same_ord hx hy) (by omega)⟩)
theorem order_none {x y : Nat} (hx : x < 18446744073709551616) (hy : y < 18446744073709551616) (h : clsN x = 4 ∨ clsN y = 4) :
    lessN x y = false ∧ sameN x y = false ∧ leastN x y = 9221120237041090560 ∧ mostN x y = 9221120237041090560 := by
  refine ⟨bool_false (less_ord hx hy) (by omega), bool_false (same_ord hx hy) (by omega), ?_, ?_⟩
  · unfold leastN; rw [if_pos h]
  · unfold mostN; rw [if_pos h]
theorem less_key {x y : Nat} (h : lessN x y = true) : keyN x < keyN y := by
  unfold lessN at h
  rw [decide_eq_true_eq] at h
  exact h.2.2.2
/-- the lesser and the greater one. -/
theorem order_ends {x y : Nat} (hx : x < 18446744073709551616) (hy : y < 18446744073709551616) (h1 : clsN x ≠ 4) (h2 : clsN y ≠ 4) :
    lessN (mostN x y) (leastN x y) = false ∧ ((leastN x y = x ∧ mostN x y = y) ∨ (leastN x y = y ∧ mostN x y = x)) := by
  have hk := key_inj hx hy
  have hn : ¬ (clsN x = 4 ∨ clsN y = 4) := by omega
  unfold leastN mostN
  rw [if_neg hn, if_neg hn]
  by_cases h : keyN x ≤ keyN y
  · rw [if_pos h]
    by_cases g : keyN y ≤ keyN x
    · have e := hk.1 (by omega)
      rw [if_pos g]
      refine ⟨?_, Or.inl ⟨rfl, e⟩⟩
      cases h5 : lessN x x with
      | false => rfl
      | true => have := less_key h5; omega
    · rw [if_neg g]
      refine ⟨?_, Or.inl ⟨rfl, rfl⟩⟩
      cases h5 : lessN y x with
      | false => rfl
      | true => have := less_key h5; omega
  · rw [if_neg h, if_pos (by omega)]
    refine ⟨?_, Or.inr ⟨rfl, rfl⟩⟩
    cases h5 : lessN x y with
    | false => rfl
    | true => have := less_key h5; omega
theorem upN_eq {x : Nat} (hx : x < 18446744073709551616) (h4 : clsN x ≠ 4) (hi : x ≠ 9218868437227405312) :
    upN x = if x = 0 ∨ x = 9223372036854775808 then 1 else if 9223372036854775808 ≤ x then x - 1 else x + 1 := by
  have e3 := @cls3_word x hx
  unfold upN
  rw [if_neg h4, sgn_iff hx]
  by_cases h0 : clsN x = 0
  · rw [if_pos h0, if_pos ((cls0_word hx).1 h0)]
  · rw [if_neg h0, if_neg (fun h => h0 ((cls0_word hx).2 h))]
    by_cases hs : 9223372036854775808 ≤ x
    · rw [decide_eq_true hs, if_pos rfl, if_pos hs]
    · rw [decide_eq_false hs, if_neg (by decide), if_neg hs, if_neg (by omega)]
theorem negN_eq {x : Nat} (hx : x < 18446744073709551616) (h4 : clsN x ≠ 4) : negN x = if 9223372036854775808 ≤ x then x - 9223372036854775808 else x + 9223372036854775808 := by
  unfold negN
  rw [if_neg h4, sgn_iff hx]
  by_cases hs : 9223372036854775808 ≤ x
  · rw [decide_eq_true hs, if_pos rfl, if_pos hs]
  · rw [decide_eq_false hs, if_neg (by decide), if_neg hs]
theorem ord_up {x : Nat} (hx : x < 18446744073709551616) (h4 : clsN x ≠ 4) (hi : x ≠ 9218868437227405312) : upN x < 18446744073709551616 ∧ clsN (upN x) ≠ 4 ∧ ordN (upN x) = ordN x + 1 := by
  have hl := upN_lt hx
  refine ⟨hl, ?_, ?_⟩
  · rw [ne_eq, cls4_word hl, upN_eq hx h4 hi]
    rw [ne_eq, cls4_word hx] at h4
    split
    · omega
    · split <;> omega
  · rw [upN_eq hx h4 hi]
    rw [ne_eq, cls4_word hx] at h4
    unfold ordN
    split
    · split <;> split <;> omega
    · split <;> split <;> split <;> omega
theorem ord_neg {x : Nat} (hx : x < 18446744073709551616) (h4 : clsN x ≠ 4) : negN x < 18446744073709551616 ∧ clsN (negN x) ≠ 4 ∧ ordN (negN x) = -ordN x ∧ (negN x = 9218868437227405312 ↔ x = 18442240474082181120) := by
  have hl := negN_lt hx
  refine ⟨hl, ?_, ?_, ?_⟩
  · rw [ne_eq, cls4_word hl, negN_eq hx h4]
    rw [ne_eq, cls4_word hx] at h4
    split <;> omega
  · rw [negN_eq hx h4]
    unfold ordN
    split <;> split <;> split <;> omega
  · rw [negN_eq hx h4]
    split <;> omega
theorem ord_down {x : Nat} (hx : x < 18446744073709551616) (h4 : clsN x ≠ 4) (hi : x ≠ 18442240474082181120) : downN x < 18446744073709551616 ∧ clsN (downN x) ≠ 4 ∧ ordN (downN x) = ordN x - 1 := by
  obtain ⟨a1, a2, a3, a4⟩ := ord_neg hx h4
  obtain ⟨b1, b2, b3⟩ := ord_up a1 a2 (fun h => hi (a4.1 h))
  obtain ⟨c1, c2, c3, c4⟩ := ord_neg b1 b2
  unfold downN
  exact ⟨c1, c2, by omega⟩
theorem downN_lt {x : Nat} (hx : x < 18446744073709551616) : downN x < 18446744073709551616 := by
  unfold downN
  exact negN_lt (upN_lt (negN_lt hx))
theorem down_inf : downN 18442240474082181120 = 18442240474082181120 := by kernel_rfl
theorem steps_none {x : Nat} (h4 : clsN x = 4) : upN x = 9221120237041090560 ∧ downN x = 9221120237041090560 := by
  have a : upN x = 9221120237041090560 := by unfold upN; rw [if_pos h4]
  have b : negN x = 9221120237041090560 := by unfold negN; rw [if_pos h4]
  refine ⟨a, ?_⟩
  unfold downN
  rw [b]
  kernel_rfl
theorem steps_inf : upN 9218868437227405312 = 9218868437227405312 ∧ lessN (downN 9218868437227405312) 9218868437227405312 = true := by
  refine ⟨by kernel_rfl, by kernel_rfl⟩
/-- one step up and one down. -/
theorem steps {x y : Nat} (hx : x < 18446744073709551616) (hy : y < 18446744073709551616) (h4 : clsN x ≠ 4) (hi : x ≠ 9218868437227405312) :
    lessN x (upN x) = true ∧ (lessN x y = true → lessN y (upN x) = false) ∧ sameN (downN (upN x)) x = true ∧ (x ≠ 18442240474082181120 → lessN (downN x) x = true ∧ sameN (upN (downN x)) x = true) := by
  obtain ⟨a1, a2, a3⟩ := ord_up hx h4 hi
  have hd : upN x ≠ 18442240474082181120 := by
    intro h
    rw [h] at a3
    have : ordN 18442240474082181120 = -9218868437227405312 := by decide
    rw [ne_eq, cls4_word hx] at h4
    unfold ordN at a3
    revert a3
    split <;> omega
  obtain ⟨b1, b2, b3⟩ := ord_down a1 a2 hd
  refine ⟨(less_ord hx a1).2 ⟨h4, a2, by omega⟩, fun h => ?_, (same_ord b1 hx).2 ⟨b2, h4, by omega⟩, fun h => ?_⟩
  · have := (less_ord hx hy).1 h
    exact bool_false (less_ord hy a1) (by omega)
  · obtain ⟨c1, c2, c3⟩ := ord_down hx h4 h
    have he : downN x ≠ 9218868437227405312 := by
      intro h
      rw [h] at c3
      rw [ne_eq, cls4_word hx] at h4
      unfold ordN at c3
      revert c3
      split <;> omega
    obtain ⟨d1, d2, d3⟩ := ord_up c1 c2 he
    exact ⟨(less_ord c1 hx).2 ⟨c2, h4, by omega⟩, (same_ord d1 hx).2 ⟨d2, h4, by omega⟩⟩
end Go.Proofs.Ytmjpemddndjcpaa
