/- The document's order against what a word stands for; what the document's own Ticks of layer 5 answers; no condition. -/
import Derived.Test.YtmjpemddndjcpaaRealG
namespace Go.Proofs.Ytmjpemddndjcpaa
set_option linter.unusedVariables false
set_option linter.unusedSimpArgs false
open Go.RowKit
open Ieee

theorem word_parts {x : Nat} (hx : x < 18446744073709551616) : x = (if sgn x then 9223372036854775808 else 0) + rung x := by
  rw [sgn_iff hx]
  unfold rung
  by_cases h : 9223372036854775808 ≤ x
  · rw [decide_eq_true h, if_pos rfl]; omega
  · rw [decide_eq_false h, if_neg (by decide)]; omega
theorem mag_pos {r : Nat} : 0 < mag r ↔ 0 < r := by
  have h := @mag_lt_iff 0 r
  rw [mag_zero] at h
  exact h
theorem rung_lt (x : Nat) : rung x < 9223372036854775808 := by unfold rung; omega
/-- the order of words is the order of what they stand for. -/
theorem less_val {x y : Nat} (hx : x < 18446744073709551616) (hy : y < 18446744073709551616) :
    lessN x y = true ↔ rung x ≤ 9218868437227405312 ∧ rung y ≤ 9218868437227405312 ∧ val x < val y := by
  have px := word_parts hx
  have py := word_parts hy
  have lx := rung_lt x
  have ly := rung_lt y
  have hm := @mag_lt_iff (rung x) (rung y)
  have hm2 := @mag_lt_iff (rung y) (rung x)
  have mx := @mag_pos (rung x)
  have my := @mag_pos (rung y)
  unfold lessN val keyN
  simp only [decide_eq_true_eq, ne_eq, cls4, cls0, Nat.not_lt]
  generalize rung x = a at *
  generalize rung y = b at *
  cases hs : sgn x <;> cases ht : sgn y <;> simp only [hs, ht, if_true, if_false, Bool.false_eq_true] at * <;> omega
/-- the order as the model's floats have it. -/
theorem less_order {x y : Nat} (hx : x < 18446744073709551616) (hy : y < 18446744073709551616) :
    lessN x y = (double.order x y == some .lt) := by
  by_cases h : rung x ≤ 9218868437227405312 ∧ rung y ≤ 9218868437227405312
  · rw [order_val x y h.1 h.2]
    by_cases h2 : val x < val y
    · rw [(less_val hx hy).2 ⟨h.1, h.2, h2⟩, Int.compare_eq_lt.2 h2]; rfl
    · have h3 : lessN x y = false := by
        cases h4 : lessN x y with
        | false => rfl
        | true => exact absurd ((less_val hx hy).1 h4).2.2 h2
      rw [h3]
      have h5 : compare (val x) (val y) ≠ .lt := fun h6 => h2 (Int.compare_eq_lt.1 h6)
      cases h7 : compare (val x) (val y) with
      | lt => exact absurd h7 h5
      | eq => rfl
      | gt => rfl
  · rw [order_nan x y (by omega)]
    cases h4 : lessN x y with
    | false => rfl
    | true => exact absurd ⟨((less_val hx hy).1 h4).1, ((less_val hx hy).1 h4).2.1⟩ h

theorem fromS_lt {i : Int} (h0 : -9223372036854775808 ≤ i) (h1 : i ≤ 9223372036854775807) : fromS i < 18446744073709551616 := by
  unfold fromS
  split
  · decide
  · have := rungI_lt (u := i.natAbs) (by omega) (by omega)
    split <;> omega
theorem fromS_most : fromS 1099511627776 = 4787326403894837248 := by kernel_rfl
theorem mag_most : mag 4787326403894837248 = 1099511627776 * 2 ^ unitK := by
  have h := rungI_exact (u := 1099511627776) (by decide) (by decide)
  rwa [show rungI 1099511627776 = 4787326403894837248 by kernel_rfl] at h
/-- so many ticks. -/
def ticksS (x : Nat) : Int := if lessN 0 x = true then (if lessN (fromS 1099511627776) x = true then 1099511627776 else if lessN (fromS (toIntS x)) x = true then toIntS x + 1 else toIntS x) else 0
theorem ticks_low {x : Nat} (hx : x < 18446744073709551616) (h0 : lessN 0 x = true) (h1 : lessN (fromS 1099511627776) x = false) :
    sgn x = false ∧ rung x ≤ 4787326403894837248 ∧ truncN x ≤ 1099511627776 ∧ toIntS x = (truncN x : Int) := by
  have a := (less_val (by decide) hx).1 h0
  have hr0 : val 0 = 0 := by decide
  have hs : sgn x = false := by
    cases h : sgn x with
    | false => rfl
    | true =>
      have h3 := a.2.2
      rw [hr0] at h3
      unfold val at h3
      rw [h, if_pos rfl] at h3
      omega
  have hv : val x = (mag (rung x) : Int) := by unfold val; rw [hs]; rfl
  have hm : val 4787326403894837248 = (mag 4787326403894837248 : Int) := rfl
  have hrm : rung 4787326403894837248 = 4787326403894837248 := rfl
  have b : ¬ val 4787326403894837248 < val x := by
    intro h
    have := (less_val (x := 4787326403894837248) (by decide) hx).2 ⟨by decide, a.2.1, h⟩
    rw [← fromS_most, h1] at this
    cases this
  have hle : mag (rung x) ≤ mag 4787326403894837248 := by omega
  have hr : rung x ≤ 4787326403894837248 := by
    rcases Nat.lt_or_ge 4787326403894837248 (rung x) with h | h
    · have := mag_lt h; omega
    · exact h
  have ht : truncN x ≤ 1099511627776 := by
    unfold truncN
    rw [mag_most] at hle
    have h5 := Nat.div_le_div_right (c := 2 ^ unitK) hle
    rwa [Nat.mul_div_cancel _ (Nat.two_pow_pos _)] at h5
  have hp := rung_parts x
  refine ⟨hs, hr, ht, ?_⟩
  unfold toIntS
  rw [if_neg (by rw [cls4]; omega), if_neg (by omega), hs]
  rfl

end Go.Proofs.Ytmjpemddndjcpaa
