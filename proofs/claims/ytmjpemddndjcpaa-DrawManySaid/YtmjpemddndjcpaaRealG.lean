/- What the document's own ToInt and Ticks of layer 5 answer; no condition. -/
import Derived.Test.YtmjpemddndjcpaaRealF
namespace Go.Proofs.Ytmjpemddndjcpaa
set_option linter.unusedVariables false
set_option linter.unusedSimpArgs false
open Go.RowKit

/-- a word's number. -/
def toIntS (x : Nat) : Int := if clsN x = 4 then 0 else if 1086 ≤ expN x then (if sgn x then -9223372036854775808 else 9223372036854775807) else if sgn x then -(truncN x : Int) else (truncN x : Int)
theorem mag_exp (x : Nat) (h : 0 < expN x) : mag (rung x) = (4503599627370496 + fracN x) * 2 ^ (expN x - 1) := by
  have h1 := rung_parts x
  have h2 : fracN x < 4503599627370496 := by unfold fracN; omega
  unfold mag digN plN
  rw [if_neg (by omega), if_neg (by omega), h1]
  have e1 : (expN x * 4503599627370496 + fracN x) % 4503599627370496 = fracN x := by omega
  have e2 : (expN x * 4503599627370496 + fracN x) / 4503599627370496 = expN x := by omega
  rw [e1, e2]
theorem mag_edge (k : Nat) (h : 0 < k) : mag (k * 4503599627370496) = 4503599627370496 * 2 ^ (k - 1) := by
  unfold mag digN plN
  have e1 : k * 4503599627370496 % 4503599627370496 = 0 := by omega
  have e2 : k * 4503599627370496 / 4503599627370496 = k := by omega
  rw [if_neg (by omega), if_neg (by omega), e1, e2]
theorem mag_small (x : Nat) (h : expN x < 1023) : truncN x = 0 := by
  have h2 : fracN x < 4503599627370496 := by unfold fracN; omega
  unfold truncN
  apply Nat.div_eq_of_lt
  have h1 := rung_parts x
  obtain ⟨k, hk⟩ : ∃ k, k = 1023 := ⟨_, rfl⟩
  have h3 : rung x < k * 4503599627370496 := by omega
  have h4 := mag_lt h3
  rw [mag_edge k (by omega)] at h4
  have h6 : 4503599627370496 * 2 ^ (k - 1) = 2 ^ unitK := by
    have e : (4503599627370496 : Nat) = 2 ^ 52 := by decide
    rw [e, ← Nat.pow_add]
    congr 1
    unfold unitK; omega
  rw [h6] at h4
  exact h4
theorem trunc_mid (x : Nat) (h : 1023 ≤ expN x) : truncN x = if 1075 ≤ expN x then (4503599627370496 + fracN x) * 2 ^ (expN x - 1075) else (4503599627370496 + fracN x) / 2 ^ (1075 - expN x) := by
  unfold truncN
  rw [mag_exp x (by omega)]
  split
  · rename_i h1
    have : (2 : Nat) ^ (expN x - 1) = 2 ^ (expN x - 1075) * 2 ^ unitK := by rw [← Nat.pow_add]; congr 1; unfold unitK; omega
    rw [this, ← Nat.mul_assoc, Nat.mul_div_cancel _ (Nat.two_pow_pos _)]
  · rename_i h1
    have : (2 : Nat) ^ unitK = 2 ^ (1075 - expN x) * 2 ^ (expN x - 1) := by rw [← Nat.pow_add]; congr 1; unfold unitK; omega
    rw [this, Nat.mul_div_mul_right _ _ (Nat.two_pow_pos _)]
theorem ret_i64i {a b : Int} (h : a = b) : Ending.returned (.int .i64 a) = .returned (.int .i64 b) := by rw [h]

end Go.Proofs.Ytmjpemddndjcpaa
