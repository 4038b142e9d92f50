/- Plain mathematics of layer 6: a number by 2^53, exactly; words of unlike states are unlike; no condition but those in each theorem. -/
import Derived.Test.YtmjpemddndjcpaaRealB
namespace Go.Proofs.Ytmjpemddndjcpaa
set_option linter.unusedVariables false
set_option linter.unusedSimpArgs false
open Ieee

theorem log2_eq {m k : Nat} (h1 : 2 ^ k ≤ m) (h2 : m < 2 ^ (k + 1)) : m.log2 = k := by
  have h0 : m ≠ 0 := by have := Nat.two_pow_pos k; omega
  have a := (Nat.le_log2 h0).2 h1
  have b := (Nat.log2_lt h0).2 h2
  omega
/-- a number with no digit too many is written as it is. -/
theorem nearest_exact (s : Bool) (m k : Nat) (q : Int) (h1 : 4503599627370496 ≤ m) (h2 : m < 9007199254740992) (hq : -1074 ≤ q) (hi : (q + 1074).toNat * 4503599627370496 + m ≤ 9218868437227405312) :
    double.nearest s (m * 2 ^ k) (q - k) = double.word s ((q + 1074).toNat * 4503599627370496 + m) := by
  have hp := Nat.two_pow_pos k
  have hl : (m * 2 ^ k).log2 = 52 + k := by
    apply log2_eq
    · rw [Nat.pow_add]; exact Nat.mul_le_mul_right _ h1
    · rw [show 52 + k + 1 = 53 + k by omega, Nat.pow_add]; exact Nat.mul_lt_mul_of_pos_right h2 hp
  have h0 : m * 2 ^ k ≠ 0 := by rw [ne_eq, Nat.mul_eq_zero]; omega
  unfold Format.nearest
  rw [if_neg h0, dbl_least, dbl_frac, dbl_binade, dbl_inf, hl]
  dsimp only
  have hm : max (q - (k : Int) + ((52 + k : Nat) : Int) - ((52 : Nat) : Int)) (-1074) = q := by omega
  rw [hm]
  have e1 : (q - (k : Int) - q).toNat = 0 := by omega
  have e2 : (q - (q - (k : Int))).toNat = k := by omega
  have e3 : (q - -1074).toNat = (q + 1074).toNat := by omega
  rw [e1, e2, e3, Nat.shiftLeft_zero, cut_some s (m * 2 ^ k) k (by omega), Nat.mul_div_cancel _ hp, Nat.mul_mod_left, if_neg (by omega), Nat.add_zero, Nat.min_eq_left hi]
theorem rungI_parts {u : Nat} (h0 : 0 < u) (h : u < 9007199254740992) : ∃ m, 4503599627370496 ≤ m ∧ m < 9007199254740992 ∧ u.log2 ≤ 52 ∧ rungI u = (u.log2 + 1022) * 4503599627370496 + m ∧ double.read (rungI u) = .number false m ((u.log2 : Int) - 52) := by
  obtain ⟨g1, g2⟩ := log2_bounds h0
  have hl : u.log2 ≤ 52 := by
    have := (Nat.log2_lt (k := 53) (by omega)).2 h
    omega
  have h4 : u * 2 ^ (52 - u.log2) < 2 ^ (u.log2 + 1) * 2 ^ (52 - u.log2) := Nat.mul_lt_mul_of_pos_right g2 (Nat.two_pow_pos _)
  have h5 : 2 ^ u.log2 * 2 ^ (52 - u.log2) ≤ u * 2 ^ (52 - u.log2) := Nat.mul_le_mul_right _ g1
  rw [← Nat.pow_add, show u.log2 + 1 + (52 - u.log2) = 53 by omega] at h4
  rw [← Nat.pow_add, show u.log2 + (52 - u.log2) = 52 by omega] at h5
  have hr : rungI u = (u.log2 + 1022) * 4503599627370496 + u * 2 ^ (52 - u.log2) := by unfold rungI; rw [if_pos hl]
  refine ⟨u * 2 ^ (52 - u.log2), h5, h4, hl, hr, ?_⟩
  generalize u * 2 ^ (52 - u.log2) = m at *
  have e1 : rung (rungI u) = rungI u := by unfold rung; rw [hr]; omega
  have e2 : sgn (rungI u) = false := by
    unfold sgn
    rw [show rungI u / 9223372036854775808 % 2 = 0 by omega]; rfl
  rw [read_fin (by omega), e1, e2]
  have hd : digN (rungI u) = m := by unfold digN; rw [hr, if_neg (by omega)]; omega
  have hp : plN (rungI u) = u.log2 + 1022 := by unfold plN; rw [hr, if_neg (by omega)]; omega
  rw [hd, hp, show -1074 + ((u.log2 + 1022 : Nat) : Int) = (u.log2 : Int) - 52 by omega]
theorem down53 (k m : Nat) : (k + 1022) * 4503599627370496 + m - 238690780250636288 = (k + 969) * 4503599627370496 + m := by
  rw [show k + 1022 = k + 969 + 53 by omega, Nat.add_mul]
  omega
/-- by 2^53. -/
theorem div_unit {u : Nat} (h0 : 0 < u) (h : u < 9007199254740992) : double.div (rungI u) 4845873199050653696 = some (rungI u - 238690780250636288) := by
  obtain ⟨m, h1, h2, hl, hr, hd⟩ := rungI_parts h0 h
  have hc : double.read 4845873199050653696 = .number false 4503599627370496 1 := by decide +kernel
  unfold Format.div
  rw [hd, hc]
  have lm : m.log2 = 52 := log2_eq h1 h2
  have lc : Nat.log2 4503599627370496 = 52 := by decide +kernel
  unfold Datum.quotient
  simp only
  rw [if_neg (by decide), lm, lc]
  have e1 : double.fractionBits + 2 + 52 - 52 = 54 := by decide
  rw [e1]
  have e2 : m <<< 54 = m * 4 * 4503599627370496 := by rw [Nat.shiftLeft_eq]; omega
  rw [e2, Nat.mul_div_cancel _ (by decide), Nat.mul_mod_left]
  simp only [Option.map_some, bne_self_eq_false, Bool.toNat_false, Nat.add_zero, Bool.xor_false]
  unfold Format.write
  simp only
  have e3 : 2 * (m * 4) = m * 2 ^ 3 := by omega
  have e4 : ((u.log2 : Int) - 52 - 1 - ((54 : Nat) : Int) - 1) = ((u.log2 : Int) - 105) - ((3 : Nat) : Int) := by omega
  rw [e3, e4, nearest_exact false m 3 _ h1 h2 (by omega) (by omega)]
  unfold Format.word
  rw [if_neg (by decide), hr, show ((u.log2 : Int) - 105 + 1074).toNat = u.log2 + 969 by omega, down53]
/-- by 2^-53. -/
theorem mul_unit {u : Nat} (h0 : 0 < u) (h : u < 9007199254740992) : double.mul (rungI u) 4368491638549381120 = some (rungI u - 238690780250636288) := by
  obtain ⟨m, h1, h2, hl, hr, hd⟩ := rungI_parts h0 h
  have hc : double.read 4368491638549381120 = .number false 4503599627370496 (-105) := by decide +kernel
  unfold Format.mul
  rw [hd, hc]
  unfold Datum.product
  simp only [Option.map_some, Bool.xor_false]
  unfold Format.write
  simp only
  have e3 : m * 4503599627370496 = m * 2 ^ 52 := rfl
  have e4 : ((u.log2 : Int) - 52 + -105) = ((u.log2 : Int) - 105) - ((52 : Nat) : Int) := by omega
  rw [e3, e4, nearest_exact false m 52 _ h1 h2 (by omega) (by omega)]
  unfold Format.word
  rw [if_neg (by decide), hr, show ((u.log2 : Int) - 105 + 1074).toNat = u.log2 + 969 by omega, down53]
end Go.Proofs.Ytmjpemddndjcpaa
