/- Plain mathematics of layer 5: when what is reckoned is none, whole numbers' words, and words' whole numbers; no condition but those in each theorem. -/
import Derived.Test.YtmjpemddndjcpaaRealA
namespace Go.Proofs.Ytmjpemddndjcpaa
set_option linter.unusedVariables false
set_option linter.unusedSimpArgs false
open Ieee

theorem digN_zero {r : Nat} : digN r = 0 ↔ r = 0 := by unfold digN; split <;> omega
theorem dig_pos {r : Nat} (h : 4503599627370496 ≤ r) : 4503599627370496 ≤ digN r ∧ digN r < 9007199254740992 := by unfold digN; rw [if_neg (by omega)]; omega
/-- the three kinds of words. -/
theorem kinds (x : Nat) : rung x < 9218868437227405312 ∨ rung x = 9218868437227405312 ∨ 9218868437227405312 < rung x := by omega
theorem map_none {d : Option Datum} {f : Datum → Nat} : d.map f = none ↔ d = none := by cases d <;> simp
theorem add_none (x y : Nat) (hx : rung x ≤ 9218868437227405312) (hy : rung y ≤ 9218868437227405312) : double.add x y = none ↔ rung x = 9218868437227405312 ∧ rung y = 9218868437227405312 ∧ sgn x ≠ sgn y := by
  unfold Format.add
  rw [map_none]
  by_cases h1 : rung x = 9218868437227405312 <;> by_cases h2 : rung y = 9218868437227405312
  · rw [read_inf h1, read_inf h2]; simp [Datum.sum, h1, h2]
  · rw [read_inf h1, read_fin (x := y) (by omega)]; simp [Datum.sum, h1, h2]
  · rw [read_fin (x := x) (by omega), read_inf h2]; simp [Datum.sum, h1, h2]
  · rw [read_fin (x := x) (by omega), read_fin (x := y) (by omega)]; simp [Datum.sum, h1, h2]
theorem sub_none (x y : Nat) (hx : rung x ≤ 9218868437227405312) (hy : rung y ≤ 9218868437227405312) : double.sub x y = none ↔ rung x = 9218868437227405312 ∧ rung y = 9218868437227405312 ∧ sgn x = sgn y := by
  unfold Format.sub
  rw [map_none]
  by_cases h1 : rung x = 9218868437227405312 <;> by_cases h2 : rung y = 9218868437227405312
  · rw [read_inf h1, read_inf h2]; cases sgn x <;> cases sgn y <;> simp [Datum.sum, Datum.opposite, h1, h2]
  · rw [read_inf h1, read_fin (x := y) (by omega)]; simp [Datum.sum, Datum.opposite, h1, h2]
  · rw [read_fin (x := x) (by omega), read_inf h2]; simp [Datum.sum, Datum.opposite, h1, h2]
  · rw [read_fin (x := x) (by omega), read_fin (x := y) (by omega)]; simp [Datum.sum, Datum.opposite, h1, h2]
theorem mul_none (x y : Nat) (hx : rung x ≤ 9218868437227405312) (hy : rung y ≤ 9218868437227405312) : double.mul x y = none ↔ (rung x = 9218868437227405312 ∧ rung y = 0) ∨ (rung x = 0 ∧ rung y = 9218868437227405312) := by
  unfold Format.mul
  rw [map_none]
  by_cases h1 : rung x = 9218868437227405312 <;> by_cases h2 : rung y = 9218868437227405312
  · rw [read_inf h1, read_inf h2]; simp [Datum.product, h1, h2]
  · rw [read_inf h1, read_fin (x := y) (by omega)]; simp [Datum.product, h1, h2, digN_zero]
  · rw [read_fin (x := x) (by omega), read_inf h2]; simp [Datum.product, h1, h2, digN_zero]
  · rw [read_fin (x := x) (by omega), read_fin (x := y) (by omega)]; simp [Datum.product, h1, h2]
theorem div_none (x y : Nat) (hx : rung x ≤ 9218868437227405312) (hy : rung y ≤ 9218868437227405312) : double.div x y = none ↔ (rung x = 0 ∧ rung y = 0) ∨ (rung x = 9218868437227405312 ∧ rung y = 9218868437227405312) := by
  unfold Format.div
  rw [map_none]
  by_cases h1 : rung x = 9218868437227405312 <;> by_cases h2 : rung y = 9218868437227405312
  · rw [read_inf h1, read_inf h2]; simp [Datum.quotient, h1, h2]
  · rw [read_inf h1, read_fin (x := y) (by omega)]; simp [Datum.quotient, h1, h2]
  · rw [read_fin (x := x) (by omega), read_inf h2]; simp [Datum.quotient, h1, h2]
  · rw [read_fin (x := x) (by omega), read_fin (x := y) (by omega)]
    simp only [Datum.quotient, digN_zero]
    by_cases h3 : rung y = 0 <;> by_cases h4 : rung x = 0 <;> simp [h1, h2, h3, h4]
theorem any_nan (x y : Nat) (h : 9218868437227405312 < rung x ∨ 9218868437227405312 < rung y) : double.add x y = none ∧ double.sub x y = none ∧ double.mul x y = none ∧ double.div x y = none := by
  unfold Format.add Format.sub Format.mul Format.div
  rcases h with h | h
  · rw [read_nan h]
    generalize double.read y = d
    cases d <;> exact ⟨rfl, rfl, rfl, rfl⟩
  · rw [read_nan h]
    generalize double.read x = d
    cases d <;> exact ⟨rfl, rfl, rfl, rfl⟩
theorem word_zero (s : Bool) : double.word s 0 = if s then 9223372036854775808 else 0 := by unfold Format.word; rw [dbl_sign]
theorem word_inf (s : Bool) : double.word s double.infRung = if s then 18442240474082181120 else 9218868437227405312 := by unfold Format.word; rw [dbl_sign, dbl_inf]
theorem nearest_zero (s : Bool) (p : Int) : double.nearest s 0 p = if s then 9223372036854775808 else 0 := by unfold Format.nearest; rw [if_pos rfl, word_zero]
/-- one less itself. -/
theorem sub_self' (x : Nat) (h : rung x < 9218868437227405312) : double.sub x x = some 0 := by
  unfold Format.sub
  rw [read_fin h]
  simp only [Datum.opposite, Datum.sum, Int.min_self, Int.sub_self, Int.toNat_zero, signed_eq]
  have e : (if sgn x = true then -((digN (rung x) * 2 ^ 0 : Nat) : Int) else ((digN (rung x) * 2 ^ 0 : Nat) : Int)) + (if (!sgn x) = true then -((digN (rung x) * 2 ^ 0 : Nat) : Int) else ((digN (rung x) * 2 ^ 0 : Nat) : Int)) = 0 := by
    cases sgn x <;> simp <;> omega
  rw [e]
  have e2 : (sgn x && !sgn x) = false := by cases sgn x <;> rfl
  simp only [if_true, e2, Int.natAbs_zero, Option.map_some]
  rw [show double.write (.number false 0 _) = double.nearest false 0 _ from rfl, nearest_zero]; rfl
/-- by zero. -/
theorem div_zero' (x : Nat) (h : rung x < 9218868437227405312) (h0 : rung x ≠ 0) : double.div x 0 = some (if sgn x then 18442240474082181120 else 9218868437227405312) := by
  unfold Format.div
  have hz : double.read 0 = .number false 0 (-1074) := by rw [read_sub (by decide)]; rfl
  rw [read_fin h, hz]
  have h1 : digN (rung x) ≠ 0 := fun e => h0 (digN_zero.1 e)
  simp only [Datum.quotient, if_true, if_neg h1, Option.map_some, Bool.xor_false]
  rw [show double.write (.infinity (sgn x)) = double.word (sgn x) double.infRung from rfl, word_inf]

/-- so many halvings make the least unit of one. -/
def unitK : Nat := 1074
/-- the rung of a whole number above 0. -/
def rungI (u : Nat) : Nat :=
  if u.log2 ≤ 52 then (u.log2 + 1022) * 4503599627370496 + u * 2 ^ (52 - u.log2)
  else (u.log2 + 1022) * 4503599627370496 + (u / 2 ^ (u.log2 - 52) + if 2 ^ (u.log2 - 52) < 2 * (u % 2 ^ (u.log2 - 52)) ∨ (2 ^ (u.log2 - 52) = 2 * (u % 2 ^ (u.log2 - 52)) ∧ u / 2 ^ (u.log2 - 52) % 2 = 1) then 1 else 0)
theorem log2_bounds {u : Nat} (h : 0 < u) : 2 ^ u.log2 ≤ u ∧ u < 2 ^ (u.log2 + 1) := ⟨Nat.log2_self_le (by omega), Nat.lt_log2_self⟩
theorem rungI_lt {u : Nat} (h0 : 0 < u) (h : u < 18446744073709551616) : rungI u < 9218868437227405312 := by
  obtain ⟨h1, h2⟩ := log2_bounds h0
  have h3 : u.log2 < 64 := (Nat.log2_lt (by omega)).2 h
  unfold rungI
  split
  · have h4 : u * 2 ^ (52 - u.log2) < 2 ^ (u.log2 + 1) * 2 ^ (52 - u.log2) := Nat.mul_lt_mul_of_pos_right h2 (Nat.two_pow_pos _)
    rw [← Nat.pow_add, show u.log2 + 1 + (52 - u.log2) = 53 by omega] at h4
    omega
  · have h4 : u / 2 ^ (u.log2 - 52) < 2 ^ 53 := by
      rw [Nat.div_lt_iff_lt_mul (Nat.two_pow_pos _), ← Nat.pow_add, show 53 + (u.log2 - 52) = u.log2 + 1 by omega]; exact h2
    split <;> omega
theorem cut_none (s : Bool) (n : Nat) : Toward.even.cut s n 0 = n := by
  unfold Toward.cut
  simp [Nat.mod_one]
theorem cut_some (s : Bool) (u k : Nat) (h : k ≤ u.log2 + 2) : Toward.even.cut s u k = u / 2 ^ k + if 2 ^ k < 2 * (u % 2 ^ k) ∨ (2 ^ k = 2 * (u % 2 ^ k) ∧ u / 2 ^ k % 2 = 1) then 1 else 0 := by
  unfold Toward.cut
  simp only [Nat.min_eq_left h, Nat.shiftLeft_eq, Nat.one_mul]
  congr 1
  generalize u / 2 ^ k % 2 = q
  generalize 2 * (u % 2 ^ k) = r
  generalize 2 ^ k = g
  by_cases h1 : g < r
  · simp [h1]
  · by_cases h2 : g = r
    · subst h2
      by_cases h3 : q = 1 <;> simp [h3]
    · simp [h1, h2]
theorem nearest_int (s : Bool) (u : Nat) (h0 : 0 < u) (h : u < 18446744073709551616) : double.nearest s u 0 = double.word s (rungI u) := by
  obtain ⟨h1, h2⟩ := log2_bounds h0
  have h3 : u.log2 < 64 := (Nat.log2_lt (by omega)).2 h
  have hlt := rungI_lt h0 h
  unfold Format.nearest
  rw [if_neg (by omega), dbl_least, dbl_frac, dbl_binade, dbl_inf]
  dsimp only
  have hm : max (0 + (u.log2 : Int) - ((52 : Nat) : Int)) (-1074) = (u.log2 : Int) - 52 := by omega
  rw [hm]
  have e1 : ((u.log2 : Int) - 52 - -1074).toNat = u.log2 + 1022 := by omega
  rw [e1]
  congr 1
  unfold rungI at hlt ⊢
  by_cases hl : u.log2 ≤ 52
  · rw [if_pos hl] at hlt ⊢
    have e2 : (0 - ((u.log2 : Int) - 52)).toNat = 52 - u.log2 := by omega
    have e3 : ((u.log2 : Int) - 52 - 0).toNat = 0 := by omega
    rw [e2, e3]
    rw [show u <<< (52 - u.log2) = u * 2 ^ (52 - u.log2) from Nat.shiftLeft_eq _ _, cut_none]
    exact Nat.min_eq_left (by omega)
  · rw [if_neg hl] at hlt ⊢
    have e2 : (0 - ((u.log2 : Int) - 52)).toNat = 0 := by omega
    have e3 : ((u.log2 : Int) - 52 - 0).toNat = u.log2 - 52 := by omega
    rw [e2, e3, Nat.shiftLeft_zero, cut_some s u (u.log2 - 52) (by omega)]
    exact Nat.min_eq_left (Nat.le_of_lt hlt)
/-- a lesser number has no greater word. -/
theorem rungI_low {u : Nat} (h0 : 0 < u) : (u.log2 + 1023) * 4503599627370496 ≤ rungI u := by
  obtain ⟨h1, h2⟩ := log2_bounds h0
  have e52 : (2 : Nat) ^ 52 = 4503599627370496 := by decide
  unfold rungI
  split
  · have h4 : 2 ^ u.log2 * 2 ^ (52 - u.log2) ≤ u * 2 ^ (52 - u.log2) := Nat.mul_le_mul_right _ h1
    rw [← Nat.pow_add, show u.log2 + (52 - u.log2) = 52 by omega, e52] at h4
    rw [show u.log2 + 1023 = u.log2 + 1022 + 1 from rfl, Nat.succ_mul]
    exact Nat.add_le_add_left h4 _
  · have h4 : 2 ^ 52 ≤ u / 2 ^ (u.log2 - 52) := by
      rw [Nat.le_div_iff_mul_le (Nat.two_pow_pos _), ← Nat.pow_add, show 52 + (u.log2 - 52) = u.log2 by omega]; exact h1
    rw [e52] at h4
    rw [show u.log2 + 1023 = u.log2 + 1022 + 1 from rfl, Nat.succ_mul]
    exact Nat.add_le_add_left (Nat.le_trans h4 (Nat.le_add_right _ _)) _
theorem rungI_high {u : Nat} (h0 : 0 < u) : rungI u ≤ (u.log2 + 1024) * 4503599627370496 := by
  obtain ⟨h1, h2⟩ := log2_bounds h0
  unfold rungI
  split
  · have h4 : u * 2 ^ (52 - u.log2) < 2 ^ (u.log2 + 1) * 2 ^ (52 - u.log2) := Nat.mul_lt_mul_of_pos_right h2 (Nat.two_pow_pos _)
    rw [← Nat.pow_add, show u.log2 + 1 + (52 - u.log2) = 53 by omega] at h4
    omega
  · have h4 : u / 2 ^ (u.log2 - 52) < 2 ^ 53 := by
      rw [Nat.div_lt_iff_lt_mul (Nat.two_pow_pos _), ← Nat.pow_add, show 53 + (u.log2 - 52) = u.log2 + 1 by omega]; exact h2
    split <;> omega
theorem rungI_mono {u v : Nat} (h0 : 0 < u) (h : u ≤ v) : rungI u ≤ rungI v := by
  have hv : 0 < v := by omega
  have hl : u.log2 ≤ v.log2 := by
    have h1 := (log2_bounds h0).1
    have h2 := (log2_bounds hv).2
    rcases Nat.lt_or_ge v.log2 u.log2 with h3 | h3
    · have := Nat.pow_le_pow_right (show 0 < 2 by decide) (show v.log2 + 1 ≤ u.log2 by omega)
      omega
    · exact h3
  by_cases he : u.log2 = v.log2
  · unfold rungI
    rw [he]
    split
    · have := Nat.mul_le_mul_right (2 ^ (52 - v.log2)) h
      omega
    · have hd := Nat.div_le_div_right (c := 2 ^ (v.log2 - 52)) h
      generalize hg : 2 ^ (v.log2 - 52) = g at *
      have hg0 : 0 < g := by rw [← hg]; exact Nat.two_pow_pos _
      by_cases hq : u / g = v / g
      · rw [hq]
        have hu := Nat.div_add_mod u g
        have hvv := Nat.div_add_mod v g
        rw [hq] at hu
        have hr : u % g ≤ v % g := by omega
        have : (if g < 2 * (u % g) ∨ (g = 2 * (u % g) ∧ v / g % 2 = 1) then 1 else 0) ≤ (if g < 2 * (v % g) ∨ (g = 2 * (v % g) ∧ v / g % 2 = 1) then 1 else 0) := by
          split <;> split <;> omega
        omega
      · have h5 : (if g < 2 * (u % g) ∨ (g = 2 * (u % g) ∧ u / g % 2 = 1) then 1 else 0) ≤ 1 := by split <;> omega
        omega
  · have h1 := rungI_high h0
    have h2 := rungI_low hv
    omega
/-- as they were: up to 2^53. -/
theorem rungI_exact {u : Nat} (h0 : 0 < u) (h : u.log2 ≤ 52) : mag (rungI u) = u * 2 ^ unitK := by
  obtain ⟨h1, h2⟩ := log2_bounds h0
  have h4 : u * 2 ^ (52 - u.log2) < 2 ^ (u.log2 + 1) * 2 ^ (52 - u.log2) := Nat.mul_lt_mul_of_pos_right h2 (Nat.two_pow_pos _)
  have h5 : 2 ^ u.log2 * 2 ^ (52 - u.log2) ≤ u * 2 ^ (52 - u.log2) := Nat.mul_le_mul_right _ h1
  rw [← Nat.pow_add, show u.log2 + 1 + (52 - u.log2) = 53 by omega] at h4
  rw [← Nat.pow_add, show u.log2 + (52 - u.log2) = 52 by omega] at h5
  have hr : rungI u = (u.log2 + 1022) * 4503599627370496 + u * 2 ^ (52 - u.log2) := by unfold rungI; rw [if_pos h]
  have hd : digN (rungI u) = u * 2 ^ (52 - u.log2) := by unfold digN; rw [hr, if_neg (by omega)]; omega
  have hp : plN (rungI u) = u.log2 + 1022 := by unfold plN; rw [hr, if_neg (by omega)]; omega
  unfold mag
  rw [hd, hp, Nat.mul_assoc, ← Nat.pow_add, show 52 - u.log2 + (u.log2 + 1022) = unitK by unfold unitK; omega]
theorem cut_zero (s : Bool) (d p K : Nat) : Toward.zero.cut s (d <<< (-(K : Int) + (p : Int)).toNat) (-(-(K : Int) + (p : Int))).toNat = d * 2 ^ p / 2 ^ K := by
  unfold Toward.cut
  simp only [Bool.toNat_false, Nat.add_zero, Nat.shiftLeft_eq, Nat.one_mul]
  by_cases hp : p ≤ K
  · have e1 : (-(K : Int) + (p : Int)).toNat = 0 := by omega
    have e2 : (-(-(K : Int) + (p : Int))).toNat = K - p := by omega
    rw [e1, e2, Nat.pow_zero, Nat.mul_one]
    have e3 : d * 2 ^ p / 2 ^ K = d / 2 ^ (K - p) := by
      have : (2 : Nat) ^ K = 2 ^ (K - p) * 2 ^ p := by rw [← Nat.pow_add, Nat.sub_add_cancel hp]
      rw [this, Nat.mul_div_mul_right _ _ (Nat.two_pow_pos _)]
    rw [e3]
    by_cases hm : K - p ≤ d.log2 + 2
    · rw [Nat.min_eq_left hm]
    · rw [Nat.min_eq_right (by omega)]
      have hd : d < 2 ^ (d.log2 + 2) := Nat.lt_of_lt_of_le Nat.lt_log2_self (Nat.pow_le_pow_right (by decide) (by omega))
      have hd2 : d < 2 ^ (K - p) := Nat.lt_of_lt_of_le hd (Nat.pow_le_pow_right (by decide) (by omega))
      rw [Nat.div_eq_of_lt hd, Nat.div_eq_of_lt hd2]
  · have e1 : (-(K : Int) + (p : Int)).toNat = p - K := by omega
    have e2 : (-(-(K : Int) + (p : Int))).toNat = 0 := by omega
    rw [e1, e2, Nat.zero_min, Nat.pow_zero, Nat.div_one]
    have : (2 : Nat) ^ p = 2 ^ (p - K) * 2 ^ K := by rw [← Nat.pow_add, Nat.sub_add_cancel (by omega)]
    rw [this, ← Nat.mul_assoc, Nat.mul_div_cancel _ (Nat.two_pow_pos _)]
/-- a word's whole number, without what is behind the point. -/
def truncN (x : Nat) : Nat := mag (rung x) / 2 ^ unitK
theorem toInt_fin (x : Nat) (h : rung x < 9218868437227405312) : (double.read x).toInt .zero = some (if sgn x then -(truncN x : Int) else (truncN x : Int)) := by
  rw [read_fin h]
  unfold Datum.toInt Datum.integral
  simp only [signed_eq, Nat.pow_zero, Nat.mul_one]
  have hc := cut_zero (sgn x) (digN (rung x)) (plN (rung x)) unitK
  rw [show (-(unitK : Int)) = -1074 from rfl] at hc
  rw [hc]
  rfl
theorem toInt_other (x : Nat) (h : 9218868437227405312 ≤ rung x) : (double.read x).toInt .zero = none := by
  by_cases h1 : rung x = 9218868437227405312
  · rw [read_inf h1]; rfl
  · rw [read_nan (by omega)]; rfl
end Go.Proofs.Ytmjpemddndjcpaa
