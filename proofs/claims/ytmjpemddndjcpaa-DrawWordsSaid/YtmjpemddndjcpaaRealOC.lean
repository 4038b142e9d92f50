/- What the program's own ToInt and Ticks of layer 5 answer; no condition. -/
import Derived.Test.YtmjpemddndjcpaaRealOB
namespace Go.Proofs.Ytmjpemddndjcpaa
set_option linter.unusedVariables false
set_option linter.unusedSimpArgs false
open Go.RowKit
open Ieee
theorem bang_toNat (b : Bool) (n : Nat) (h : b = decide (n ≠ 0)) : b.toNat = if n = 0 then 0 else 1 := by
  subst h
  by_cases h : n = 0 <;> simp [h]
theorem nzb (v : Nat) : (v != 0) = decide (v ≠ 0) := by by_cases h : v = 0 <;> simp [h]
theorem cut_up (d p K : Nat) : Toward.up.cut false (d <<< (-(K : Int) + (p : Int)).toNat) (-(-(K : Int) + (p : Int))).toNat = d * 2 ^ p / 2 ^ K + if d * 2 ^ p % 2 ^ K = 0 then 0 else 1 := by
  have hz := cut_zero false d p K
  unfold Toward.cut at hz ⊢
  simp only [Bool.toNat_false, Nat.add_zero] at hz
  simp only
  rw [hz]
  congr 1
  apply bang_toNat
  simp only [Bool.not_false, Bool.true_and, Nat.shiftLeft_eq, Nat.one_mul]
  by_cases hp : p ≤ K
  · have e1 : (-(K : Int) + (p : Int)).toNat = 0 := by omega
    have e2 : (-(-(K : Int) + (p : Int))).toNat = K - p := by omega
    rw [e1, e2, Nat.pow_zero, Nat.mul_one]
    have e3 : d * 2 ^ p % 2 ^ K = d % 2 ^ (K - p) * 2 ^ p := by
      have : (2 : Nat) ^ K = 2 ^ (K - p) * 2 ^ p := by rw [← Nat.pow_add, Nat.sub_add_cancel hp]
      rw [this, Nat.mul_mod_mul_right]
    have h0 : 0 < 2 ^ p := Nat.two_pow_pos _
    rw [e3]
    have e4 : (d % 2 ^ (K - p) * 2 ^ p ≠ 0) ↔ d % 2 ^ (K - p) ≠ 0 := by
      rw [ne_eq, Nat.mul_eq_zero]; omega
    have e5 : d % 2 ^ (min (K - p) (d.log2 + 2)) ≠ 0 ↔ d % 2 ^ (K - p) ≠ 0 := by
      by_cases hm : K - p ≤ d.log2 + 2
      · rw [Nat.min_eq_left hm]
      · rw [Nat.min_eq_right (by omega)]
        have hd : d < 2 ^ (d.log2 + 2) := Nat.lt_of_lt_of_le Nat.lt_log2_self (Nat.pow_le_pow_right (by decide) (by omega))
        have hd2 : d < 2 ^ (K - p) := Nat.lt_of_lt_of_le hd (Nat.pow_le_pow_right (by decide) (by omega))
        rw [Nat.mod_eq_of_lt hd, Nat.mod_eq_of_lt hd2]
    rw [decide_eq_decide.2 (e4.trans e5.symm)]
    exact nzb _
  · have e1 : (-(K : Int) + (p : Int)).toNat = p - K := by omega
    have e2 : (-(-(K : Int) + (p : Int))).toNat = 0 := by omega
    rw [e1, e2, Nat.zero_min, Nat.pow_zero, Nat.mod_one]
    have : (2 : Nat) ^ p = 2 ^ (p - K) * 2 ^ K := by rw [← Nat.pow_add, Nat.sub_add_cancel (by omega)]
    rw [this, ← Nat.mul_assoc, Nat.mul_mod_left]
    rfl
/-- the least whole number that isn't below it. -/
def ceilN (r : Nat) : Nat := mag r / 2 ^ unitK + if mag r % 2 ^ unitK = 0 then 0 else 1
theorem integral_up (x : Nat) (h : rung x < 9218868437227405312) (hs : sgn x = false) : (double.read x).integral .up = .number false (ceilN (rung x)) 0 := by
  rw [read_fin h, hs]
  unfold Datum.integral
  have hc := cut_up (digN (rung x)) (plN (rung x)) unitK
  rw [show (-(unitK : Int)) = -1074 from rfl] at hc
  simp only
  rw [hc]
  rfl
theorem toIntegral_fin (nm : String) (way : Toward) (x : Nat) (d : Datum) (h : FloatKind.f64.decode x = d) (hn : d.isNaN = false) :
    Extern.MathFloor.toIntegral nm way #[.float .f64 x] = pure (.float .f64 (FloatKind.f64.encode (d.integral way))) := by
  show (match FloatKind.f64.decode x with | .nan s t => (_ : Sem Value) | d => pure (Value.float .f64 (FloatKind.f64.encode (d.integral way)))) = _
  rw [h]
  cases d with
  | nan s t => cases hn
  | number s m i => rfl
  | infinity s => rfl
theorem geq_f64 {x c : Nat} (hx : rung x ≤ 9218868437227405312) (hc : rung c ≤ 9218868437227405312) : (FloatKind.f64.format.order x c == some .gt || FloatKind.f64.format.order x c == some .eq) = decide (val c ≤ val x) := by
  show (double.order x c == some .gt || double.order x c == some .eq) = _
  rw [order_val x c hx hc]
  rcases Int.lt_trichotomy (val x) (val c) with h | h | h
  · rw [Int.compare_eq_lt.2 h, decide_eq_false (by omega)]; rfl
  · rw [Int.compare_eq_eq.2 h, decide_eq_true (by omega)]; rfl
  · rw [Int.compare_eq_gt.2 h, decide_eq_true (by omega)]; rfl
theorem leq_f64 {x c : Nat} (hx : rung x ≤ 9218868437227405312) (hc : rung c ≤ 9218868437227405312) : (FloatKind.f64.format.order x c == some .lt || FloatKind.f64.format.order x c == some .eq) = decide (val x ≤ val c) := by
  show (double.order x c == some .lt || double.order x c == some .eq) = _
  rw [order_val x c hx hc]
  rcases Int.lt_trichotomy (val x) (val c) with h | h | h
  · rw [Int.compare_eq_lt.2 h, decide_eq_true (by omega)]; rfl
  · rw [Int.compare_eq_eq.2 h, decide_eq_true (by omega)]; rfl
  · rw [Int.compare_eq_gt.2 h, decide_eq_false (by omega)]; rfl
theorem gtr_f64 {x c : Nat} (hx : rung x ≤ 9218868437227405312) (hc : rung c ≤ 9218868437227405312) : (FloatKind.f64.format.order x c == some .gt) = decide (val c < val x) := by
  show (double.order x c == some .gt) = _
  rw [order_val x c hx hc]
  rcases Int.lt_trichotomy (val x) (val c) with h | h | h
  · rw [Int.compare_eq_lt.2 h, decide_eq_false (by omega)]; rfl
  · rw [Int.compare_eq_eq.2 h, decide_eq_false (by omega)]; rfl
  · rw [Int.compare_eq_gt.2 h, decide_eq_true (by omega)]; rfl
theorem lss_f64 {x c : Nat} (hx : rung x ≤ 9218868437227405312) (hc : rung c ≤ 9218868437227405312) : (FloatKind.f64.format.order x c == some .lt) = decide (val x < val c) := by
  show (double.order x c == some .lt) = _
  rw [order_val x c hx hc]
  rcases Int.lt_trichotomy (val x) (val c) with h | h | h
  · rw [Int.compare_eq_lt.2 h, decide_eq_true (by omega)]; rfl
  · rw [Int.compare_eq_eq.2 h, decide_eq_false (by omega)]; rfl
  · rw [Int.compare_eq_gt.2 h, decide_eq_false (by omega)]; rfl
theorem mag_beyond : mag 4890909195324358656 = 9223372036854775808 * 2 ^ unitK := by
  have h := mag_edge 1086 (by decide)
  rw [show 1086 * 4503599627370496 = 4890909195324358656 by decide] at h
  rw [h, show 1086 - 1 = 11 + unitK by unfold unitK; decide, Nat.pow_add, ← Nat.mul_assoc]
theorem val_pos {x : Nat} (h : sgn x = false) : val x = (mag (rung x) : Int) := by unfold val; rw [h]; rfl
theorem val_neg {x : Nat} (h : sgn x = true) : val x = -(mag (rung x) : Int) := by unfold val; rw [h]; rfl
theorem trunc_lt {x n : Nat} (h : mag (rung x) < n * 2 ^ unitK) : truncN x < n := (Nat.div_lt_iff_lt_mul (Nat.two_pow_pos _)).2 h
theorem trunc_eq {x n : Nat} (h : mag (rung x) = n * 2 ^ unitK) : truncN x = n := by unfold truncN; rw [h, Nat.mul_div_cancel _ (Nat.two_pow_pos _)]
theorem floatToInt_fin (x : Nat) (n : Int) (h : rung x < 9218868437227405312) (hn : n = if sgn x then -(truncN x : Int) else (truncN x : Int)) (h0 : -9223372036854775808 ≤ n) (h1 : n ≤ 9223372036854775807) :
    floatToIntVal .f64 x .i64 = some n := by
  unfold floatToIntVal
  have ht : (FloatKind.f64.decode x).toInt .zero = some n := by rw [hn]; exact toInt_fin x h
  rw [ht]
  exact if_pos ⟨h0, h1⟩
theorem toInt_split {x : Nat} (hx : x < 18446744073709551616) (h4 : clsN x ≠ 4) :
    (val 4890909195324358656 ≤ val x → toIntS x = 9223372036854775807) ∧ (val x < val 14114281232179134464 → toIntS x = -9223372036854775808) ∧
    (¬ val 4890909195324358656 ≤ val x → ¬ val x < val 14114281232179134464 → floatToIntVal .f64 x .i64 = some (toIntS x)) := by
  have hr : rung x ≤ 9218868437227405312 := by rw [ne_eq, cls4] at h4; omega
  have hp := rung_parts x
  have hf : fracN x < 4503599627370496 := by unfold fracN; omega
  have c1 : val 4890909195324358656 = (mag 4890909195324358656 : Int) := rfl
  have c2 : val 14114281232179134464 = -(mag 4890909195324358656 : Int) := rfl
  have hmp := @mag_pos 4890909195324358656
  have hml := @mag_lt_iff (rung x) 4890909195324358656
  have hml2 := @mag_lt_iff 4890909195324358656 (rung x)
  have hT : toIntS x = if 1086 ≤ expN x then (if sgn x then -9223372036854775808 else 9223372036854775807) else if sgn x then -(truncN x : Int) else (truncN x : Int) := by unfold toIntS; rw [if_neg h4]
  cases hs : sgn x with
  | false =>
    rw [c1, c2, val_pos hs, hT, hs]
    simp only [Bool.false_eq_true, if_false]
    refine ⟨fun h => ?_, fun h => ?_, fun h1 h2 => ?_⟩
    · rw [if_pos (by omega)]
    · omega
    · have h3 : mag (rung x) < mag 4890909195324358656 := by omega
      have h5 := hml.1 h3
      rw [mag_beyond] at h3
      have h6 := trunc_lt h3
      rw [if_neg (by omega)]
      refine floatToInt_fin x _ (by omega) (by rw [hs]; rfl) (by omega) (by omega)
  | true =>
    rw [c1, c2, val_neg hs, hT, hs]
    simp only [if_true]
    refine ⟨fun h => ?_, fun h => ?_, fun h1 h2 => ?_⟩
    · omega
    · rw [if_pos (by omega)]
    · have h3 : ¬ mag 4890909195324358656 < mag (rung x) := by omega
      have h5 : rung x ≤ 4890909195324358656 := by omega
      by_cases h7 : rung x = 4890909195324358656
      · rw [if_pos (by omega)]
        have h8 : truncN x = 9223372036854775808 := trunc_eq (by rw [h7]; exact mag_beyond)
        refine floatToInt_fin x _ (by omega) (by rw [hs, h8]; rfl) (by omega) (by omega)
      · have h9 : mag (rung x) < mag 4890909195324358656 := hml.2 (by omega)
        rw [mag_beyond] at h9
        have h6 := trunc_lt h9
        rw [if_neg (by omega)]
        refine floatToInt_fin x _ (by omega) (by rw [hs]; rfl) (by omega) (by omega)
theorem val_fromS {n : Nat} (h : n ≤ 1099511627776) : val (fromS (n : Int)) = ((n * 2 ^ unitK : Nat) : Int) := by
  by_cases h0 : n = 0
  · subst h0; rw [Nat.zero_mul]; exact (by decide : val 0 = 0)
  · rw [fromS_pos (by omega), Int.natAbs_natCast]
    have hl : n.log2 ≤ 52 := by
      have := (Nat.log2_lt (k := 53) h0).2 (by omega)
      omega
    have hr := rungI_lt (u := n) (by omega) (by omega)
    have e1 : rung (rungI n) = rungI n := by unfold rung; omega
    have e2 : sgn (rungI n) = false := by rw [sgn_iff (by omega)]; exact decide_eq_false (by omega)
    rw [val_pos e2, e1, rungI_exact (by omega) hl]
theorem ticks_ceil {x : Nat} (hx : x < 18446744073709551616) (h0 : lessN 0 x = true) (h1 : lessN (fromS 1099511627776) x = false) :
    sgn x = false ∧ rung x < 9218868437227405312 ∧ 0 < ceilN (rung x) ∧ ceilN (rung x) ≤ 1099511627776 ∧ ticksS x = (ceilN (rung x) : Int) := by
  obtain ⟨hs, hr, ht, hti⟩ := ticks_low hx h0 h1
  have hv := val_pos hs
  have hm0 : 0 < mag (rung x) := by
    have := ((less_val (by decide) hx).1 h0).2.2
    rw [show val 0 = 0 by decide] at this
    omega
  have hml : mag (rung x) ≤ 1099511627776 * 2 ^ unitK := by rw [← mag_most]; exact mag_le hr
  have hdm := Nat.div_add_mod (mag (rung x)) (2 ^ unitK)
  have hvs := val_fromS ht
  have hl := less_val (fromS_lt (i := (truncN x : Int)) (by omega) (by omega)) hx
  have hfr : rung (fromS (truncN x : Int)) ≤ 9218868437227405312 := by
    have := cls_le.1 (fromS_cls (i := (truncN x : Int)) (by omega) (by omega)); omega
  have hlt : lessN (fromS (truncN x : Int)) x = true ↔ mag (rung x) % 2 ^ unitK ≠ 0 := by
    rw [hl, hvs, hv]
    rw [Nat.mul_comm (2 ^ unitK), show mag (rung x) / 2 ^ unitK = truncN x from rfl] at hdm
    generalize truncN x * 2 ^ unitK = a at *
    generalize mag (rung x) % 2 ^ unitK = b at *
    omega
  have hT : ticksS x = if lessN (fromS (toIntS x)) x = true then toIntS x + 1 else toIntS x := by unfold ticksS; rw [h0, h1]; rfl
  rw [hti] at hT
  refine ⟨hs, by omega, ?_, ?_, ?_⟩
  · unfold ceilN
    rcases Nat.eq_zero_or_pos (mag (rung x) / 2 ^ unitK) with h | h
    · rw [h, Nat.mul_zero] at hdm
      rw [if_neg (by omega)]; omega
    · exact Nat.lt_of_lt_of_le h (Nat.le_add_right _ _)
  · unfold ceilN
    unfold truncN at ht
    by_cases h : mag (rung x) % 2 ^ unitK = 0
    · rw [if_pos h]; exact ht
    · rw [if_neg h]
      rcases Nat.lt_or_ge (mag (rung x) / 2 ^ unitK) 1099511627776 with h5 | h5
      · omega
      · have h6 : 1099511627776 * 2 ^ unitK ≤ mag (rung x) / 2 ^ unitK * 2 ^ unitK := Nat.mul_le_mul_right _ h5
        rw [Nat.mul_comm (2 ^ unitK)] at hdm
        generalize mag (rung x) / 2 ^ unitK * 2 ^ unitK = a at *
        generalize mag (rung x) % 2 ^ unitK = b at *
        generalize 1099511627776 * 2 ^ unitK = c at *
        omega
  · rw [hT]
    unfold ceilN
    by_cases h : mag (rung x) % 2 ^ unitK = 0
    · rw [if_pos h, if_neg (fun h7 => hlt.1 h7 h)]; rfl
    · rw [if_neg h, if_pos (hlt.2 h)]; rfl
theorem ceil_back {q : Nat} (h0 : 0 < q) (h1 : q ≤ 1099511627776) : floatToIntVal .f64 (rungI q) .i64 = some (q : Int) := by
  have hr := rungI_lt (u := q) (by omega) (by omega)
  have e1 : rung (rungI q) = rungI q := by unfold rung; omega
  have e2 : sgn (rungI q) = false := by rw [sgn_iff (by omega)]; exact decide_eq_false (by omega)
  have e3 : truncN (rungI q) = q := by unfold truncN; rw [e1]; exact trunc_rungI h0 (by omega)
  exact floatToInt_fin _ _ (by omega) (by rw [e2, e3]; rfl) (by omega) (by omega)
end Go.Proofs.Ytmjpemddndjcpaa
