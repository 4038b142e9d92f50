/- What the document's own ToInt and Ticks of layer 5 answer; no condition. -/
import Derived.Test.YtemdhlajdmkppaaRealF
namespace Go.Proofs.Ytemdhlajdmkppaa
set_option linter.unusedVariables false
set_option linter.unusedSimpArgs false
open Go.RowKit

/-- a word's number. -/
def toIntS (x : Nat) : Int := if clsN x = 4 then 0 else if 1086 ≤ expN x then (if sgn x then -9223372036854775808 else 9223372036854775807) else if sgn x then -(truncN x : Int) else (truncN x : Int)
theorem mag_exp (x : Nat) (h : 0 < expN x) : mag (rung x) = (4503599627370496 + fracN x) * 2 ^ (expN x - 1) := by
  have h1 := rung_parts x
  have h2 : fracN x < 4503599627370496 := by unfold fracN; omega
  unfold mag digN plN
  rw [if_neg (by omega), if_neg (by omega), h1]
  have e1 : (expN x * 4503599627370496 + fracN x) % 4503599627370496 = fracN x := by omega
  have e2 : (expN x * 4503599627370496 + fracN x) / 4503599627370496 = expN x := by omega
  rw [e1, e2]
theorem mag_edge (k : Nat) (h : 0 < k) : mag (k * 4503599627370496) = 4503599627370496 * 2 ^ (k - 1) := by
  unfold mag digN plN
  have e1 : k * 4503599627370496 % 4503599627370496 = 0 := by omega
  have e2 : k * 4503599627370496 / 4503599627370496 = k := by omega
  rw [if_neg (by omega), if_neg (by omega), e1, e2]
theorem mag_small (x : Nat) (h : expN x < 1023) : truncN x = 0 := by
  have h2 : fracN x < 4503599627370496 := by unfold fracN; omega
  unfold truncN
  apply Nat.div_eq_of_lt
  have h1 := rung_parts x
  obtain ⟨k, hk⟩ : ∃ k, k = 1023 := ⟨_, rfl⟩
  have h3 : rung x < k * 4503599627370496 := by omega
  have h4 := mag_lt h3
  rw [mag_edge k (by omega)] at h4
  have h6 : 4503599627370496 * 2 ^ (k - 1) = 2 ^ unitK := by
    have e : (4503599627370496 : Nat) = 2 ^ 52 := by decide
    rw [e, ← Nat.pow_add]
    congr 1
    unfold unitK; omega
  rw [h6] at h4
  exact h4
theorem trunc_mid (x : Nat) (h : 1023 ≤ expN x) : truncN x = if 1075 ≤ expN x then (4503599627370496 + fracN x) * 2 ^ (expN x - 1075) else (4503599627370496 + fracN x) / 2 ^ (1075 - expN x) := by
  unfold truncN
  rw [mag_exp x (by omega)]
  split
  · rename_i h1
    have : (2 : Nat) ^ (expN x - 1) = 2 ^ (expN x - 1075) * 2 ^ unitK := by rw [← Nat.pow_add]; congr 1; unfold unitK; omega
    rw [this, ← Nat.mul_assoc, Nat.mul_div_cancel _ (Nat.two_pow_pos _)]
  · rename_i h1
    have : (2 : Nat) ^ unitK = 2 ^ (1075 - expN x) * 2 ^ (expN x - 1) := by rw [← Nat.pow_add]; congr 1; unfold unitK; omega
    rw [this, Nat.mul_div_mul_right _ _ (Nat.two_pow_pos _)]
theorem ret_i64i {a b : Int} (h : a = b) : Ending.returned (.int .i64 a) = .returned (.int .i64 b) := by rw [h]

set_option maxHeartbeats 1000000 in
theorem refToInt_any (x : Nat) (w : World) (hx : x < 18446744073709551616) :
    Calls Try.prog 42 #[.int .u64 (x : Int)] w fun e w' => e = .returned (.int .i64 (toIntS x)) ∧ w = w' := by
  have C := Lib.hid (fun w c hc => refClass_any x c w hx hc)
  have P := refParts_any x w hx
  have hf : fracN x < 4503599627370496 := by unfold fracN; omega
  have he : expN x < 2048 := by unfold expN; omega
  have hT := trunc_mid x
  have hsm := mag_small x
  have hR : toIntS x = if clsN x = 4 then 0 else if 1086 ≤ expN x then (if sgn x then -9223372036854775808 else 9223372036854775807) else if sgn x then -(truncN x : Int) else (truncN x : Int) := rfl
  obtain ⟨c, hc⟩ : ∃ c : Int, (clsN x : Int) = c := ⟨_, rfl⟩
  have e4 : (clsN x = 4) = (c = 4) := by rw [eq_iff_iff]; omega
  simp only [e4] at hR
  have HC := Lib.hid hc
  clear hc e4
  generalize sgn x = s at *
  generalize truncN x = T at *
  generalize expN x = E at *
  generalize fracN x = F at *
  replace P := Lib.hid P; have HT := Lib.hid hT; have HSm := Lib.hid hsm
  clear hT hsm
  by_cases h4 : c = 4
  · have b1 : (c == 4) = true := by simpa using h4
    have R := Lib.hid (hR.trans (if_pos h4))
    clear hR h4
    go_enter Try.func42, Try.ntmps42
    go_wp2_with (first | (go_at_call 12; refine (C.out _ c HC.out).mono ?_; rintro e w' ⟨rfl, rfl⟩) | (go_at_call 46; refine P.out.mono ?_; rintro e w' ⟨rfl, rfl⟩))
    go_ret
    exact ⟨ret_i64i R.out.symm, rfl⟩
  · have b1 : (c == 4) = false := by simpa using h4
    replace hR := hR.trans (if_neg h4)
    by_cases h6 : 1086 ≤ E
    · have b2 : decide ((1086 : Int) ≤ (E : Int)) = true := by simp; omega
      replace hR := hR.trans (if_pos h6)
      cases s with
      | true =>
        have R := Lib.hid (show toIntS x = -9223372036854775808 from hR)
        clear hR h4 h6
        go_enter Try.func42, Try.ntmps42
        go_wp2_with (first | (go_at_call 12; refine (C.out _ c HC.out).mono ?_; rintro e w' ⟨rfl, rfl⟩) | (go_at_call 46; refine P.out.mono ?_; rintro e w' ⟨rfl, rfl⟩))
        go_ret
        exact ⟨ret_i64i R.out.symm, rfl⟩
      | false =>
        have R := Lib.hid (show toIntS x = 9223372036854775807 from hR)
        clear hR h4 h6
        go_enter Try.func42, Try.ntmps42
        go_wp2_with (first | (go_at_call 12; refine (C.out _ c HC.out).mono ?_; rintro e w' ⟨rfl, rfl⟩) | (go_at_call 46; refine P.out.mono ?_; rintro e w' ⟨rfl, rfl⟩))
        go_ret
        exact ⟨ret_i64i R.out.symm, rfl⟩
    · have b2 : decide ((1086 : Int) ≤ (E : Int)) = false := by simp; omega
      replace hR := hR.trans (if_neg h6)
      by_cases h3 : E < 1023
      · have b3 : decide ((E : Int) < 1023) = true := by simp; omega
        have R := Lib.hid (show toIntS x = 0 by rw [hR, HSm.out h3]; cases s <;> rfl)
        clear hR h4 h6 h3
        go_enter Try.func42, Try.ntmps42
        go_wp2_with (first | (go_at_call 12; refine (C.out _ c HC.out).mono ?_; rintro e w' ⟨rfl, rfl⟩) | (go_at_call 46; refine P.out.mono ?_; rintro e w' ⟨rfl, rfl⟩))
        go_ret
        exact ⟨ret_i64i R.out.symm, rfl⟩
      · have b3 : decide ((E : Int) < 1023) = false := by simp; omega
        have hT := HT.out (by omega)
        obtain ⟨D, hD⟩ : ∃ D, 4503599627370496 + F = D := ⟨_, rfl⟩
        rw [hD] at hT
        have hD1 : D < 9007199254740992 := by omega
        have hFD : (F : Int) + 4503599627370496 = (D : Int) := by omega
        have HT2 := Lib.hid hT; have HR := Lib.hid hR
        clear hR h4 hT hD
        go_enter Try.func42, Try.ntmps42
        go_wp2_with (first | (go_at_call 12; refine (C.out _ c HC.out).mono ?_; rintro e w' ⟨rfl, rfl⟩) | (go_at_call 46; refine P.out.mono ?_; rintro e w' ⟨rfl, rfl⟩))
        go_loop [5, 6] (fun mv kv => ∃ (a v : Nat), mv = .int .u64 (v : Int) ∧ kv = .int .i64 (1075 + (a : Int)) ∧ Hid (v = D * 2 ^ a) ∧ (a = 0 ∨ 1075 + a ≤ E)) (fun _ kv => (E - (intOf kv).toNat))
        case atStart => exact ⟨0, D, rfl, rfl, by show _ = _; simp, Or.inl rfl⟩
        case round =>
          obtain ⟨a, v, rfl, rfl, hv, ha⟩ := hrel
          have HV := Lib.hid hv
          have hvl : v < 9223372036854775808 := by
            rw [hv.out]
            have h7 : (2 : Nat) ^ a ≤ 2 ^ 10 := Nat.pow_le_pow_right (by decide) (by omega)
            have h8 : D * 2 ^ a ≤ D * 2 ^ 10 := Nat.mul_le_mul_left _ h7
            omega
          clear hv
          by_cases hl : 1075 + a < E
          · have b4 : decide ((1075 : Int) + (a : Int) < (E : Int)) = true := by simp; omega
            have hv2 : v * 2 < 9223372036854775808 := by
              have h7 : (2 : Nat) ^ (a + 1) ≤ 2 ^ 10 := Nat.pow_le_pow_right (by decide) (by omega)
              have h8 : D * 2 ^ (a + 1) ≤ D * 2 ^ 10 := Nat.mul_le_mul_left _ h7
              have h9 : v * 2 = D * 2 ^ (a + 1) := by rw [HV.out.out, Nat.pow_succ, Nat.mul_assoc]
              omega
            go_wp2
            go_round
            case rel => exact ⟨a + 1, v * 2, by go_num, by go_num, (by show _ = _; rw [HV.out.out, Nat.pow_succ, Nat.mul_assoc]), by omega⟩
            case measure => simp [intOf]; omega
          · have b4 : decide ((1075 : Int) + (a : Int) < (E : Int)) = false := by simp; omega
            have HVF := Lib.hid (show (1075 ≤ E → v = D * 2 ^ (E - 1075)) ∧ (E < 1075 → v = D) by
              refine ⟨fun h7 => ?_, fun h7 => ?_⟩
              · rw [HV.out.out, show a = E - 1075 by omega]
              · rw [HV.out.out, show a = 0 by omega, Nat.pow_zero, Nat.mul_one])
            clear ha
            go_wp2
            go_loop [5, 7] (fun mv kv => ∃ (b q : Nat), mv = .int .u64 (q : Int) ∧ kv = .int .i64 ((E : Int) + (b : Int)) ∧ Hid (q = v / 2 ^ b) ∧ q < 9223372036854775808 ∧ (b = 0 ∨ E + b ≤ 1075)) (fun _ kv => (1075 - (intOf kv).toNat))
            case atStart => exact ⟨0, v, rfl, by simp, by show _ = _; simp, hvl, Or.inl rfl⟩
            case round =>
              obtain ⟨b, q, rfl, rfl, hq, hql, hb⟩ := hrel
              have HQ := Lib.hid hq
              clear hq
              by_cases hm : E + b < 1075
              · have b5 : decide ((E : Int) + (b : Int) < 1075) = true := by simp; omega
                go_wp2
                go_round
                case rel => exact ⟨b + 1, q / 2, by go_num, by go_num, (by show _ = _; rw [HQ.out.out, div_pow_succ]), by omega, by omega⟩
                case measure => simp [intOf]; omega
              · have b5 : decide ((E : Int) + (b : Int) < 1075) = false := by simp; omega
                have hTq : T = q := by
                  have h7 := HT2.out
                  rw [HQ.out.out]
                  by_cases h8 : 1075 ≤ E
                  · rw [if_pos h8] at h7
                    rw [h7, HVF.out.1 h8, show b = 0 by omega, Nat.pow_zero, Nat.div_one]
                  · rw [if_neg h8] at h7
                    rw [h7, HVF.out.2 (by omega), show b = 1075 - E by omega]
                have HTq := Lib.hid hTq
                clear hb hTq
                cases s with
                | true =>
                  have R := Lib.hid (show toIntS x = -(q : Int) from (HR.out.trans (if_pos rfl)).trans (congrArg (fun n : Nat => -(n : Int)) HTq.out))
                  clear HR
                  go_wp2
                  go_ret
                  refine ⟨ret_i64i ?_, rfl⟩
                  rw [R.out]
                | false =>
                  have R := Lib.hid (show toIntS x = (q : Int) from (HR.out.trans (if_neg (by decide))).trans (congrArg (fun n : Nat => (n : Int)) HTq.out))
                  clear HR
                  go_wp2
                  go_ret
                  refine ⟨ret_i64i ?_, rfl⟩
                  rw [R.out]
end Go.Proofs.Ytemdhlajdmkppaa
