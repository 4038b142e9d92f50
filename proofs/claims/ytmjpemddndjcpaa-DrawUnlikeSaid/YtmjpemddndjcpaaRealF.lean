/- What the document's own FromInt, ToInt and Ticks of layer 5 answer; no condition. -/
import Derived.Test.YtmjpemddndjcpaaRealE
import Derived.BigQuiet
import Derived.Deep.QuietTactic
namespace Go.Proofs.Ytmjpemddndjcpaa
set_option linter.unusedVariables false
set_option linter.unusedSimpArgs false
open Go.RowKit

/-- a number's word. -/
def fromS (i : Int) : Nat := if i = 0 then 0 else (if i < 0 then 9223372036854775808 else 0) + rungI i.natAbs
theorem fromInt_eq (i : Int) (h0 : -9223372036854775808 ≤ i) (h1 : i ≤ 9223372036854775807) : FloatKind.f64.nearest i = fromS i := by
  unfold FloatKind.nearest FloatKind.encode fromS
  show Ieee.double.write (.number (decide (i < 0)) i.natAbs 0) = _
  show Ieee.double.nearest (decide (i < 0)) i.natAbs 0 = _
  by_cases hz : i = 0
  · subst hz; rw [if_pos rfl]; exact nearest_zero false 0
  · rw [if_neg hz, nearest_int _ _ (by omega) (by omega)]
    unfold Ieee.Format.word
    rw [dbl_sign]
    by_cases hneg : i < 0
    · simp [hneg]
    · simp [hneg]
theorem div_pow_succ (u j : Nat) : u / 2 ^ j / 2 = u / 2 ^ (j + 1) := by rw [Nat.div_div_eq_div_mul, Nat.pow_succ]
theorem ret_u64i {a b : Int} (h : a = b) : Ending.returned (.int .u64 a) = .returned (.int .u64 b) := by rw [h]
theorem fin_A (u j s : Nat) (hj : j = u.log2 + 1) (h53 : j ≤ 53) (h0 : 0 < u) (h1 : u ≤ 9223372036854775808) (hs : s = 0 ∨ s = 9223372036854775808) :
    IntKind.u64.wrap ((s : Int) + ((j : Int) + 1022) * 4503599627370496 + (IntKind.u64.wrap ((u : Int) * 2 ^ (53 - j))).tmod 4503599627370496) = ((s + rungI u : Nat) : Int) := by
  obtain ⟨h2, h3⟩ := log2_bounds h0
  have hlt := rungI_lt h0 (by omega)
  have h4 : u * 2 ^ (52 - u.log2) < 2 ^ (u.log2 + 1) * 2 ^ (52 - u.log2) := Nat.mul_lt_mul_of_pos_right h3 (Nat.two_pow_pos _)
  have h5 : 2 ^ u.log2 * 2 ^ (52 - u.log2) ≤ u * 2 ^ (52 - u.log2) := Nat.mul_le_mul_right _ h2
  rw [← Nat.pow_add, show u.log2 + 1 + (52 - u.log2) = 53 by omega] at h4
  rw [← Nat.pow_add, show u.log2 + (52 - u.log2) = 52 by omega] at h5
  have hr : rungI u = (u.log2 + 1022) * 4503599627370496 + u * 2 ^ (52 - u.log2) := by unfold rungI; rw [if_pos (by omega)]
  have e1 : (u : Int) * 2 ^ (53 - j) = ((u * 2 ^ (52 - u.log2) : Nat) : Int) := by
    rw [show 53 - j = 52 - u.log2 by omega, Int.natCast_mul, Int.natCast_pow]; rfl
  rw [e1, hr]
  rw [hr] at hlt
  have e2 : (j : Int) = (u.log2 : Int) + 1 := by omega
  rw [e2]
  generalize u * 2 ^ (52 - u.log2) = X at *
  generalize u.log2 = L at *
  have e3 : IntKind.u64.wrap (X : Int) = X := by rw [IntKind.wrap_u64]; omega
  rw [e3, Int.tmod_eq_emod_of_nonneg (by omega), IntKind.wrap_u64]
  have e4 : (X : Int) % 4503599627370496 = X - 4503599627370496 := by omega
  rw [e4]
  rcases hs with rfl | rfl <;> omega
theorem fin_B (u j s U Q T : Nat) (hj : j = u.log2 + 1) (h53 : 53 < j) (h0 : 0 < u) (h1 : u ≤ 9223372036854775808) (hs : s = 0 ∨ s = 9223372036854775808) (hU : 2 ^ (u.log2 - 52) = U) (hQ : u / U = Q) (hT : u % U = T) :
    0 < U ∧ U % 2 = 0 ∧ U ≤ 9223372036854775808 ∧ 4503599627370496 ≤ Q ∧ Q < 9007199254740992 ∧
    (¬ (U < 2 * T ∨ (U = 2 * T ∧ Q % 2 = 1)) → s + rungI u = s + (j + 1022) * 4503599627370496 + (Q - 4503599627370496)) ∧
    ((U < 2 * T ∨ (U = 2 * T ∧ Q % 2 = 1)) → s + rungI u = s + (j + 1022) * 4503599627370496 + (Q + 1 - 4503599627370496)) := by
  obtain ⟨h2, h3⟩ := log2_bounds h0
  have e52 : (2 : Nat) ^ 52 = 4503599627370496 := by decide
  have e53 : (2 : Nat) ^ 53 = 9007199254740992 := by decide
  have hl : u.log2 ≤ 63 := by
    have := (Nat.log2_lt (show u ≠ 0 by omega) (k := 64)).2 (by omega)
    omega
  have hUp : 0 < U := by rw [← hU]; exact Nat.two_pow_pos _
  have hUe : U % 2 = 0 := by rw [← hU, show u.log2 - 52 = (u.log2 - 53) + 1 by omega, Nat.pow_succ]; omega
  have hU63 : U ≤ 9223372036854775808 := by
    rw [← hU]
    exact Nat.le_trans (Nat.pow_le_pow_right (by decide) (show u.log2 - 52 ≤ 63 by omega)) (by decide)
  have hQ1 : 4503599627370496 ≤ Q := by
    rw [← hQ, Nat.le_div_iff_mul_le hUp, ← hU, ← e52, ← Nat.pow_add, show 52 + (u.log2 - 52) = u.log2 by omega]; exact h2
  have hQ2 : Q < 9007199254740992 := by
    rw [← hQ, Nat.div_lt_iff_lt_mul hUp, ← hU, ← e53, ← Nat.pow_add, show 53 + (u.log2 - 52) = u.log2 + 1 by omega]; exact h3
  have hr : rungI u = (u.log2 + 1022) * 4503599627370496 + (Q + if U < 2 * T ∨ (U = 2 * T ∧ Q % 2 = 1) then 1 else 0) := by
    unfold rungI
    rw [if_neg (by omega), hU, hQ, hT]
  have ej : (j + 1022) * 4503599627370496 = (u.log2 + 1022) * 4503599627370496 + 4503599627370496 := by
    rw [hj, show u.log2 + 1 + 1022 = u.log2 + 1022 + 1 by omega, Nat.succ_mul]
  refine ⟨hUp, hUe, hU63, hQ1, hQ2, fun h => ?_, fun h => ?_⟩
  · rw [hr, if_neg h, ej]; omega
  · rw [hr, if_pos h, ej]; omega

set_option maxHeartbeats 4000000 in
theorem refFromInt_any (i : Int) (w : World) (h0 : -9223372036854775808 ≤ i) (h1 : i ≤ 9223372036854775807) :
    Calls Try.prog 28 #[.int .i64 i] w fun e w' => e = .returned (.int .u64 (fromS i : Nat)) ∧ Below w.heap.size w w' := by
  by_cases hz : i = 0
  · have b0 : (i == 0) = true := by simpa using hz
    have R := Lib.hid (show 0 = fromS i by unfold fromS; rw [if_pos hz])
    clear hz
    go_enter Try.func28, Try.ntmps28
    go_wp2
    go_ret
    exact ⟨ret_u64n R.out, Below.refl _ _⟩
  · have b0 : (i == 0) = false := by simpa using hz
    obtain ⟨u, hu⟩ : ∃ u : Nat, i.natAbs = u := ⟨_, rfl⟩
    have hu0 : 0 < u := by omega
    have hu1 : u ≤ 9223372036854775808 := by omega
    obtain ⟨s, hs⟩ : ∃ s : Nat, (if i < 0 then 9223372036854775808 else 0) = s := ⟨_, rfl⟩
    have R := Lib.hid (show fromS i = s + rungI u by unfold fromS; rw [if_neg hz, hs, hu])
    have hs2 : s = 0 ∨ s = 9223372036854775808 := by rw [← hs]; split <;> omega
    by_cases hn : i < 0
    · have hd : decide (i < 0) = true := by simpa using hn
      have hw1 : IntKind.u64.wrap (-IntKind.u64.wrap i) = (u : Int) := by simp only [IntKind.wrap_u64]; omega
      have hw2 : IntKind.u64.wrap (0 - IntKind.u64.wrap i) = (u : Int) := by simp only [IntKind.wrap_u64]; omega
      have hsv : s = 9223372036854775808 := by rw [← hs, if_pos hn]
      have hsv := Lib.hid hsv
      clear hs hu hz hn
      go_enter Try.func28, Try.ntmps28
      go_wp2
      go_loop [5, 6] (fun nv kv => ∃ (j v : Nat), nv = .int .i64 (j : Int) ∧ kv = .int .u64 (v : Int) ∧ j ≤ u.log2 + 1 ∧ j ≤ 64 ∧ Hid (v = u / 2 ^ j) ∧ v < 18446744073709551616) (fun _ kv => (intOf kv).toNat)
      case atStart => exact ⟨0, u, rfl, rfl, by omega, by omega, by show _ = _; simp, by omega⟩
      case round =>
        obtain ⟨j, v, rfl, rfl, hj, hj64, hv, hvl⟩ := hrel
        have HV := Lib.hid hv
        clear hv
        by_cases hk : 0 < v
        · have hd2 : decide (0 < v) = true := by simpa using hk
          have hj2 : j ≤ u.log2 := by
            have hv := HV.out.out
            rcases Nat.lt_or_ge u.log2 j with h | h
            · exfalso
              obtain rfl : j = u.log2 + 1 := by omega
              rw [Nat.div_eq_of_lt (log2_bounds hu0).2] at hv
              omega
            · exact h
          have hl63 : u.log2 ≤ 63 := by
            have := (Nat.log2_lt (show u ≠ 0 by omega) (k := 64)).2 (by omega)
            omega
          have HJ := Lib.hid hj2
          clear hj
          go_wp2
          go_round
          case rel => exact ⟨j + 1, v / 2, by go_num, by go_num, by have := HJ.out; omega, by have := HJ.out; omega, (by show _ = _; rw [HV.out.out, div_pow_succ]), by omega⟩
          case measure => simp [intOf]; omega
        · have hd2 : decide (0 < v) = false := by simpa using hk
          obtain rfl : v = 0 := by omega
          have hjl : j = u.log2 + 1 := by
            have hv := HV.out.out
            have h2 := (log2_bounds hu0).1
            rcases Nat.lt_or_ge j (u.log2 + 1) with h | h
            · exfalso
              have h3 := Nat.pow_le_pow_right (show 0 < 2 by decide) (show j ≤ u.log2 by omega)
              have h4 : 0 < u / 2 ^ j := Nat.div_pos (by omega) (Nat.two_pow_pos _)
              omega
            · omega
          have HJl := Lib.hid hjl
          clear hk hj hjl
          by_cases hA : j ≤ 53
          · have hd3 : decide ((j : Int) ≤ 53) = true := by simp; omega
            go_wp2
            go_ret
            refine ⟨?_, Below.refl _ _⟩
            rw [R.out]
            have := fin_A u j s HJl.out (by omega) hu0 hu1 hs2
            refine ret_u64i (Eq.trans ?_ this)
            rw [hsv.out]
            simp
          · have hd3 : decide ((j : Int) ≤ 53) = false := by simp; omega
            obtain ⟨U, hU⟩ : ∃ U : Nat, 2 ^ (u.log2 - 52) = U := ⟨_, rfl⟩
            obtain ⟨Q, hQ⟩ : ∃ Q : Nat, u / U = Q := ⟨_, rfl⟩
            obtain ⟨T, hT⟩ : ∃ T : Nat, u % U = T := ⟨_, rfl⟩
            obtain ⟨H, hH⟩ : ∃ H : Nat, U / 2 = H := ⟨_, rfl⟩
            have B := fin_B u j s U Q T HJl.out (by omega) hu0 hu1 hs2 hU hQ hT
            obtain ⟨hUp, hUe, hU63, hQ1, hQ2, hB1, hB2⟩ := B
            have g1 : IntKind.u64.wrap ((2 : Int) ^ (j - 53)) = (U : Int) := by
              rw [← hU, show j - 53 = u.log2 - 52 by have := HJl.out; omega]
              have : ((2 : Int) ^ (u.log2 - 52)) = ((2 ^ (u.log2 - 52) : Nat) : Int) := by rw [Int.natCast_pow]; rfl
              rw [this, hU, IntKind.wrap_u64]; omega
            have g2 : ¬ (U : Int) = 0 := by omega
            have g2' : ¬ U = 0 := by omega
            have g3 : (u : Int).tdiv (U : Int) = (Q : Int) := by rw [← hQ]; exact (Int.ofNat_tdiv u U).symm
            have g4 : (u : Int).tmod (U : Int) = (T : Int) := by rw [← hT]; exact (Int.ofNat_tmod u U).symm
            have g5 : (u : Int) / (U : Int) = (Q : Int) := by rw [← hQ]; exact (Int.natCast_ediv u U).symm
            have g6 : (u : Int) % (U : Int) = (T : Int) := by rw [← hT]; exact (Int.natCast_emod u U).symm
            have g7 : (U : Int) / 2 = (H : Int) := by omega
            have HB1 := Lib.hid hB1; have HB2 := Lib.hid hB2
            have hH2 : U = 2 * H := by omega
            have HH2 := Lib.hid hH2
            clear hU hQ hT hB1 hB2 hUe hH hH2
            have HL := Lib.hid (show u.log2 ≤ 63 by have := (Nat.log2_lt (show u ≠ 0 by omega) (k := 64)).2 (by omega); omega)
            by_cases m1 : H < T
            · have b1 : decide (H < T) = true := by simpa using m1
              have HF := Lib.hid (HB2.out (by have := HH2.out; omega))
              by_cases q : Q + 1 = 9007199254740992
              · have hq : ((Q : Int) + 1 == 9007199254740992) = true := by simp; omega
                go_wp2
                go_quiet (fail)
                go_wp2
                go_ret
                refine ⟨?_, ⟨rfl, rfl, rfl, Nat.le_refl _, fun _ _ => rfl⟩⟩
                rw [R.out, HF.out]
                refine ret_u64i ?_
                have := HJl.out; have := HL.out
                rw [hsv.out]
                omega
              · have hq : ((Q : Int) + 1 == 9007199254740992) = false := by simp; omega
                go_wp2
                go_quiet (fail)
                go_wp2
                go_ret
                refine ⟨?_, ⟨rfl, rfl, rfl, Nat.le_refl _, fun _ _ => rfl⟩⟩
                rw [R.out, HF.out]
                refine ret_u64i ?_
                have := HJl.out; have := HL.out
                rw [hsv.out]
                omega
            · have b1 : decide (H < T) = false := by simpa using m1
              by_cases m2 : T = H
              · have b2 : ((T : Int) == (H : Int)) = true := by simp; omega
                have b2' : (T == H) = true := by simpa using m2
                by_cases m3 : Q % 2 = 1
                · have b3 : ((Q : Int) % 2 == 1) = true := by simp; omega
                  have HF := Lib.hid (HB2.out (by have := HH2.out; omega))
                  have M2 := Lib.hid m2
                  clear m2 m3
                  by_cases q : Q + 1 = 9007199254740992
                  · have hq : ((Q : Int) + 1 == 9007199254740992) = true := by simp; omega
                    go_wp2
                    go_quiet (fail)
                    go_wp2
                    go_ret
                    refine ⟨?_, ⟨rfl, rfl, rfl, Nat.le_refl _, fun _ _ => rfl⟩⟩
                    rw [R.out, HF.out]
                    refine ret_u64i ?_
                    have := HJl.out; have := HL.out
                    rw [hsv.out]
                    omega
                  · have hq : ((Q : Int) + 1 == 9007199254740992) = false := by simp; omega
                    go_wp2
                    go_quiet (fail)
                    go_wp2
                    go_ret
                    refine ⟨?_, ⟨rfl, rfl, rfl, Nat.le_refl _, fun _ _ => rfl⟩⟩
                    rw [R.out, HF.out]
                    refine ret_u64i ?_
                    have := HJl.out; have := HL.out
                    rw [hsv.out]
                    omega
                · have b3 : ((Q : Int) % 2 == 1) = false := by simp; omega
                  have HF := Lib.hid (HB1.out (by have := HH2.out; omega))
                  have hq : ((Q : Int) == 9007199254740992) = false := by simp; omega
                  have M2 := Lib.hid m2
                  clear m2 m3
                  go_wp2
                  go_quiet (fail)
                  go_wp2
                  go_ret
                  refine ⟨?_, ⟨rfl, rfl, rfl, Nat.le_refl _, fun _ _ => rfl⟩⟩
                  rw [R.out, HF.out]
                  refine ret_u64i ?_
                  have := HJl.out; have := HL.out
                  rw [hsv.out]
                  omega
              · have b2 : ((T : Int) == (H : Int)) = false := by simp; omega
                have b2' : (T == H) = false := by simpa using m2
                have HF := Lib.hid (HB1.out (by have := HH2.out; omega))
                have hq : ((Q : Int) == 9007199254740992) = false := by simp; omega
                go_wp2
                go_quiet (fail)
                go_wp2
                go_ret
                refine ⟨?_, ⟨rfl, rfl, rfl, Nat.le_refl _, fun _ _ => rfl⟩⟩
                rw [R.out, HF.out]
                refine ret_u64i ?_
                have := HJl.out; have := HL.out
                rw [hsv.out]
                omega
    · have hd : decide (i < 0) = false := by simpa using hn
      have hw1 : IntKind.u64.wrap i = (u : Int) := by simp only [IntKind.wrap_u64]; omega
      have hsv : s = 0 := by rw [← hs, if_neg hn]
      have hsv := Lib.hid hsv
      clear hs hu hz hn
      go_enter Try.func28, Try.ntmps28
      go_wp2
      go_loop [5, 6] (fun nv kv => ∃ (j v : Nat), nv = .int .i64 (j : Int) ∧ kv = .int .u64 (v : Int) ∧ j ≤ u.log2 + 1 ∧ j ≤ 64 ∧ Hid (v = u / 2 ^ j) ∧ v < 18446744073709551616) (fun _ kv => (intOf kv).toNat)
      case atStart => exact ⟨0, u, rfl, rfl, by omega, by omega, by show _ = _; simp, by omega⟩
      case round =>
        obtain ⟨j, v, rfl, rfl, hj, hj64, hv, hvl⟩ := hrel
        have HV := Lib.hid hv
        clear hv
        by_cases hk : 0 < v
        · have hd2 : decide (0 < v) = true := by simpa using hk
          have hj2 : j ≤ u.log2 := by
            have hv := HV.out.out
            rcases Nat.lt_or_ge u.log2 j with h | h
            · exfalso
              obtain rfl : j = u.log2 + 1 := by omega
              rw [Nat.div_eq_of_lt (log2_bounds hu0).2] at hv
              omega
            · exact h
          have hl63 : u.log2 ≤ 63 := by
            have := (Nat.log2_lt (show u ≠ 0 by omega) (k := 64)).2 (by omega)
            omega
          have HJ := Lib.hid hj2
          clear hj
          go_wp2
          go_round
          case rel => exact ⟨j + 1, v / 2, by go_num, by go_num, by have := HJ.out; omega, by have := HJ.out; omega, (by show _ = _; rw [HV.out.out, div_pow_succ]), by omega⟩
          case measure => simp [intOf]; omega
        · have hd2 : decide (0 < v) = false := by simpa using hk
          obtain rfl : v = 0 := by omega
          have hjl : j = u.log2 + 1 := by
            have hv := HV.out.out
            have h2 := (log2_bounds hu0).1
            rcases Nat.lt_or_ge j (u.log2 + 1) with h | h
            · exfalso
              have h3 := Nat.pow_le_pow_right (show 0 < 2 by decide) (show j ≤ u.log2 by omega)
              have h4 : 0 < u / 2 ^ j := Nat.div_pos (by omega) (Nat.two_pow_pos _)
              omega
            · omega
          have HJl := Lib.hid hjl
          clear hk hj hjl
          by_cases hA : j ≤ 53
          · have hd3 : decide ((j : Int) ≤ 53) = true := by simp; omega
            go_wp2
            go_ret
            refine ⟨?_, Below.refl _ _⟩
            rw [R.out]
            have := fin_A u j s HJl.out (by omega) hu0 hu1 hs2
            refine ret_u64i (Eq.trans ?_ this)
            rw [hsv.out]
            simp
          · have hd3 : decide ((j : Int) ≤ 53) = false := by simp; omega
            obtain ⟨U, hU⟩ : ∃ U : Nat, 2 ^ (u.log2 - 52) = U := ⟨_, rfl⟩
            obtain ⟨Q, hQ⟩ : ∃ Q : Nat, u / U = Q := ⟨_, rfl⟩
            obtain ⟨T, hT⟩ : ∃ T : Nat, u % U = T := ⟨_, rfl⟩
            obtain ⟨H, hH⟩ : ∃ H : Nat, U / 2 = H := ⟨_, rfl⟩
            have B := fin_B u j s U Q T HJl.out (by omega) hu0 hu1 hs2 hU hQ hT
            obtain ⟨hUp, hUe, hU63, hQ1, hQ2, hB1, hB2⟩ := B
            have g1 : IntKind.u64.wrap ((2 : Int) ^ (j - 53)) = (U : Int) := by
              rw [← hU, show j - 53 = u.log2 - 52 by have := HJl.out; omega]
              have : ((2 : Int) ^ (u.log2 - 52)) = ((2 ^ (u.log2 - 52) : Nat) : Int) := by rw [Int.natCast_pow]; rfl
              rw [this, hU, IntKind.wrap_u64]; omega
            have g2 : ¬ (U : Int) = 0 := by omega
            have g2' : ¬ U = 0 := by omega
            have g3 : (u : Int).tdiv (U : Int) = (Q : Int) := by rw [← hQ]; exact (Int.ofNat_tdiv u U).symm
            have g4 : (u : Int).tmod (U : Int) = (T : Int) := by rw [← hT]; exact (Int.ofNat_tmod u U).symm
            have g5 : (u : Int) / (U : Int) = (Q : Int) := by rw [← hQ]; exact (Int.natCast_ediv u U).symm
            have g6 : (u : Int) % (U : Int) = (T : Int) := by rw [← hT]; exact (Int.natCast_emod u U).symm
            have g7 : (U : Int) / 2 = (H : Int) := by omega
            have HB1 := Lib.hid hB1; have HB2 := Lib.hid hB2
            have hH2 : U = 2 * H := by omega
            have HH2 := Lib.hid hH2
            clear hU hQ hT hB1 hB2 hUe hH hH2
            have HL := Lib.hid (show u.log2 ≤ 63 by have := (Nat.log2_lt (show u ≠ 0 by omega) (k := 64)).2 (by omega); omega)
            by_cases m1 : H < T
            · have b1 : decide (H < T) = true := by simpa using m1
              have HF := Lib.hid (HB2.out (by have := HH2.out; omega))
              by_cases q : Q + 1 = 9007199254740992
              · have hq : ((Q : Int) + 1 == 9007199254740992) = true := by simp; omega
                go_wp2
                go_quiet (fail)
                go_wp2
                go_ret
                refine ⟨?_, ⟨rfl, rfl, rfl, Nat.le_refl _, fun _ _ => rfl⟩⟩
                rw [R.out, HF.out]
                refine ret_u64i ?_
                have := HJl.out; have := HL.out
                rw [hsv.out]
                omega
              · have hq : ((Q : Int) + 1 == 9007199254740992) = false := by simp; omega
                go_wp2
                go_quiet (fail)
                go_wp2
                go_ret
                refine ⟨?_, ⟨rfl, rfl, rfl, Nat.le_refl _, fun _ _ => rfl⟩⟩
                rw [R.out, HF.out]
                refine ret_u64i ?_
                have := HJl.out; have := HL.out
                rw [hsv.out]
                omega
            · have b1 : decide (H < T) = false := by simpa using m1
              by_cases m2 : T = H
              · have b2 : ((T : Int) == (H : Int)) = true := by simp; omega
                have b2' : (T == H) = true := by simpa using m2
                by_cases m3 : Q % 2 = 1
                · have b3 : ((Q : Int) % 2 == 1) = true := by simp; omega
                  have HF := Lib.hid (HB2.out (by have := HH2.out; omega))
                  have M2 := Lib.hid m2
                  clear m2 m3
                  by_cases q : Q + 1 = 9007199254740992
                  · have hq : ((Q : Int) + 1 == 9007199254740992) = true := by simp; omega
                    go_wp2
                    go_quiet (fail)
                    go_wp2
                    go_ret
                    refine ⟨?_, ⟨rfl, rfl, rfl, Nat.le_refl _, fun _ _ => rfl⟩⟩
                    rw [R.out, HF.out]
                    refine ret_u64i ?_
                    have := HJl.out; have := HL.out
                    rw [hsv.out]
                    omega
                  · have hq : ((Q : Int) + 1 == 9007199254740992) = false := by simp; omega
                    go_wp2
                    go_quiet (fail)
                    go_wp2
                    go_ret
                    refine ⟨?_, ⟨rfl, rfl, rfl, Nat.le_refl _, fun _ _ => rfl⟩⟩
                    rw [R.out, HF.out]
                    refine ret_u64i ?_
                    have := HJl.out; have := HL.out
                    rw [hsv.out]
                    omega
                · have b3 : ((Q : Int) % 2 == 1) = false := by simp; omega
                  have HF := Lib.hid (HB1.out (by have := HH2.out; omega))
                  have hq : ((Q : Int) == 9007199254740992) = false := by simp; omega
                  have M2 := Lib.hid m2
                  clear m2 m3
                  go_wp2
                  go_quiet (fail)
                  go_wp2
                  go_ret
                  refine ⟨?_, ⟨rfl, rfl, rfl, Nat.le_refl _, fun _ _ => rfl⟩⟩
                  rw [R.out, HF.out]
                  refine ret_u64i ?_
                  have := HJl.out; have := HL.out
                  rw [hsv.out]
                  omega
              · have b2 : ((T : Int) == (H : Int)) = false := by simp; omega
                have b2' : (T == H) = false := by simpa using m2
                have HF := Lib.hid (HB1.out (by have := HH2.out; omega))
                have hq : ((Q : Int) == 9007199254740992) = false := by simp; omega
                go_wp2
                go_quiet (fail)
                go_wp2
                go_ret
                refine ⟨?_, ⟨rfl, rfl, rfl, Nat.le_refl _, fun _ _ => rfl⟩⟩
                rw [R.out, HF.out]
                refine ret_u64i ?_
                have := HJl.out; have := HL.out
                rw [hsv.out]
                omega
end Go.Proofs.Ytmjpemddndjcpaa
