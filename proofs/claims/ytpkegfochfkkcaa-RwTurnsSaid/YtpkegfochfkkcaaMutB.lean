/- Layer 15: frames as cells; what the document's own Bit, Begin and state answer; no condition but those in each theorem. -/
import Derived.Test.YtpkegfochfkkcaaMutP
import Derived.Test.YtpkegfochfkkcaaAreG
namespace Go.Proofs.Ytpkegfochfkkcaa
set_option linter.unusedVariables false
set_option linter.unusedSimpArgs false
open Go.RowKit
theorem shr_div (x : Int) (k : Nat) : x >>> k = x / 2 ^ k := by rw [Int.shiftRight_eq_div_pow]; norm_cast
theorem odd_ne (x : Int) : (x.tmod 2 != 0) = decide (x % 2 = 1) := by
  have h := Int.tmod_eq_emod (a := x) (b := 2)
  by_cases h1 : x % 2 = 1
  · rw [decide_eq_true h1]
    have : x.tmod 2 ≠ 0 := fun h2 => by have := Int.dvd_of_tmod_eq_zero h2; omega
    simpa using this
  · rw [decide_eq_false h1]
    have h2 : x % 2 = 0 := by omega
    have : x.tmod 2 = 0 := Int.tmod_eq_zero_of_dvd (Int.dvd_of_emod_eq_zero h2)
    simp [this]
set_option maxRecDepth 100000 in
set_option maxHeartbeats 8000000 in
theorem bit15_any (x : Int) (k : Nat) (hk : k ≤ 2) (w : World) : Calls Try.prog 47 #[.int .i64 x, .int .i64 (k : Int)] w (fun e w' => e = .returned (.bool (decide (hasBit x k))) ∧ w' = w) := by
  obtain ⟨y, hy⟩ : ∃ y, x / 2 ^ k = y := ⟨_, rfl⟩
  have hR : (y.tmod 2 != 0) = decide (hasBit x k) := by rw [odd_ne]; exact decide_eq_decide.2 (by unfold hasBit; rw [hy])
  obtain ⟨R, hR2⟩ : ∃ R, decide (hasBit x k) = R := ⟨_, rfl⟩
  rw [hR2] at hR
  rw [hR2]
  clear hR2
  go_enter Try.func47, Try.ntmps47
  go_wp2
  go_ret
  exact ⟨rfl, rfl⟩
set_option maxRecDepth 100000 in
set_option maxHeartbeats 8000000 in
theorem state15_any (f : MFr) (w : World) : Calls Try.prog 46 #[frV f] w (fun e w' => e = .returned (.int .i64 (stateM f)) ∧ Below w.heap.size w w') := by
  rw [stateB]
  obtain ⟨op, stage, phase, old, since, left, awoke, starve, need, front⟩ := f
  unfold frV frC
  simp only
  have B0 := fun (W : World) => (show Calls Try.prog 47 #[.int .i64 old, .int .i64 0] W (fun e w2 => e = .returned (.bool (decide (hasBit old 0))) ∧ w2 = W) from bit15_any old 0 (by omega) W)
  have B1 := fun (W : World) => (show Calls Try.prog 47 #[.int .i64 old, .int .i64 1] W (fun e w2 => e = .returned (.bool (decide (hasBit old 1))) ∧ w2 = W) from bit15_any old 1 (by omega) W)
  have B2 := fun (W : World) => (show Calls Try.prog 47 #[.int .i64 old, .int .i64 2] W (fun e w2 => e = .returned (.bool (decide (hasBit old 2))) ∧ w2 = W) from bit15_any old 2 (by omega) W)
  generalize decide (hasBit old 0) = b0 at *
  generalize decide (hasBit old 1) = b1 at *
  generalize decide (hasBit old 2) = b2 at *
  replace B0 := Lib.hid B0; replace B1 := Lib.hid B1; replace B2 := Lib.hid B2
  obtain ⟨r, hr⟩ : ∃ r, stB old b0 b1 b2 starve awoke = r := ⟨_, rfl⟩
  rw [hr]
  obtain ⟨v1, hv1, z1, F⟩ := boxes1 w (.cells #[.int .i64 op, .int .i64 stage, .int .i64 phase, .int .i64 old, .int .i64 since, .int .i64 left, .bool awoke, .bool starve, .int .i64 need, .bool front] 31)
  generalize hq : w.heap.size = q at *
  have FR := Lib.hid F
  clear F
  have c00 : v1.cell? ⟨q, 0, none⟩ = some (.int .i64 op) := FR.out.cell 0 0 rfl rfl rfl
  have c01 : v1.cell? ⟨q, 1, none⟩ = some (.int .i64 stage) := FR.out.cell 0 1 rfl rfl rfl
  have c02 : v1.cell? ⟨q, 2, none⟩ = some (.int .i64 phase) := FR.out.cell 0 2 rfl rfl rfl
  have c03 : v1.cell? ⟨q, 3, none⟩ = some (.int .i64 old) := FR.out.cell 0 3 rfl rfl rfl
  have c04 : v1.cell? ⟨q, 4, none⟩ = some (.int .i64 since) := FR.out.cell 0 4 rfl rfl rfl
  have c05 : v1.cell? ⟨q, 5, none⟩ = some (.int .i64 left) := FR.out.cell 0 5 rfl rfl rfl
  have c06 : v1.cell? ⟨q, 6, none⟩ = some (.bool awoke) := FR.out.cell 0 6 rfl rfl rfl
  have c07 : v1.cell? ⟨q, 7, none⟩ = some (.bool starve) := FR.out.cell 0 7 rfl rfl rfl
  have c08 : v1.cell? ⟨q, 8, none⟩ = some (.int .i64 need) := FR.out.cell 0 8 rfl rfl rfl
  have c09 : v1.cell? ⟨q, 9, none⟩ = some (.bool front) := FR.out.cell 0 9 rfl rfl rfl
  cases b0
  · cases b2
    · cases starve
      · cases awoke
        · cases b1
          · have HR := Lib.hid hr
            clear hr
            go_enter Try.func46, Try.ntmps46
            go_wp2_with fail
            refine (B2.out _).mono ?_
            rintro e w1 ⟨rfl, rfl⟩
            go_wp2_with fail
            refine (B0.out _).mono ?_
            rintro e w1 ⟨rfl, rfl⟩
            go_wp2_with fail
            refine (B0.out _).mono ?_
            rintro e w1 ⟨rfl, rfl⟩
            go_wp2_with fail
            refine (B2.out _).mono ?_
            rintro e w1 ⟨rfl, rfl⟩
            go_wp2
            go_ret
            refine ⟨?_, FR.out.bel⟩
            have h := HR.out
            rw [← h]
            congr 2
            simp only [stB, IntKind.wrap_i64]
            simp
            try first | (simp only [wrap64]; done) | (simp only [wrap64]; omega)
          · have HR := Lib.hid hr
            clear hr
            go_enter Try.func46, Try.ntmps46
            go_wp2_with fail
            refine (B2.out _).mono ?_
            rintro e w1 ⟨rfl, rfl⟩
            go_wp2_with fail
            refine (B0.out _).mono ?_
            rintro e w1 ⟨rfl, rfl⟩
            go_wp2_with fail
            refine (B0.out _).mono ?_
            rintro e w1 ⟨rfl, rfl⟩
            go_wp2_with fail
            refine (B2.out _).mono ?_
            rintro e w1 ⟨rfl, rfl⟩
            go_wp2
            go_ret
            refine ⟨?_, FR.out.bel⟩
            have h := HR.out
            rw [← h]
            congr 2
            simp only [stB, IntKind.wrap_i64]
            simp
            try first | (simp only [wrap64]; done) | (simp only [wrap64]; omega)
        · cases b1
          · have HR := Lib.hid hr
            clear hr
            go_enter Try.func46, Try.ntmps46
            go_wp2_with fail
            refine (B2.out _).mono ?_
            rintro e w1 ⟨rfl, rfl⟩
            go_wp2_with fail
            refine (B0.out _).mono ?_
            rintro e w1 ⟨rfl, rfl⟩
            go_wp2_with fail
            refine (B0.out _).mono ?_
            rintro e w1 ⟨rfl, rfl⟩
            go_wp2_with fail
            refine (B2.out _).mono ?_
            rintro e w1 ⟨rfl, rfl⟩
            go_wp2_with fail
            refine (B1.out _).mono ?_
            rintro e w1 ⟨rfl, rfl⟩
            go_wp2
            go_ret
            refine ⟨?_, FR.out.bel⟩
            have h := HR.out
            rw [← h]
            congr 2
            simp only [stB, IntKind.wrap_i64]
            simp
            try first | (simp only [wrap64]; done) | (simp only [wrap64]; omega)
          · have HR := Lib.hid hr
            clear hr
            go_enter Try.func46, Try.ntmps46
            go_wp2_with fail
            refine (B2.out _).mono ?_
            rintro e w1 ⟨rfl, rfl⟩
            go_wp2_with fail
            refine (B0.out _).mono ?_
            rintro e w1 ⟨rfl, rfl⟩
            go_wp2_with fail
            refine (B0.out _).mono ?_
            rintro e w1 ⟨rfl, rfl⟩
            go_wp2_with fail
            refine (B2.out _).mono ?_
            rintro e w1 ⟨rfl, rfl⟩
            go_wp2_with fail
            refine (B1.out _).mono ?_
            rintro e w1 ⟨rfl, rfl⟩
            go_wp2
            go_ret
            refine ⟨?_, FR.out.bel⟩
            have h := HR.out
            rw [← h]
            congr 2
            simp only [stB, IntKind.wrap_i64]
            simp
            try first | (simp only [wrap64]; done) | (simp only [wrap64]; omega)
      · cases awoke
        · cases b1
          · have HR := Lib.hid hr
            clear hr
            go_enter Try.func46, Try.ntmps46
            go_wp2_with fail
            refine (B2.out _).mono ?_
            rintro e w1 ⟨rfl, rfl⟩
            go_wp2_with fail
            refine (B0.out _).mono ?_
            rintro e w1 ⟨rfl, rfl⟩
            go_wp2_with fail
            refine (B0.out _).mono ?_
            rintro e w1 ⟨rfl, rfl⟩
            go_wp2_with fail
            refine (B2.out _).mono ?_
            rintro e w1 ⟨rfl, rfl⟩
            go_wp2_with fail
            refine (B0.out _).mono ?_
            rintro e w1 ⟨rfl, rfl⟩
            go_wp2
            go_ret
            refine ⟨?_, FR.out.bel⟩
            have h := HR.out
            rw [← h]
            congr 2
            simp only [stB, IntKind.wrap_i64]
            simp
            try first | (simp only [wrap64]; done) | (simp only [wrap64]; omega)
          · have HR := Lib.hid hr
            clear hr
            go_enter Try.func46, Try.ntmps46
            go_wp2_with fail
            refine (B2.out _).mono ?_
            rintro e w1 ⟨rfl, rfl⟩
            go_wp2_with fail
            refine (B0.out _).mono ?_
            rintro e w1 ⟨rfl, rfl⟩
            go_wp2_with fail
            refine (B0.out _).mono ?_
            rintro e w1 ⟨rfl, rfl⟩
            go_wp2_with fail
            refine (B2.out _).mono ?_
            rintro e w1 ⟨rfl, rfl⟩
            go_wp2_with fail
            refine (B0.out _).mono ?_
            rintro e w1 ⟨rfl, rfl⟩
            go_wp2
            go_ret
            refine ⟨?_, FR.out.bel⟩
            have h := HR.out
            rw [← h]
            congr 2
            simp only [stB, IntKind.wrap_i64]
            simp
            try first | (simp only [wrap64]; done) | (simp only [wrap64]; omega)
        · cases b1
          · have HR := Lib.hid hr
            clear hr
            go_enter Try.func46, Try.ntmps46
            go_wp2_with fail
            refine (B2.out _).mono ?_
            rintro e w1 ⟨rfl, rfl⟩
            go_wp2_with fail
            refine (B0.out _).mono ?_
            rintro e w1 ⟨rfl, rfl⟩
            go_wp2_with fail
            refine (B0.out _).mono ?_
            rintro e w1 ⟨rfl, rfl⟩
            go_wp2_with fail
            refine (B2.out _).mono ?_
            rintro e w1 ⟨rfl, rfl⟩
            go_wp2_with fail
            refine (B0.out _).mono ?_
            rintro e w1 ⟨rfl, rfl⟩
            go_wp2_with fail
            refine (B1.out _).mono ?_
            rintro e w1 ⟨rfl, rfl⟩
            go_wp2
            go_ret
            refine ⟨?_, FR.out.bel⟩
            have h := HR.out
            rw [← h]
            congr 2
            simp only [stB, IntKind.wrap_i64]
            simp
            try first | (simp only [wrap64]; done) | (simp only [wrap64]; omega)
          · have HR := Lib.hid hr
            clear hr
            go_enter Try.func46, Try.ntmps46
            go_wp2_with fail
            refine (B2.out _).mono ?_
            rintro e w1 ⟨rfl, rfl⟩
            go_wp2_with fail
            refine (B0.out _).mono ?_
            rintro e w1 ⟨rfl, rfl⟩
            go_wp2_with fail
            refine (B0.out _).mono ?_
            rintro e w1 ⟨rfl, rfl⟩
            go_wp2_with fail
            refine (B2.out _).mono ?_
            rintro e w1 ⟨rfl, rfl⟩
            go_wp2_with fail
            refine (B0.out _).mono ?_
            rintro e w1 ⟨rfl, rfl⟩
            go_wp2_with fail
            refine (B1.out _).mono ?_
            rintro e w1 ⟨rfl, rfl⟩
            go_wp2
            go_ret
            refine ⟨?_, FR.out.bel⟩
            have h := HR.out
            rw [← h]
            congr 2
            simp only [stB, IntKind.wrap_i64]
            simp
            try first | (simp only [wrap64]; done) | (simp only [wrap64]; omega)
    · cases starve
      · cases awoke
        · cases b1
          · have HR := Lib.hid hr
            clear hr
            go_enter Try.func46, Try.ntmps46
            go_wp2_with fail
            refine (B2.out _).mono ?_
            rintro e w1 ⟨rfl, rfl⟩
            go_wp2_with fail
            refine (B0.out _).mono ?_
            rintro e w1 ⟨rfl, rfl⟩
            go_wp2_with fail
            refine (B2.out _).mono ?_
            rintro e w1 ⟨rfl, rfl⟩
            go_wp2
            go_ret
            refine ⟨?_, FR.out.bel⟩
            have h := HR.out
            rw [← h]
            congr 2
            simp only [stB, IntKind.wrap_i64]
            simp
            try first | (simp only [wrap64]; done) | (simp only [wrap64]; omega)
          · have HR := Lib.hid hr
            clear hr
            go_enter Try.func46, Try.ntmps46
            go_wp2_with fail
            refine (B2.out _).mono ?_
            rintro e w1 ⟨rfl, rfl⟩
            go_wp2_with fail
            refine (B0.out _).mono ?_
            rintro e w1 ⟨rfl, rfl⟩
            go_wp2_with fail
            refine (B2.out _).mono ?_
            rintro e w1 ⟨rfl, rfl⟩
            go_wp2
            go_ret
            refine ⟨?_, FR.out.bel⟩
            have h := HR.out
            rw [← h]
            congr 2
            simp only [stB, IntKind.wrap_i64]
            simp
            try first | (simp only [wrap64]; done) | (simp only [wrap64]; omega)
        · cases b1
          · have HR := Lib.hid hr
            clear hr
            go_enter Try.func46, Try.ntmps46
            go_wp2_with fail
            refine (B2.out _).mono ?_
            rintro e w1 ⟨rfl, rfl⟩
            go_wp2_with fail
            refine (B0.out _).mono ?_
            rintro e w1 ⟨rfl, rfl⟩
            go_wp2_with fail
            refine (B2.out _).mono ?_
            rintro e w1 ⟨rfl, rfl⟩
            go_wp2_with fail
            refine (B1.out _).mono ?_
            rintro e w1 ⟨rfl, rfl⟩
            go_wp2
            go_ret
            refine ⟨?_, FR.out.bel⟩
            have h := HR.out
            rw [← h]
            congr 2
            simp only [stB, IntKind.wrap_i64]
            simp
            try first | (simp only [wrap64]; done) | (simp only [wrap64]; omega)
          · have HR := Lib.hid hr
            clear hr
            go_enter Try.func46, Try.ntmps46
            go_wp2_with fail
            refine (B2.out _).mono ?_
            rintro e w1 ⟨rfl, rfl⟩
            go_wp2_with fail
            refine (B0.out _).mono ?_
            rintro e w1 ⟨rfl, rfl⟩
            go_wp2_with fail
            refine (B2.out _).mono ?_
            rintro e w1 ⟨rfl, rfl⟩
            go_wp2_with fail
            refine (B1.out _).mono ?_
            rintro e w1 ⟨rfl, rfl⟩
            go_wp2
            go_ret
            refine ⟨?_, FR.out.bel⟩
            have h := HR.out
            rw [← h]
            congr 2
            simp only [stB, IntKind.wrap_i64]
            simp
            try first | (simp only [wrap64]; done) | (simp only [wrap64]; omega)
      · cases awoke
        · cases b1
          · have HR := Lib.hid hr
            clear hr
            go_enter Try.func46, Try.ntmps46
            go_wp2_with fail
            refine (B2.out _).mono ?_
            rintro e w1 ⟨rfl, rfl⟩
            go_wp2_with fail
            refine (B0.out _).mono ?_
            rintro e w1 ⟨rfl, rfl⟩
            go_wp2_with fail
            refine (B2.out _).mono ?_
            rintro e w1 ⟨rfl, rfl⟩
            go_wp2_with fail
            refine (B0.out _).mono ?_
            rintro e w1 ⟨rfl, rfl⟩
            go_wp2
            go_ret
            refine ⟨?_, FR.out.bel⟩
            have h := HR.out
            rw [← h]
            congr 2
            simp only [stB, IntKind.wrap_i64]
            simp
            try first | (simp only [wrap64]; done) | (simp only [wrap64]; omega)
          · have HR := Lib.hid hr
            clear hr
            go_enter Try.func46, Try.ntmps46
            go_wp2_with fail
            refine (B2.out _).mono ?_
            rintro e w1 ⟨rfl, rfl⟩
            go_wp2_with fail
            refine (B0.out _).mono ?_
            rintro e w1 ⟨rfl, rfl⟩
            go_wp2_with fail
            refine (B2.out _).mono ?_
            rintro e w1 ⟨rfl, rfl⟩
            go_wp2_with fail
            refine (B0.out _).mono ?_
            rintro e w1 ⟨rfl, rfl⟩
            go_wp2
            go_ret
            refine ⟨?_, FR.out.bel⟩
            have h := HR.out
            rw [← h]
            congr 2
            simp only [stB, IntKind.wrap_i64]
            simp
            try first | (simp only [wrap64]; done) | (simp only [wrap64]; omega)
        · cases b1
          · have HR := Lib.hid hr
            clear hr
            go_enter Try.func46, Try.ntmps46
            go_wp2_with fail
            refine (B2.out _).mono ?_
            rintro e w1 ⟨rfl, rfl⟩
            go_wp2_with fail
            refine (B0.out _).mono ?_
            rintro e w1 ⟨rfl, rfl⟩
            go_wp2_with fail
            refine (B2.out _).mono ?_
            rintro e w1 ⟨rfl, rfl⟩
            go_wp2_with fail
            refine (B0.out _).mono ?_
            rintro e w1 ⟨rfl, rfl⟩
            go_wp2_with fail
            refine (B1.out _).mono ?_
            rintro e w1 ⟨rfl, rfl⟩
            go_wp2
            go_ret
            refine ⟨?_, FR.out.bel⟩
            have h := HR.out
            rw [← h]
            congr 2
            simp only [stB, IntKind.wrap_i64]
            simp
            try first | (simp only [wrap64]; done) | (simp only [wrap64]; omega)
          · have HR := Lib.hid hr
            clear hr
            go_enter Try.func46, Try.ntmps46
            go_wp2_with fail
            refine (B2.out _).mono ?_
            rintro e w1 ⟨rfl, rfl⟩
            go_wp2_with fail
            refine (B0.out _).mono ?_
            rintro e w1 ⟨rfl, rfl⟩
            go_wp2_with fail
            refine (B2.out _).mono ?_
            rintro e w1 ⟨rfl, rfl⟩
            go_wp2_with fail
            refine (B0.out _).mono ?_
            rintro e w1 ⟨rfl, rfl⟩
            go_wp2_with fail
            refine (B1.out _).mono ?_
            rintro e w1 ⟨rfl, rfl⟩
            go_wp2
            go_ret
            refine ⟨?_, FR.out.bel⟩
            have h := HR.out
            rw [← h]
            congr 2
            simp only [stB, IntKind.wrap_i64]
            simp
            try first | (simp only [wrap64]; done) | (simp only [wrap64]; omega)
  · cases b2
    · cases starve
      · cases awoke
        · cases b1
          · have HR := Lib.hid hr
            clear hr
            go_enter Try.func46, Try.ntmps46
            go_wp2_with fail
            refine (B2.out _).mono ?_
            rintro e w1 ⟨rfl, rfl⟩
            go_wp2_with fail
            refine (B0.out _).mono ?_
            rintro e w1 ⟨rfl, rfl⟩
            go_wp2_with fail
            refine (B0.out _).mono ?_
            rintro e w1 ⟨rfl, rfl⟩
            go_wp2
            go_ret
            refine ⟨?_, FR.out.bel⟩
            have h := HR.out
            rw [← h]
            congr 2
            simp only [stB, IntKind.wrap_i64]
            simp
            try first | (simp only [wrap64]; done) | (simp only [wrap64]; omega)
          · have HR := Lib.hid hr
            clear hr
            go_enter Try.func46, Try.ntmps46
            go_wp2_with fail
            refine (B2.out _).mono ?_
            rintro e w1 ⟨rfl, rfl⟩
            go_wp2_with fail
            refine (B0.out _).mono ?_
            rintro e w1 ⟨rfl, rfl⟩
            go_wp2_with fail
            refine (B0.out _).mono ?_
            rintro e w1 ⟨rfl, rfl⟩
            go_wp2
            go_ret
            refine ⟨?_, FR.out.bel⟩
            have h := HR.out
            rw [← h]
            congr 2
            simp only [stB, IntKind.wrap_i64]
            simp
            try first | (simp only [wrap64]; done) | (simp only [wrap64]; omega)
        · cases b1
          · have HR := Lib.hid hr
            clear hr
            go_enter Try.func46, Try.ntmps46
            go_wp2_with fail
            refine (B2.out _).mono ?_
            rintro e w1 ⟨rfl, rfl⟩
            go_wp2_with fail
            refine (B0.out _).mono ?_
            rintro e w1 ⟨rfl, rfl⟩
            go_wp2_with fail
            refine (B0.out _).mono ?_
            rintro e w1 ⟨rfl, rfl⟩
            go_wp2_with fail
            refine (B1.out _).mono ?_
            rintro e w1 ⟨rfl, rfl⟩
            go_wp2
            go_ret
            refine ⟨?_, FR.out.bel⟩
            have h := HR.out
            rw [← h]
            congr 2
            simp only [stB, IntKind.wrap_i64]
            simp
            try first | (simp only [wrap64]; done) | (simp only [wrap64]; omega)
          · have HR := Lib.hid hr
            clear hr
            go_enter Try.func46, Try.ntmps46
            go_wp2_with fail
            refine (B2.out _).mono ?_
            rintro e w1 ⟨rfl, rfl⟩
            go_wp2_with fail
            refine (B0.out _).mono ?_
            rintro e w1 ⟨rfl, rfl⟩
            go_wp2_with fail
            refine (B0.out _).mono ?_
            rintro e w1 ⟨rfl, rfl⟩
            go_wp2_with fail
            refine (B1.out _).mono ?_
            rintro e w1 ⟨rfl, rfl⟩
            go_wp2
            go_ret
            refine ⟨?_, FR.out.bel⟩
            have h := HR.out
            rw [← h]
            congr 2
            simp only [stB, IntKind.wrap_i64]
            simp
            try first | (simp only [wrap64]; done) | (simp only [wrap64]; omega)
      · cases awoke
        · cases b1
          · have HR := Lib.hid hr
            clear hr
            go_enter Try.func46, Try.ntmps46
            go_wp2_with fail
            refine (B2.out _).mono ?_
            rintro e w1 ⟨rfl, rfl⟩
            go_wp2_with fail
            refine (B0.out _).mono ?_
            rintro e w1 ⟨rfl, rfl⟩
            go_wp2_with fail
            refine (B0.out _).mono ?_
            rintro e w1 ⟨rfl, rfl⟩
            go_wp2_with fail
            refine (B0.out _).mono ?_
            rintro e w1 ⟨rfl, rfl⟩
            go_wp2_with fail
            refine (B2.out _).mono ?_
            rintro e w1 ⟨rfl, rfl⟩
            go_wp2
            go_ret
            refine ⟨?_, FR.out.bel⟩
            have h := HR.out
            rw [← h]
            congr 2
            simp only [stB, IntKind.wrap_i64]
            simp
            try first | (simp only [wrap64]; done) | (simp only [wrap64]; omega)
          · have HR := Lib.hid hr
            clear hr
            go_enter Try.func46, Try.ntmps46
            go_wp2_with fail
            refine (B2.out _).mono ?_
            rintro e w1 ⟨rfl, rfl⟩
            go_wp2_with fail
            refine (B0.out _).mono ?_
            rintro e w1 ⟨rfl, rfl⟩
            go_wp2_with fail
            refine (B0.out _).mono ?_
            rintro e w1 ⟨rfl, rfl⟩
            go_wp2_with fail
            refine (B0.out _).mono ?_
            rintro e w1 ⟨rfl, rfl⟩
            go_wp2_with fail
            refine (B2.out _).mono ?_
            rintro e w1 ⟨rfl, rfl⟩
            go_wp2
            go_ret
            refine ⟨?_, FR.out.bel⟩
            have h := HR.out
            rw [← h]
            congr 2
            simp only [stB, IntKind.wrap_i64]
            simp
            try first | (simp only [wrap64]; done) | (simp only [wrap64]; omega)
        · cases b1
          · have HR := Lib.hid hr
            clear hr
            go_enter Try.func46, Try.ntmps46
            go_wp2_with fail
            refine (B2.out _).mono ?_
            rintro e w1 ⟨rfl, rfl⟩
            go_wp2_with fail
            refine (B0.out _).mono ?_
            rintro e w1 ⟨rfl, rfl⟩
            go_wp2_with fail
            refine (B0.out _).mono ?_
            rintro e w1 ⟨rfl, rfl⟩
            go_wp2_with fail
            refine (B0.out _).mono ?_
            rintro e w1 ⟨rfl, rfl⟩
            go_wp2_with fail
            refine (B2.out _).mono ?_
            rintro e w1 ⟨rfl, rfl⟩
            go_wp2_with fail
            refine (B1.out _).mono ?_
            rintro e w1 ⟨rfl, rfl⟩
            go_wp2
            go_ret
            refine ⟨?_, FR.out.bel⟩
            have h := HR.out
            rw [← h]
            congr 2
            simp only [stB, IntKind.wrap_i64]
            simp
            try first | (simp only [wrap64]; done) | (simp only [wrap64]; omega)
          · have HR := Lib.hid hr
            clear hr
            go_enter Try.func46, Try.ntmps46
            go_wp2_with fail
            refine (B2.out _).mono ?_
            rintro e w1 ⟨rfl, rfl⟩
            go_wp2_with fail
            refine (B0.out _).mono ?_
            rintro e w1 ⟨rfl, rfl⟩
            go_wp2_with fail
            refine (B0.out _).mono ?_
            rintro e w1 ⟨rfl, rfl⟩
            go_wp2_with fail
            refine (B0.out _).mono ?_
            rintro e w1 ⟨rfl, rfl⟩
            go_wp2_with fail
            refine (B2.out _).mono ?_
            rintro e w1 ⟨rfl, rfl⟩
            go_wp2_with fail
            refine (B1.out _).mono ?_
            rintro e w1 ⟨rfl, rfl⟩
            go_wp2
            go_ret
            refine ⟨?_, FR.out.bel⟩
            have h := HR.out
            rw [← h]
            congr 2
            simp only [stB, IntKind.wrap_i64]
            simp
            try first | (simp only [wrap64]; done) | (simp only [wrap64]; omega)
    · cases starve
      · cases awoke
        · cases b1
          · have HR := Lib.hid hr
            clear hr
            go_enter Try.func46, Try.ntmps46
            go_wp2_with fail
            refine (B2.out _).mono ?_
            rintro e w1 ⟨rfl, rfl⟩
            go_wp2_with fail
            refine (B0.out _).mono ?_
            rintro e w1 ⟨rfl, rfl⟩
            go_wp2
            go_ret
            refine ⟨?_, FR.out.bel⟩
            have h := HR.out
            rw [← h]
            congr 2
            simp only [stB, IntKind.wrap_i64]
            simp
            try first | (simp only [wrap64]; done) | (simp only [wrap64]; omega)
          · have HR := Lib.hid hr
            clear hr
            go_enter Try.func46, Try.ntmps46
            go_wp2_with fail
            refine (B2.out _).mono ?_
            rintro e w1 ⟨rfl, rfl⟩
            go_wp2_with fail
            refine (B0.out _).mono ?_
            rintro e w1 ⟨rfl, rfl⟩
            go_wp2
            go_ret
            refine ⟨?_, FR.out.bel⟩
            have h := HR.out
            rw [← h]
            congr 2
            simp only [stB, IntKind.wrap_i64]
            simp
            try first | (simp only [wrap64]; done) | (simp only [wrap64]; omega)
        · cases b1
          · have HR := Lib.hid hr
            clear hr
            go_enter Try.func46, Try.ntmps46
            go_wp2_with fail
            refine (B2.out _).mono ?_
            rintro e w1 ⟨rfl, rfl⟩
            go_wp2_with fail
            refine (B0.out _).mono ?_
            rintro e w1 ⟨rfl, rfl⟩
            go_wp2_with fail
            refine (B1.out _).mono ?_
            rintro e w1 ⟨rfl, rfl⟩
            go_wp2
            go_ret
            refine ⟨?_, FR.out.bel⟩
            have h := HR.out
            rw [← h]
            congr 2
            simp only [stB, IntKind.wrap_i64]
            simp
            try first | (simp only [wrap64]; done) | (simp only [wrap64]; omega)
          · have HR := Lib.hid hr
            clear hr
            go_enter Try.func46, Try.ntmps46
            go_wp2_with fail
            refine (B2.out _).mono ?_
            rintro e w1 ⟨rfl, rfl⟩
            go_wp2_with fail
            refine (B0.out _).mono ?_
            rintro e w1 ⟨rfl, rfl⟩
            go_wp2_with fail
            refine (B1.out _).mono ?_
            rintro e w1 ⟨rfl, rfl⟩
            go_wp2
            go_ret
            refine ⟨?_, FR.out.bel⟩
            have h := HR.out
            rw [← h]
            congr 2
            simp only [stB, IntKind.wrap_i64]
            simp
            try first | (simp only [wrap64]; done) | (simp only [wrap64]; omega)
      · cases awoke
        · cases b1
          · have HR := Lib.hid hr
            clear hr
            go_enter Try.func46, Try.ntmps46
            go_wp2_with fail
            refine (B2.out _).mono ?_
            rintro e w1 ⟨rfl, rfl⟩
            go_wp2_with fail
            refine (B0.out _).mono ?_
            rintro e w1 ⟨rfl, rfl⟩
            go_wp2_with fail
            refine (B0.out _).mono ?_
            rintro e w1 ⟨rfl, rfl⟩
            go_wp2_with fail
            refine (B2.out _).mono ?_
            rintro e w1 ⟨rfl, rfl⟩
            go_wp2
            go_ret
            refine ⟨?_, FR.out.bel⟩
            have h := HR.out
            rw [← h]
            congr 2
            simp only [stB, IntKind.wrap_i64]
            simp
            try first | (simp only [wrap64]; done) | (simp only [wrap64]; omega)
          · have HR := Lib.hid hr
            clear hr
            go_enter Try.func46, Try.ntmps46
            go_wp2_with fail
            refine (B2.out _).mono ?_
            rintro e w1 ⟨rfl, rfl⟩
            go_wp2_with fail
            refine (B0.out _).mono ?_
            rintro e w1 ⟨rfl, rfl⟩
            go_wp2_with fail
            refine (B0.out _).mono ?_
            rintro e w1 ⟨rfl, rfl⟩
            go_wp2_with fail
            refine (B2.out _).mono ?_
            rintro e w1 ⟨rfl, rfl⟩
            go_wp2
            go_ret
            refine ⟨?_, FR.out.bel⟩
            have h := HR.out
            rw [← h]
            congr 2
            simp only [stB, IntKind.wrap_i64]
            simp
            try first | (simp only [wrap64]; done) | (simp only [wrap64]; omega)
        · cases b1
          · have HR := Lib.hid hr
            clear hr
            go_enter Try.func46, Try.ntmps46
            go_wp2_with fail
            refine (B2.out _).mono ?_
            rintro e w1 ⟨rfl, rfl⟩
            go_wp2_with fail
            refine (B0.out _).mono ?_
            rintro e w1 ⟨rfl, rfl⟩
            go_wp2_with fail
            refine (B0.out _).mono ?_
            rintro e w1 ⟨rfl, rfl⟩
            go_wp2_with fail
            refine (B2.out _).mono ?_
            rintro e w1 ⟨rfl, rfl⟩
            go_wp2_with fail
            refine (B1.out _).mono ?_
            rintro e w1 ⟨rfl, rfl⟩
            go_wp2
            go_ret
            refine ⟨?_, FR.out.bel⟩
            have h := HR.out
            rw [← h]
            congr 2
            simp only [stB, IntKind.wrap_i64]
            simp
            try first | (simp only [wrap64]; done) | (simp only [wrap64]; omega)
          · have HR := Lib.hid hr
            clear hr
            go_enter Try.func46, Try.ntmps46
            go_wp2_with fail
            refine (B2.out _).mono ?_
            rintro e w1 ⟨rfl, rfl⟩
            go_wp2_with fail
            refine (B0.out _).mono ?_
            rintro e w1 ⟨rfl, rfl⟩
            go_wp2_with fail
            refine (B0.out _).mono ?_
            rintro e w1 ⟨rfl, rfl⟩
            go_wp2_with fail
            refine (B2.out _).mono ?_
            rintro e w1 ⟨rfl, rfl⟩
            go_wp2_with fail
            refine (B1.out _).mono ?_
            rintro e w1 ⟨rfl, rfl⟩
            go_wp2
            go_ret
            refine ⟨?_, FR.out.bel⟩
            have h := HR.out
            rw [← h]
            congr 2
            simp only [stB, IntKind.wrap_i64]
            simp
            try first | (simp only [wrap64]; done) | (simp only [wrap64]; omega)
end Go.Proofs.Ytpkegfochfkkcaa
