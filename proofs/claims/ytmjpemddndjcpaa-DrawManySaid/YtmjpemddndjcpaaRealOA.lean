/- What the program's own functions of layer 5 answer that reckon with bits alone; no condition. -/
import Derived.Test.YtmjpemddndjcpaaRealJ
namespace Go.Proofs.Ytmjpemddndjcpaa
set_option linter.unusedVariables false
set_option linter.unusedSimpArgs false
open Go.RowKit
open Ieee
theorem u64_and_sign (x : Nat) (hx : x < 18446744073709551616) : bits .and .u64 (x : Int) 9223372036854775808 = ((x / 9223372036854775808 * 9223372036854775808 : Nat) : Int) := by
  have h1 := u64_and_nat x 9223372036854775808 hx (by decide)
  have h2 : x &&& 9223372036854775808 = x / 9223372036854775808 % 2 * 9223372036854775808 := nat_bit 63 x
  have h3 : x / 9223372036854775808 % 2 = x / 9223372036854775808 := by omega
  rw [h2, h3] at h1
  exact h1
theorem u64_less_sign (x : Nat) (hx : x < 18446744073709551616) : bits .andNot .u64 (x : Int) 9223372036854775808 = ((rung x : Nat) : Int) := by
  have h1 := u64_andNot_nat x 9223372036854775808 hx (by decide)
  have h2 : x &&& (18446744073709551615 - 9223372036854775808) = x % 9223372036854775808 := Nat.and_two_pow_sub_one_eq_mod x 63
  rw [h2] at h1
  exact h1
theorem u64_or_sign (x : Nat) (hx : x < 9223372036854775808) : bits .or .u64 (x : Int) 9223372036854775808 = ((x + 9223372036854775808 : Nat) : Int) := by
  have h1 := u64_or_nat x 9223372036854775808 (by omega) (by decide)
  have h2 : 9223372036854775808 ||| x = 9223372036854775808 + x := nat_join 63 9223372036854775808 x (by decide) (by omega)
  rw [Nat.or_comm, h2, Nat.add_comm] at h1
  exact h1
theorem u64_not (x : Nat) (hx : x < 18446744073709551616) : bits .xor .u64 IntKind.u64.max (x : Int) = ((18446744073709551615 - x : Nat) : Int) := by
  have h1 := u64_xor_nat 18446744073709551615 x (by decide) hx
  have h2 : 18446744073709551615 ^^^ x = 18446744073709551615 - x := by
    apply Nat.eq_of_testBit_eq
    intro i
    have h3 := Nat.testBit_two_pow_sub_succ (n := 64) (x := x) hx i
    have h4 := @Nat.testBit_two_pow_sub_one 64 i
    rw [show 2 ^ 64 - (x + 1) = 18446744073709551615 - x by omega] at h3
    rw [show 2 ^ 64 - 1 = 18446744073709551615 by decide] at h4
    rw [Nat.testBit_xor, h3, h4]
    by_cases hi : i < 64
    · simp [hi]
    · have h5 : x.testBit i = false := Nat.testBit_lt_two_pow (Nat.lt_of_lt_of_le hx (show 2 ^ 64 ≤ 2 ^ i from Nat.pow_le_pow_right (by decide) (by omega)))
      simp [hi, h5]
  rw [h2] at h1
  exact h1
theorem realClass_any0 (x : Nat) (w : World) (hx : x < 18446744073709551616) : Calls Try.prog 23 #[.int .u64 (x : Int)] w fun e w' => e = .returned (.int .i64 (clsN x : Nat)) ∧ w = w' := by
  have hb := u64_less_sign x hx
  have hc : clsN x = if rung x = 0 then 0 else if rung x < 4503599627370496 then 1 else if rung x < 9218868437227405312 then 2 else if rung x = 9218868437227405312 then 3 else 4 := rfl
  generalize rung x = r at *
  have key : ∃ c : Int, (clsN x : Int) = c ∧ ((9218868437227405312 < r ∧ c = 4) ∨ (r = 9218868437227405312 ∧ c = 3) ∨ (r < 9218868437227405312 ∧ 4503599627370496 ≤ r ∧ c = 2) ∨ (r < 4503599627370496 ∧ 0 < r ∧ c = 1) ∨ (r = 0 ∧ c = 0)) := by
    refine ⟨_, rfl, ?_⟩
    rw [hc]
    repeat' split
    all_goals omega
  obtain ⟨c, hcc, hk⟩ := key
  rw [hcc]
  clear hc hcc
  rcases hk with ⟨h1, rfl⟩ | ⟨h1, rfl⟩ | ⟨h1, h2, rfl⟩ | ⟨h1, h2, rfl⟩ | ⟨h1, rfl⟩
  · have b1 : decide ((9218868437227405312 : Int) < (r : Int)) = true := by simp; omega
    clear h1
    go_enter Try.func23, Try.ntmps23
    go_wp2
    go_ret
    exact ⟨rfl, rfl⟩
  · subst h1
    go_enter Try.func23, Try.ntmps23
    go_wp2
    go_ret
    exact ⟨rfl, rfl⟩
  · have b1 : decide ((9218868437227405312 : Int) < (r : Int)) = false := by simp; omega
    have b2 : ((r : Int) == 9218868437227405312) = false := by simp; omega
    have b3 : decide ((4503599627370496 : Int) ≤ (r : Int)) = true := by simp; omega
    clear h1 h2
    go_enter Try.func23, Try.ntmps23
    go_wp2
    go_ret
    exact ⟨rfl, rfl⟩
  · have b1 : decide ((9218868437227405312 : Int) < (r : Int)) = false := by simp; omega
    have b2 : ((r : Int) == 9218868437227405312) = false := by simp; omega
    have b3 : decide ((4503599627370496 : Int) ≤ (r : Int)) = false := by simp; omega
    have b4 : decide (0 < r) = true := by simp; omega
    clear h1 h2
    go_enter Try.func23, Try.ntmps23
    go_wp2
    go_ret
    exact ⟨rfl, rfl⟩
  · subst h1
    go_enter Try.func23, Try.ntmps23
    go_wp2
    go_ret
    exact ⟨rfl, rfl⟩
theorem realNumber_any (x : Nat) (w : World) : Calls Try.prog 30 #[.int .u64 (x : Int)] w fun e w' => e = .returned (.float .f64 x) ∧ w = w' := by
  have f1 := frombits x
  go_enter Try.func30, Try.ntmps30
  go_wp2
  go_ret
  exact ⟨rfl, rfl⟩
end Go.Proofs.Ytmjpemddndjcpaa
