/- What the document's own calls of layer 5 answer that reckon with bits alone; no condition. -/
import Derived.Test.YtmjpemddndjcpaaRealB
import Derived.Test.YtmjpemddndjcpaaK
import Derived.LoopTactic
import Derived.Laws.BitsAllLaws
namespace Go.Proofs.Ytmjpemddndjcpaa
set_option linter.unusedVariables false
set_option linter.unusedSimpArgs false
open Go.RowKit

def expN (x : Nat) : Nat := x / 4503599627370496 % 2048
def fracN (x : Nat) : Nat := x % 4503599627370496
theorem rung_parts (x : Nat) : rung x = expN x * 4503599627370496 + fracN x := by unfold rung expN fracN; omega
theorem u64_and_2047 (a : Nat) (h : a < 18446744073709551616) : bits .and .u64 (a : Int) 2047 = ((a % 2048 : Nat) : Int) := by
  have h1 := u64_and_nat a 2047 h (by decide)
  have h2 : a &&& 2047 = a % 2048 := Nat.and_two_pow_sub_one_eq_mod a 11
  rw [h2] at h1; exact h1
theorem refParts_any (x : Nat) (w : World) (hx : x < 18446744073709551616) :
    Calls Try.prog 34 #[.int .u64 (x : Int)] w fun e w' => e = .returned (.tuple #[.bool (sgn x), .int .i64 (expN x : Nat), .int .u64 (fracN x : Nat)]) ∧ w = w' := by
  go_enter Try.func34, Try.ntmps34
  go_wp2
  go_ret3
  have h1 : ((x : Int) / 9223372036854775808 == 1) = sgn x := by
    unfold sgn
    by_cases h : x / 9223372036854775808 = 1
    · have : (x : Int) / 9223372036854775808 = 1 := by omega
      rw [this, h]; rfl
    · have h2 : x / 9223372036854775808 = 0 := by omega
      have : (x : Int) / 9223372036854775808 = 0 := by omega
      rw [this, h2]; rfl
  have h2 : wrap64 (bits .and .u64 ((x : Int) / 4503599627370496) 2047) = (expN x : Nat) := by
    have e : (x : Int) / 4503599627370496 = ((x / 4503599627370496 : Nat) : Int) := by omega
    rw [e, u64_and_2047 _ (by omega)]
    unfold expN wrap64; omega
  have h3 : (x : Int) % 4503599627370496 = (fracN x : Nat) := by unfold fracN; omega
  refine ⟨?_, rfl⟩
  show Ending.returned (.tuple #[.bool ((x : Int) / 9223372036854775808 == 1), .int .i64 (wrap64 (bits .and .u64 ((x : Int) / 4503599627370496) 2047)), .int .u64 ((x : Int) % 4503599627370496)]) = _
  rw [h1, h2, h3]
theorem cls_parts (x : Nat) : clsN x = if expN x = 2047 then (if fracN x = 0 then 3 else 4) else if 0 < expN x then 2 else if fracN x = 0 then 0 else 1 := by
  have h := rung_parts x
  have h1 : expN x < 2048 := by unfold expN; omega
  have h2 : fracN x < 4503599627370496 := by unfold fracN; omega
  unfold clsN
  rw [h]
  repeat' split
  all_goals omega
theorem refClass_any (x : Nat) (c : Int) (w : World) (hx : x < 18446744073709551616) (hc : (clsN x : Int) = c) :
    Calls Try.prog 31 #[.int .u64 (x : Int)] w fun e w' => e = .returned (.int .i64 c) ∧ w = w' := by
  have hp := cls_parts x
  have P := refParts_any x w hx
  obtain ⟨E, hE⟩ : ∃ E : Int, (expN x : Int) = E := ⟨_, rfl⟩
  obtain ⟨F, hF⟩ : ∃ F : Int, (fracN x : Int) = F := ⟨_, rfl⟩
  rw [hE, hF] at P
  have P := Lib.hid P
  have key : (E = 2047 ∧ F ≠ 0 ∧ c = 4) ∨ (E = 2047 ∧ F = 0 ∧ c = 3) ∨ (E ≠ 2047 ∧ 0 < E ∧ c = 2) ∨ (E ≠ 2047 ∧ ¬ 0 < E ∧ F ≠ 0 ∧ c = 1) ∨ (E ≠ 2047 ∧ ¬ 0 < E ∧ F = 0 ∧ c = 0) := by
    split at hp
    · split at hp <;> omega
    · split at hp
      · omega
      · split at hp <;> omega
  clear hp hc hE hF
  rcases key with ⟨h1, h2, rfl⟩ | ⟨h1, h2, rfl⟩ | ⟨h1, h2, rfl⟩ | ⟨h1, h2, h3, rfl⟩ | ⟨h1, h2, h3, rfl⟩
  · have b1 : (E == 2047) = true := by simpa using h1
    have b2 : (F != 0) = true := by simpa using h2
    clear h1 h2
    go_enter Try.func31, Try.ntmps31
    go_wp2_with (go_at_call 34; refine P.out.mono ?_; rintro e w' ⟨rfl, rfl⟩)
    go_ret
    exact ⟨rfl, rfl⟩
  · have b1 : (E == 2047) = true := by simpa using h1
    have b2 : (F != 0) = false := by simpa using h2
    clear h1 h2
    go_enter Try.func31, Try.ntmps31
    go_wp2_with (go_at_call 34; refine P.out.mono ?_; rintro e w' ⟨rfl, rfl⟩)
    go_ret
    exact ⟨rfl, rfl⟩
  · have b1 : (E == 2047) = false := by simpa using h1
    have b2 : decide (0 < E) = true := by simpa using h2
    clear h1 h2
    go_enter Try.func31, Try.ntmps31
    go_wp2_with (go_at_call 34; refine P.out.mono ?_; rintro e w' ⟨rfl, rfl⟩)
    go_ret
    exact ⟨rfl, rfl⟩
  · have b1 : (E == 2047) = false := by simpa using h1
    have b2 : decide (0 < E) = false := by simpa using h2
    have b3 : (F != 0) = true := by simpa using h3
    clear h1 h2 h3
    go_enter Try.func31, Try.ntmps31
    go_wp2_with (go_at_call 34; refine P.out.mono ?_; rintro e w' ⟨rfl, rfl⟩)
    go_ret
    exact ⟨rfl, rfl⟩
  · have b1 : (E == 2047) = false := by simpa using h1
    have b2 : decide (0 < E) = false := by simpa using h2
    have b3 : (F != 0) = false := by simpa using h3
    clear h1 h2 h3
    go_enter Try.func31, Try.ntmps31
    go_wp2_with (go_at_call 34; refine P.out.mono ?_; rintro e w' ⟨rfl, rfl⟩)
    go_ret
    exact ⟨rfl, rfl⟩
/-- one word of those that are none. -/
def plainN (x : Nat) : Nat := if clsN x = 4 then 9221120237041090560 else x
theorem ret_u64n {a b : Nat} (h : a = b) : Ending.returned (.int .u64 (a : Int)) = .returned (.int .u64 (b : Int)) := by rw [h]
/-- a real's key, and a key's real. -/
def keyN (x : Nat) : Nat := if sgn x then 18446744073709551615 - x else x + 9223372036854775808
def unkeyN (k : Nat) : Nat := if sgn k then k - 9223372036854775808 else 18446744073709551615 - k
theorem sgn_iff {x : Nat} (hx : x < 18446744073709551616) : sgn x = decide (9223372036854775808 ≤ x) := by
  unfold sgn
  by_cases h : 9223372036854775808 ≤ x
  · have : x / 9223372036854775808 = 1 := by omega
    rw [this]; simp [h]
  · have : x / 9223372036854775808 = 0 := by omega
    rw [this]; simp [h]
theorem keyN_lt {x : Nat} (hx : x < 18446744073709551616) : keyN x < 18446744073709551616 := by
  unfold keyN; rw [sgn_iff hx]; by_cases h : 9223372036854775808 ≤ x <;> simp [h] <;> omega
theorem unkeyN_lt {x : Nat} (hx : x < 18446744073709551616) : unkeyN x < 18446744073709551616 := by
  unfold unkeyN; rw [sgn_iff hx]; by_cases h : 9223372036854775808 ≤ x <;> simp [h] <;> omega
theorem unkey_key {x : Nat} (hx : x < 18446744073709551616) : unkeyN (keyN x) = x := by
  have h1 := keyN_lt hx
  unfold unkeyN
  rw [sgn_iff h1]
  unfold keyN at h1 ⊢
  rw [sgn_iff hx] at h1 ⊢
  by_cases h : 9223372036854775808 ≤ x
  · have e : ¬ 9223372036854775808 ≤ 18446744073709551615 - x := by omega
    simp [h, e]; omega
  · have e : 9223372036854775808 ≤ x + 9223372036854775808 := by omega
    simp [h, e]
theorem key_unkey {x : Nat} (hx : x < 18446744073709551616) : keyN (unkeyN x) = x := by
  have h1 := unkeyN_lt hx
  unfold keyN
  rw [sgn_iff h1]
  unfold unkeyN at h1 ⊢
  rw [sgn_iff hx] at h1 ⊢
  by_cases h : 9223372036854775808 ≤ x
  · have e : ¬ 9223372036854775808 ≤ x - 9223372036854775808 := by omega
    simp [h, e]
  · have e : 9223372036854775808 ≤ 18446744073709551615 - x := by omega
    simp [h, e]; omega
theorem refKey_any (x : Nat) (w : World) (hx : x < 18446744073709551616) :
    Calls Try.prog 32 #[.int .u64 (x : Int)] w fun e w' => e = .returned (.int .u64 (keyN x : Nat)) ∧ w = w' := by
  by_cases h : 9223372036854775808 ≤ x
  · have b1 : ((x : Int) / 9223372036854775808 == 1) = true := by simp; omega
    have R := Lib.hid (show 18446744073709551615 - x = keyN x by unfold keyN; rw [sgn_iff hx]; simp [h])
    go_enter Try.func32, Try.ntmps32
    go_wp2
    go_ret
    refine ⟨?_, rfl⟩
    rw [← R.out]
    go_num
  · have b1 : ((x : Int) / 9223372036854775808 == 1) = false := by simp; omega
    have R := Lib.hid (show x + 9223372036854775808 = keyN x by unfold keyN; rw [sgn_iff hx]; simp [h])
    go_enter Try.func32, Try.ntmps32
    go_wp2
    go_ret
    refine ⟨?_, rfl⟩
    rw [← R.out]
    go_num
end Go.Proofs.Ytmjpemddndjcpaa
