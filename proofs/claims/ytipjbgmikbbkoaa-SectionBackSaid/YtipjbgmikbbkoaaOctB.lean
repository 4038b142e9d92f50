/- What isWidth, Len64, Size and Fits (the program's, and the document's own) answer; for words of 64 bits. -/
import Derived.Test.YtipjbgmikbbkoaaRows
import Derived.Test.YtipjbgmikbbkoaaOctA
import Derived.Test.YtipjbgmikbbkoaaLen64
import Derived.WalkKit
import Derived.WalkLawsBesides
import Derived.WalkSpells
import Derived.Lib.Tables
import Derived.Lib.BitFns
import Derived.Deep.Light
import Derived.Lib.MinMax
import Derived.Lib.Hide
namespace Go.Proofs.Ytipjbgmikbbkoaa
set_option linter.unusedVariables false
set_option linter.unusedSimpArgs false
open Go.RowKit

theorem isWidth_yes (n : Int) (w : World) (h1 : 1 ≤ n) (h2 : n ≤ 8):
    Calls Try.prog 47 #[.int .i64 n] w fun e w' => e = .returned (.bool true) ∧ w = w' := by
  go_enter Try.func47, Try.ntmps47
  go_wp2
  go_ret
  exact ⟨rfl, rfl⟩
theorem isWidth_no (n : Int) (w : World) (h : n < 1 ∨ 8 < n):
    Calls Try.prog 47 #[.int .i64 n] w fun e w' => e = .returned (.bool false) ∧ w = w' := by
  rcases h with h | h
  · go_enter Try.func47, Try.ntmps47
    go_wp2
    go_ret
    exact ⟨rfl, rfl⟩
  · have h' : ¬ n < 1 := by omega
    have h2 : decide (n ≤ 8) = false := by simp; omega
    go_enter Try.func47, Try.ntmps47
    go_wp2
    go_ret
    exact ⟨rfl, rfl⟩

theorem bit7 (x : Nat) (h : x < 18446744073709551616) : max 1 ((Lib.bitLen x + 7 : Int) / 8) = (sz x : Int) := by
  have := sz_bit x h
  omega
theorem size_any (x : Int) (w : World) (h0 : 0 ≤ x) (h1 : x ≤ 18446744073709551615) :
    Calls Try.prog 58 #[.int .u64 x] w fun e w' => e = .returned (.int .i64 (sz x.toNat)) ∧ w = w' := by
  have hb := bit7 x.toNat (by omega)
  have hl : Lib.bitLen x.toNat ≤ 64 := Lib.bitLen_le _ 64 (by omega) (by omega)
  have H := Lib.hid hb; clear hb
  go_enter Try.func58, Try.ntmps58
  go_wp2_with (go_at_call 57; refine (len64_any _ _ h0 h1).mono ?_; rintro e w' ⟨rfl, rfl⟩)
  go_ret
  exact ⟨by simp [H.out], rfl⟩
theorem refSize_any (x : Int) (w : World) (h0 : 0 ≤ x) (h1 : x ≤ 18446744073709551615) :
    Calls Try.prog 51 #[.int .u64 x] w fun e w' => e = .returned (.int .i64 (sz x.toNat)) ∧ w = w' := by
  have hs := sz_le8 x.toNat (by omega)
  go_enter Try.func51, Try.ntmps51
  go_wp2
  go_loop [0, 3] (fun y n => ∃ k m : Nat, y = .int .u64 k ∧ n = .int .i64 m ∧ k < 18446744073709551616 ∧ m ≤ 8 ∧ m + dg k = sz x.toNat) (fun y _ => (intOf y).toNat)
  case atStart => exact ⟨x.toNat / 256, 1, by congr 1; omega, rfl, by omega, by omega, by unfold sz; omega⟩
  case round =>
    obtain ⟨k, m, rfl, rfl, hk, hm, hr⟩ := hrel
    by_cases h : 0 < k
    · have hp := dg_pos h
      have hm8 : m + 1 ≤ 8 := by omega
      have HR : Hid (m + 1 + dg (k / 256) = sz x.toNat) := by show _ = _; omega
      clear hr hp hm hs
      have h' : (0 : Int) < k := by omega
      go_wp2
      go_round
      case rel => exact ⟨k / 256, m + 1, by go_num, by go_num, by omega, hm8, HR.out⟩
      case measure => simp [intOf]; omega
    · have hk0 : k = 0 := by omega
      subst hk0
      rw [dg_zero] at hr
      have HR : Hid (m = sz x.toNat) := by show _ = _; omega
      clear hr
      go_wp2
      go_ret
      exact ⟨by rw [HR.out]; rfl, rfl⟩
theorem fits_any (x n : Int) (w : World) (h0 : 0 ≤ x) (h1 : x ≤ 18446744073709551615) :
    Calls Try.prog 48 #[.int .u64 x, .int .i64 n] w fun e w' => e = .returned (.bool (fitsB x n)) ∧ w = w' := by
  by_cases hn : 1 ≤ n ∧ n ≤ 8
  · have hn1 := hn.1
    have hn2 := hn.2
    by_cases hs : (sz x.toNat : Int) ≤ n
    · have HF := Lib.hid (fits_yes hn1 hn2 hs)
      have hd : decide ((sz x.toNat : Int) ≤ n) = true := by simpa using hs
      go_enter Try.func48, Try.ntmps48
      go_wp2_with (first | (go_at_call 47; refine (isWidth_yes _ _ hn1 hn2).mono ?_; rintro e w' ⟨rfl, rfl⟩) | (go_at_call 58; refine (size_any _ _ h0 h1).mono ?_; rintro e w' ⟨rfl, rfl⟩))
      go_ret
      exact ⟨by simp [HF.out, hs], rfl⟩
    · have HF := Lib.hid (fits_no2 (x := x) (n := n) (by omega))
      have hd : decide ((sz x.toNat : Int) ≤ n) = false := by simpa using hs
      go_enter Try.func48, Try.ntmps48
      go_wp2_with (first | (go_at_call 47; refine (isWidth_yes _ _ hn1 hn2).mono ?_; rintro e w' ⟨rfl, rfl⟩) | (go_at_call 58; refine (size_any _ _ h0 h1).mono ?_; rintro e w' ⟨rfl, rfl⟩))
      go_ret
      exact ⟨by simp [HF.out, hs], rfl⟩
  · have HF := Lib.hid (fits_no1 (x := x) (n := n) (by omega))
    go_enter Try.func48, Try.ntmps48
    go_wp2_with (first | (go_at_call 47; refine (isWidth_no _ _ (by omega)).mono ?_; rintro e w' ⟨rfl, rfl⟩))
    go_ret
    exact ⟨by simp [HF.out], rfl⟩
theorem refFits_any (x n : Int) (w : World) (h0 : 0 ≤ x) (h1 : x ≤ 18446744073709551615) :
    Calls Try.prog 39 #[.int .u64 x, .int .i64 n] w fun e w' => e = .returned (.bool (fitsB x n)) ∧ w = w' := by
  by_cases hn1 : 1 ≤ n
  · by_cases hn2 : n ≤ 8
    · by_cases hs : (sz x.toNat : Int) ≤ n
      · have HF := Lib.hid (fits_yes hn1 hn2 hs)
        have hd : decide ((sz x.toNat : Int) ≤ n) = true := by simpa using hs
        go_enter Try.func39, Try.ntmps39
        go_wp2_with (first | (go_at_call 51; refine (refSize_any _ _ h0 h1).mono ?_; rintro e w' ⟨rfl, rfl⟩))
        go_ret
        exact ⟨by simp [HF.out, hs], rfl⟩
      · have HF := Lib.hid (fits_no2 (x := x) (n := n) (by omega))
        have hd : decide ((sz x.toNat : Int) ≤ n) = false := by simpa using hs
        go_enter Try.func39, Try.ntmps39
        go_wp2_with (first | (go_at_call 51; refine (refSize_any _ _ h0 h1).mono ?_; rintro e w' ⟨rfl, rfl⟩))
        go_ret
        exact ⟨by simp [HF.out, hs], rfl⟩
    · have HF := Lib.hid (fits_no1 (x := x) (n := n) (by omega))
      have hd : decide (n ≤ 8) = false := by simpa using hn2
      go_enter Try.func39, Try.ntmps39
      go_wp2
      go_ret
      exact ⟨by simp [HF.out, hn2], rfl⟩
  · have HF := Lib.hid (fits_no1 (x := x) (n := n) (by omega))
    have hd : decide (1 ≤ n) = false := by simpa using hn1
    go_enter Try.func39, Try.ntmps39
    go_wp2
    go_ret
    exact ⟨by simp [HF.out, hn1], rfl⟩
end Go.Proofs.Ytipjbgmikbbkoaa
