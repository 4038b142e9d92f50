/- What isWidth, Len64, Size and Fits (the program's, and the document's own) answer; for words of 64 bits. -/
import Derived.Test.YtaggiooolhgepaaRows
import Derived.Test.YtaggiooolhgepaaA
import Derived.WalkKit
import Derived.WalkLawsBesides
import Derived.WalkSpells
import Derived.Lib.Tables
import Derived.Lib.BitFns
import Derived.Deep.Light
import Derived.Lib.MinMax
import Derived.Lib.Hide
namespace Go.Proofs.Ytaggiooolhgepaa
set_option linter.unusedVariables false
set_option linter.unusedSimpArgs false
open Go.RowKit

theorem isWidth_yes (n : Int) (w : World) (h1 : 1 ≤ n) (h2 : n ≤ 8):
    Calls Try.prog 18 #[.int .i64 n] w fun e w' => e = .returned (.bool true) ∧ w = w' := by
  go_enter Try.func18, Try.ntmps18
  go_wp2
  go_ret
  exact ⟨rfl, rfl⟩
theorem isWidth_no (n : Int) (w : World) (h : n < 1 ∨ 8 < n):
    Calls Try.prog 18 #[.int .i64 n] w fun e w' => e = .returned (.bool false) ∧ w = w' := by
  rcases h with h | h
  · go_enter Try.func18, Try.ntmps18
    go_wp2
    go_ret
    exact ⟨rfl, rfl⟩
  · have h' : ¬ n < 1 := by omega
    have h2 : decide (n ≤ 8) = false := by simp; omega
    go_enter Try.func18, Try.ntmps18
    go_wp2
    go_ret
    exact ⟨rfl, rfl⟩

theorem len8_get (y : Int) (h : y.toNat < Lib.len8tab.size) : ((Lib.len8tab[y.toNat]'h).toNat : Int) = Lib.len8 y := by
  unfold Lib.len8
  rw [getElem?_pos Lib.len8tab y.toNat h]; rfl
theorem size8 : (Lib.len8tab.size : Int) = 256 := by have := Lib.len8tab_size; omega
theorem wrap_len (a k : Int) (ha : 0 ≤ a) (ha8 : a ≤ 8) (hk : 0 ≤ k) (hk6 : k ≤ 64) : wrap64 (k + wrap64 a) = k + a := by
  unfold wrap64; omega
theorem len_of_byte (x : Nat) (k : Int) (y : Int) (hy : 0 ≤ y) (hy1 : y ≤ 255) (h : (Lib.bitLen x : Int) = k + (Lib.bitLen y.toNat : Int)) (hk : 0 ≤ k) (hk6 : k ≤ 64) (hs : y.toNat < Lib.len8tab.size) :
    wrap64 (k + wrap64 ((Lib.len8tab[y.toNat]'hs).toNat : Int)) = (Lib.bitLen x : Int) := by
  have h1 := Lib.len8_of y hy hy1
  have h2 := Lib.bitLen_le8' y hy hy1
  rw [len8_get, h1, wrap_len _ _ (by omega) (by omega) hk hk6, h]
theorem len_of_byte0 (x : Int) (h0 : 0 ≤ x) (h1 : x ≤ 255) (hs : x.toNat < Lib.len8tab.size) : wrap64 (wrap64 ((Lib.len8tab[x.toNat]'hs).toNat : Int)) = (Lib.bitLen x.toNat : Int) := by
  have := len_of_byte x.toNat 0 x h0 h1 (by omega) (by omega) (by omega) hs
  rwa [Int.zero_add] at this
theorem sh (a b k : Nat) (y : Int) (h : a = k + b) (e : y.toNat = y.toNat) : (a : Int) = (k : Int) + (b : Int) := by omega

set_option maxHeartbeats 4000000 in
set_option maxRecDepth 100000 in
theorem len64_any (x : Int) (w : World) (h0 : 0 ≤ x) (h1 : x ≤ 18446744073709551615) :
    Calls Try.prog 19 #[.int .u64 x] w fun e w' => e = .returned (.int .i64 (Lib.bitLen x.toNat)) ∧ w = w' := by
  go_enter Try.func19, Try.ntmps19
  go_wp2
  all_goals first
    | (go_ret; refine ⟨congrArg Ending.returned (congrArg (Value.int IntKind.i64) ?_), rfl⟩; go_light)
    | (exfalso; go_light; have hs := size8; omega)
  · refine len_of_byte x.toNat 56 (x / 4294967296 / 65536 / 256) (by omega) (by omega) ?_ (by decide) (by decide) _
    have e : (x / 4294967296 / 65536 / 256).toNat = x.toNat / 72057594037927936 := by omega
    have := Lib.bitLen_shift56 x.toNat (by omega) (by omega)
    rw [e]; omega
  · refine len_of_byte x.toNat 48 (x / 4294967296 / 65536) (by omega) (by omega) ?_ (by decide) (by decide) _
    have e : (x / 4294967296 / 65536).toNat = x.toNat / 281474976710656 := by omega
    have := Lib.bitLen_shift48 x.toNat (by omega) (by omega)
    rw [e]; omega
  · refine len_of_byte x.toNat 40 (x / 4294967296 / 256) (by omega) (by omega) ?_ (by decide) (by decide) _
    have e : (x / 4294967296 / 256).toNat = x.toNat / 1099511627776 := by omega
    have := Lib.bitLen_shift40 x.toNat (by omega) (by omega)
    rw [e]; omega
  · refine len_of_byte x.toNat 32 (x / 4294967296) (by omega) (by omega) ?_ (by decide) (by decide) _
    have e : (x / 4294967296).toNat = x.toNat / 4294967296 := by omega
    have := Lib.bitLen_shift32 x.toNat (by omega) (by omega)
    rw [e]; omega
  · refine len_of_byte x.toNat 24 (x / 65536 / 256) (by omega) (by omega) ?_ (by decide) (by decide) _
    have e : (x / 65536 / 256).toNat = x.toNat / 16777216 := by omega
    have := Lib.bitLen_shift24 x.toNat (by omega) (by omega)
    rw [e]; omega
  · refine len_of_byte x.toNat 16 (x / 65536) (by omega) (by omega) ?_ (by decide) (by decide) _
    have e : (x / 65536).toNat = x.toNat / 65536 := by omega
    have := Lib.bitLen_shift16 x.toNat (by omega) (by omega)
    rw [e]; omega
  · refine len_of_byte x.toNat 8 (x / 256) (by omega) (by omega) ?_ (by decide) (by decide) _
    have e : (x / 256).toNat = x.toNat / 256 := by omega
    have := Lib.bitLen_shift8 x.toNat (by omega) (by omega)
    rw [e]; omega
  · exact len_of_byte0 x (by omega) (by omega) _

theorem bit7 (x : Nat) (h : x < 18446744073709551616) : max 1 ((Lib.bitLen x + 7 : Int) / 8) = (sz x : Int) := by
  have := sz_bit x h
  omega
theorem size_any (x : Int) (w : World) (h0 : 0 ≤ x) (h1 : x ≤ 18446744073709551615) :
    Calls Try.prog 12 #[.int .u64 x] w fun e w' => e = .returned (.int .i64 (sz x.toNat)) ∧ w = w' := by
  have hb := bit7 x.toNat (by omega)
  have hl : Lib.bitLen x.toNat ≤ 64 := Lib.bitLen_le _ 64 (by omega) (by omega)
  have H := Lib.hid hb; clear hb
  go_enter Try.func12, Try.ntmps12
  go_wp2_with (go_at_call 19; refine (len64_any _ _ h0 h1).mono ?_; rintro e w' ⟨rfl, rfl⟩)
  go_ret
  exact ⟨by simp [H.out], rfl⟩
theorem refSize_any (x : Int) (w : World) (h0 : 0 ≤ x) (h1 : x ≤ 18446744073709551615) :
    Calls Try.prog 13 #[.int .u64 x] w fun e w' => e = .returned (.int .i64 (sz x.toNat)) ∧ w = w' := by
  have hs := sz_le8 x.toNat (by omega)
  go_enter Try.func13, Try.ntmps13
  go_wp2
  go_loop [0, 3] (fun y n => ∃ k m : Nat, y = .int .u64 k ∧ n = .int .i64 m ∧ k < 18446744073709551616 ∧ m ≤ 8 ∧ m + dg k = sz x.toNat) (fun y _ => (intOf y).toNat)
  case atStart => exact ⟨x.toNat / 256, 1, by congr 1; omega, rfl, by omega, by omega, by unfold sz; omega⟩
  case round =>
    obtain ⟨k, m, rfl, rfl, hk, hm, hr⟩ := hrel
    by_cases h : 0 < k
    · have hp := dg_pos h
      have hm8 : m + 1 ≤ 8 := by omega
      have HR : Hid (m + 1 + dg (k / 256) = sz x.toNat) := by show _ = _; omega
      clear hr hp hm hs
      have h' : (0 : Int) < k := by omega
      go_wp2
      go_round
      case rel => exact ⟨k / 256, m + 1, by go_num, by go_num, by omega, hm8, HR.out⟩
      case measure => simp [intOf]; omega
    · have hk0 : k = 0 := by omega
      subst hk0
      rw [dg_zero] at hr
      have HR : Hid (m = sz x.toNat) := by show _ = _; omega
      clear hr
      go_wp2
      go_ret
      exact ⟨by rw [HR.out]; rfl, rfl⟩
theorem fits_any (x n : Int) (w : World) (h0 : 0 ≤ x) (h1 : x ≤ 18446744073709551615) :
    Calls Try.prog 10 #[.int .u64 x, .int .i64 n] w fun e w' => e = .returned (.bool (fitsB x n)) ∧ w = w' := by
  by_cases hn : 1 ≤ n ∧ n ≤ 8
  · have hn1 := hn.1
    have hn2 := hn.2
    by_cases hs : (sz x.toNat : Int) ≤ n
    · have HF := Lib.hid (fits_yes hn1 hn2 hs)
      have hd : decide ((sz x.toNat : Int) ≤ n) = true := by simpa using hs
      go_enter Try.func10, Try.ntmps10
      go_wp2_with (first | (go_at_call 18; refine (isWidth_yes _ _ hn1 hn2).mono ?_; rintro e w' ⟨rfl, rfl⟩) | (go_at_call 12; refine (size_any _ _ h0 h1).mono ?_; rintro e w' ⟨rfl, rfl⟩))
      go_ret
      exact ⟨by simp [HF.out, hs], rfl⟩
    · have HF := Lib.hid (fits_no2 (x := x) (n := n) (by omega))
      have hd : decide ((sz x.toNat : Int) ≤ n) = false := by simpa using hs
      go_enter Try.func10, Try.ntmps10
      go_wp2_with (first | (go_at_call 18; refine (isWidth_yes _ _ hn1 hn2).mono ?_; rintro e w' ⟨rfl, rfl⟩) | (go_at_call 12; refine (size_any _ _ h0 h1).mono ?_; rintro e w' ⟨rfl, rfl⟩))
      go_ret
      exact ⟨by simp [HF.out, hs], rfl⟩
  · have HF := Lib.hid (fits_no1 (x := x) (n := n) (by omega))
    go_enter Try.func10, Try.ntmps10
    go_wp2_with (first | (go_at_call 18; refine (isWidth_no _ _ (by omega)).mono ?_; rintro e w' ⟨rfl, rfl⟩))
    go_ret
    exact ⟨by simp [HF.out], rfl⟩
theorem refFits_any (x n : Int) (w : World) (h0 : 0 ≤ x) (h1 : x ≤ 18446744073709551615) :
    Calls Try.prog 11 #[.int .u64 x, .int .i64 n] w fun e w' => e = .returned (.bool (fitsB x n)) ∧ w = w' := by
  by_cases hn1 : 1 ≤ n
  · by_cases hn2 : n ≤ 8
    · by_cases hs : (sz x.toNat : Int) ≤ n
      · have HF := Lib.hid (fits_yes hn1 hn2 hs)
        have hd : decide ((sz x.toNat : Int) ≤ n) = true := by simpa using hs
        go_enter Try.func11, Try.ntmps11
        go_wp2_with (first | (go_at_call 13; refine (refSize_any _ _ h0 h1).mono ?_; rintro e w' ⟨rfl, rfl⟩))
        go_ret
        exact ⟨by simp [HF.out, hs], rfl⟩
      · have HF := Lib.hid (fits_no2 (x := x) (n := n) (by omega))
        have hd : decide ((sz x.toNat : Int) ≤ n) = false := by simpa using hs
        go_enter Try.func11, Try.ntmps11
        go_wp2_with (first | (go_at_call 13; refine (refSize_any _ _ h0 h1).mono ?_; rintro e w' ⟨rfl, rfl⟩))
        go_ret
        exact ⟨by simp [HF.out, hs], rfl⟩
    · have HF := Lib.hid (fits_no1 (x := x) (n := n) (by omega))
      have hd : decide (n ≤ 8) = false := by simpa using hn2
      go_enter Try.func11, Try.ntmps11
      go_wp2
      go_ret
      exact ⟨by simp [HF.out, hn2], rfl⟩
  · have HF := Lib.hid (fits_no1 (x := x) (n := n) (by omega))
    have hd : decide (1 ≤ n) = false := by simpa using hn1
    go_enter Try.func11, Try.ntmps11
    go_wp2
    go_ret
    exact ⟨by simp [HF.out, hn1], rfl⟩
end Go.Proofs.Ytaggiooolhgepaa
