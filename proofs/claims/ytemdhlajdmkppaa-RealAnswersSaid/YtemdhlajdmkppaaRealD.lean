/- What the document's own order, steps and sums of layer 5 answer; no condition. -/
import Derived.Test.YtemdhlajdmkppaaRealC
import Derived.Laws.FloatArith
import Derived.Laws.Externs
namespace Go.Proofs.Ytemdhlajdmkppaa
set_option linter.unusedVariables false
set_option linter.unusedSimpArgs false
open Go.RowKit

def lessN (x y : Nat) : Bool := decide (clsN x ≠ 4 ∧ clsN y ≠ 4 ∧ ¬ (clsN x = 0 ∧ clsN y = 0) ∧ keyN x < keyN y)
def sameN (x y : Nat) : Bool := decide (clsN x ≠ 4 ∧ clsN y ≠ 4) && !lessN x y && !lessN y x
theorem cls_beq {x : Nat} {c : Int} (hc : (clsN x : Int) = c) (k : Nat) : (c == (k : Int)) = decide (clsN x = k) := by
  subst hc
  by_cases h : clsN x = k
  · simp [h]
  · simp [h]; omega
theorem refLess_any (x y : Nat) (w : World) (hx : x < 18446744073709551616) (hy : y < 18446744073709551616) :
    Calls Try.prog 20 #[.int .u64 (x : Int), .int .u64 (y : Int)] w fun e w' => e = .returned (.bool (lessN x y)) ∧ w = w' := by
  have C := Lib.hid (fun w c hc => refClass_any x c w hx hc); have D := Lib.hid (fun w c hc => refClass_any y c w hy hc)
  have KX := Lib.hid (fun w => refKey_any x w hx); have KY := Lib.hid (fun w => refKey_any y w hy)
  obtain ⟨c, hc⟩ : ∃ c : Int, (clsN x : Int) = c := ⟨_, rfl⟩
  obtain ⟨d, hd⟩ : ∃ d : Int, (clsN y : Int) = d := ⟨_, rfl⟩
  obtain ⟨k, hk⟩ : ∃ k, keyN x = k := ⟨_, rfl⟩
  obtain ⟨l, hl⟩ : ∃ l, keyN y = l := ⟨_, rfl⟩
  have R : lessN x y = (!(c == 4) && !(d == 4) && !((c == 0) && (d == 0)) && decide (k < l)) := by
    have e1 : (c == 4) = decide (clsN x = 4) := cls_beq hc 4
    have e2 : (d == 4) = decide (clsN y = 4) := cls_beq hd 4
    have e3 : (c == 0) = decide (clsN x = 0) := cls_beq hc 0
    have e4 : (d == 0) = decide (clsN y = 0) := cls_beq hd 0
    rw [e1, e2, e3, e4, ← hk, ← hl]
    unfold lessN
    by_cases h1 : clsN x = 4 <;> by_cases h2 : clsN y = 4 <;> by_cases h3 : clsN x = 0 <;> by_cases h4 : clsN y = 0 <;> simp [h1, h2, h3, h4]
  rw [R]
  rw [hk] at KX
  rw [hl] at KY
  have HC := Lib.hid hc; have HD := Lib.hid hd
  clear hc hd R hk hl
  cases h1 : (c == 4) <;> cases h2 : (d == 4) <;> cases h3 : (c == 0) <;> cases h4 : (d == 0)
  all_goals
    go_enter Try.func20, Try.ntmps20
    go_wp2_with (first | (go_at_call_of 12 (Value.int IntKind.u64 (x : Int)); refine (C.out _ c HC.out).mono ?_; rintro e w' ⟨rfl, rfl⟩) | (go_at_call_of 12 (Value.int IntKind.u64 (y : Int)); refine (D.out _ d HD.out).mono ?_; rintro e w' ⟨rfl, rfl⟩) | (go_at_call_of 16 (Value.int IntKind.u64 (x : Int)); refine (KX.out _).mono ?_; rintro e w' ⟨rfl, rfl⟩) | (go_at_call_of 16 (Value.int IntKind.u64 (y : Int)); refine (KY.out _).mono ?_; rintro e w' ⟨rfl, rfl⟩))
    go_ret
    exact ⟨by simp, rfl⟩

theorem refSame_any (x y : Nat) (w : World) (hx : x < 18446744073709551616) (hy : y < 18446744073709551616) :
    Calls Try.prog 22 #[.int .u64 (x : Int), .int .u64 (y : Int)] w fun e w' => e = .returned (.bool (sameN x y)) ∧ w = w' := by
  have C := Lib.hid (fun w c hc => refClass_any x c w hx hc); have D := Lib.hid (fun w c hc => refClass_any y c w hy hc)
  have LX := fun w => refLess_any x y w hx hy
  have LY := fun w => refLess_any y x w hy hx
  obtain ⟨c, hc⟩ : ∃ c : Int, (clsN x : Int) = c := ⟨_, rfl⟩
  obtain ⟨d, hd⟩ : ∃ d : Int, (clsN y : Int) = d := ⟨_, rfl⟩
  obtain ⟨p, hp⟩ : ∃ p, lessN x y = p := ⟨_, rfl⟩
  obtain ⟨q, hq⟩ : ∃ q, lessN y x = q := ⟨_, rfl⟩
  have R : sameN x y = (!(c == 4) && !(d == 4) && !p && !q) := by
    have e1 : (c == 4) = decide (clsN x = 4) := cls_beq hc 4
    have e2 : (d == 4) = decide (clsN y = 4) := cls_beq hd 4
    rw [e1, e2, ← hp, ← hq]
    unfold sameN
    by_cases h1 : clsN x = 4 <;> by_cases h2 : clsN y = 4 <;> simp [h1, h2]
  rw [R]
  rw [hp] at LX
  rw [hq] at LY
  have HC := Lib.hid hc; have HD := Lib.hid hd; have LX := Lib.hid LX; have LY := Lib.hid LY
  clear hc hd R hp hq
  by_cases h1 : c = 4
  · have b1 : (c != 4) = false := by simpa using h1
    rw [show (c == 4) = true by simpa using h1]
    clear h1
    go_enter Try.func22, Try.ntmps22
    go_wp2_with (first | (go_at_call_of 12 (Value.int IntKind.u64 (x : Int)); refine (C.out _ c HC.out).mono ?_; rintro e w' ⟨rfl, rfl⟩) | (go_at_call_of 12 (Value.int IntKind.u64 (y : Int)); refine (D.out _ d HD.out).mono ?_; rintro e w' ⟨rfl, rfl⟩))
    go_ret
    exact ⟨by simp, rfl⟩
  · have b1 : (c != 4) = true := by simpa using h1
    rw [show (c == 4) = false by simpa using h1]
    by_cases h2 : d = 4
    · have b2 : (d != 4) = false := by simpa using h2
      rw [show (d == 4) = true by simpa using h2]
      clear h1 h2
      go_enter Try.func22, Try.ntmps22
      go_wp2_with (first | (go_at_call_of 12 (Value.int IntKind.u64 (x : Int)); refine (C.out _ c HC.out).mono ?_; rintro e w' ⟨rfl, rfl⟩) | (go_at_call_of 12 (Value.int IntKind.u64 (y : Int)); refine (D.out _ d HD.out).mono ?_; rintro e w' ⟨rfl, rfl⟩))
      go_ret
      exact ⟨by simp, rfl⟩
    · have b2 : (d != 4) = true := by simpa using h2
      rw [show (d == 4) = false by simpa using h2]
      clear h1 h2
      cases p
      · go_enter Try.func22, Try.ntmps22
        go_wp2_with (first | (go_at_call_of 12 (Value.int IntKind.u64 (x : Int)); refine (C.out _ c HC.out).mono ?_; rintro e w' ⟨rfl, rfl⟩) | (go_at_call_of 12 (Value.int IntKind.u64 (y : Int)); refine (D.out _ d HD.out).mono ?_; rintro e w' ⟨rfl, rfl⟩))
        refine (LX.out _).mono ?_; rintro e w' ⟨rfl, rfl⟩
        go_wp2_with fail
        refine (LY.out _).mono ?_; rintro e w' ⟨rfl, rfl⟩
        go_wp2_with fail
        go_ret
        exact ⟨by simp, rfl⟩
      · go_enter Try.func22, Try.ntmps22
        go_wp2_with (first | (go_at_call_of 12 (Value.int IntKind.u64 (x : Int)); refine (C.out _ c HC.out).mono ?_; rintro e w' ⟨rfl, rfl⟩) | (go_at_call_of 12 (Value.int IntKind.u64 (y : Int)); refine (D.out _ d HD.out).mono ?_; rintro e w' ⟨rfl, rfl⟩))
        refine (LX.out _).mono ?_; rintro e w' ⟨rfl, rfl⟩
        go_wp2_with fail
        go_ret
        exact ⟨by simp, rfl⟩
def leastN (x y : Nat) : Nat := if clsN x = 4 ∨ clsN y = 4 then 9221120237041090560 else if keyN x ≤ keyN y then x else y
def mostN (x y : Nat) : Nat := if clsN x = 4 ∨ clsN y = 4 then 9221120237041090560 else if keyN y ≤ keyN x then x else y
theorem refLeast_any (x y : Nat) (w : World) (hx : x < 18446744073709551616) (hy : y < 18446744073709551616) :
    Calls Try.prog 24 #[.int .u64 (x : Int), .int .u64 (y : Int)] w fun e w' => e = .returned (.int .u64 (leastN x y : Nat)) ∧ w = w' := by
  have C := Lib.hid (fun w c hc => refClass_any x c w hx hc); have D := Lib.hid (fun w c hc => refClass_any y c w hy hc)
  have KX := fun w => refKey_any x w hx
  have KY := fun w => refKey_any y w hy
  obtain ⟨c, hc⟩ : ∃ c : Int, (clsN x : Int) = c := ⟨_, rfl⟩
  obtain ⟨d, hd⟩ : ∃ d : Int, (clsN y : Int) = d := ⟨_, rfl⟩
  obtain ⟨k, hk⟩ : ∃ k, keyN x = k := ⟨_, rfl⟩
  obtain ⟨l, hl⟩ : ∃ l, keyN y = l := ⟨_, rfl⟩
  have R : leastN x y = if (c == 4) || (d == 4) then 9221120237041090560 else if k ≤ l then x else y := by
    have e1 : (c == 4) = decide (clsN x = 4) := cls_beq hc 4
    have e2 : (d == 4) = decide (clsN y = 4) := cls_beq hd 4
    rw [e1, e2, ← hk, ← hl]
    unfold leastN
    by_cases h1 : clsN x = 4 <;> by_cases h2 : clsN y = 4 <;> simp [h1, h2]
  rw [hk] at KX
  rw [hl] at KY
  have HC := Lib.hid hc; have HD := Lib.hid hd; have KX := Lib.hid KX; have KY := Lib.hid KY; have R := Lib.hid R
  clear hc hd hk hl
  cases h1 : (c == 4) <;> cases h2 : (d == 4) <;> by_cases h3 : k ≤ l
  all_goals
    have R2 := R.out
    rw [h1, h2] at R2
    have R2 := Lib.hid R2
    go_enter Try.func24, Try.ntmps24
    go_wp2_with (first | (go_at_call_of 12 (Value.int IntKind.u64 (x : Int)); refine (C.out _ c HC.out).mono ?_; rintro e w' ⟨rfl, rfl⟩) | (go_at_call_of 12 (Value.int IntKind.u64 (y : Int)); refine (D.out _ d HD.out).mono ?_; rintro e w' ⟨rfl, rfl⟩) | (go_at_call 45; refine (refNone_any _).mono ?_; rintro e w' ⟨rfl, rfl⟩) | (go_at_call_of 16 (Value.int IntKind.u64 (x : Int)); refine (KX.out _).mono ?_; rintro e w' ⟨rfl, rfl⟩) | (go_at_call_of 16 (Value.int IntKind.u64 (y : Int)); refine (KY.out _).mono ?_; rintro e w' ⟨rfl, rfl⟩))
    go_ret
    refine ⟨?_, rfl⟩
    rw [R2.out]
    simp [h3]
theorem refMost_any (x y : Nat) (w : World) (hx : x < 18446744073709551616) (hy : y < 18446744073709551616) :
    Calls Try.prog 26 #[.int .u64 (x : Int), .int .u64 (y : Int)] w fun e w' => e = .returned (.int .u64 (mostN x y : Nat)) ∧ w = w' := by
  have C := Lib.hid (fun w c hc => refClass_any x c w hx hc); have D := Lib.hid (fun w c hc => refClass_any y c w hy hc)
  have KX := fun w => refKey_any x w hx
  have KY := fun w => refKey_any y w hy
  obtain ⟨c, hc⟩ : ∃ c : Int, (clsN x : Int) = c := ⟨_, rfl⟩
  obtain ⟨d, hd⟩ : ∃ d : Int, (clsN y : Int) = d := ⟨_, rfl⟩
  obtain ⟨k, hk⟩ : ∃ k, keyN x = k := ⟨_, rfl⟩
  obtain ⟨l, hl⟩ : ∃ l, keyN y = l := ⟨_, rfl⟩
  have R : mostN x y = if (c == 4) || (d == 4) then 9221120237041090560 else if l ≤ k then x else y := by
    have e1 : (c == 4) = decide (clsN x = 4) := cls_beq hc 4
    have e2 : (d == 4) = decide (clsN y = 4) := cls_beq hd 4
    rw [e1, e2, ← hk, ← hl]
    unfold mostN
    by_cases h1 : clsN x = 4 <;> by_cases h2 : clsN y = 4 <;> simp [h1, h2]
  rw [hk] at KX
  rw [hl] at KY
  have HC := Lib.hid hc; have HD := Lib.hid hd; have KX := Lib.hid KX; have KY := Lib.hid KY; have R := Lib.hid R
  clear hc hd hk hl
  cases h1 : (c == 4) <;> cases h2 : (d == 4) <;> by_cases h3 : l ≤ k
  all_goals
    have R2 := R.out
    rw [h1, h2] at R2
    have R2 := Lib.hid R2
    go_enter Try.func26, Try.ntmps26
    go_wp2_with (first | (go_at_call_of 12 (Value.int IntKind.u64 (x : Int)); refine (C.out _ c HC.out).mono ?_; rintro e w' ⟨rfl, rfl⟩) | (go_at_call_of 12 (Value.int IntKind.u64 (y : Int)); refine (D.out _ d HD.out).mono ?_; rintro e w' ⟨rfl, rfl⟩) | (go_at_call 45; refine (refNone_any _).mono ?_; rintro e w' ⟨rfl, rfl⟩) | (go_at_call_of 16 (Value.int IntKind.u64 (x : Int)); refine (KX.out _).mono ?_; rintro e w' ⟨rfl, rfl⟩) | (go_at_call_of 16 (Value.int IntKind.u64 (y : Int)); refine (KY.out _).mono ?_; rintro e w' ⟨rfl, rfl⟩))
    go_ret
    refine ⟨?_, rfl⟩
    rw [R2.out]
    simp [h3]
/-- of the other sign; the next greater, the next lesser one. -/
def negN (x : Nat) : Nat := if clsN x = 4 then 9221120237041090560 else if sgn x then x - 9223372036854775808 else x + 9223372036854775808
def upN (x : Nat) : Nat := if clsN x = 4 then 9221120237041090560 else if clsN x = 0 then 1 else if sgn x then x - 1 else if clsN x = 3 then x else x + 1
def downN (x : Nat) : Nat := negN (upN (negN x))
theorem negN_lt {x : Nat} (hx : x < 18446744073709551616) : negN x < 18446744073709551616 := by
  unfold negN; rw [sgn_iff hx]; split
  · decide
  · by_cases h : 9223372036854775808 ≤ x <;> simp [h] <;> omega
theorem upN_lt {x : Nat} (hx : x < 18446744073709551616) : upN x < 18446744073709551616 := by
  unfold upN; rw [sgn_iff hx]; split
  · decide
  · split
    · decide
    · by_cases h : 9223372036854775808 ≤ x
      · simp [h]; omega
      · simp [h]; split <;> omega
theorem refNeg_any (x : Nat) (w : World) (hx : x < 18446744073709551616) :
    Calls Try.prog 49 #[.int .u64 (x : Int)] w fun e w' => e = .returned (.int .u64 (negN x : Nat)) ∧ w = w' := by
  have C := Lib.hid (fun w c hc => refClass_any x c w hx hc)
  obtain ⟨c, hc⟩ : ∃ c : Int, (clsN x : Int) = c := ⟨_, rfl⟩
  have HC := Lib.hid hc
  by_cases h4 : clsN x = 4
  · have b1 : (c == 4) = true := by simp; omega
    have R := Lib.hid (show 9221120237041090560 = negN x by unfold negN; rw [if_pos h4])
    clear hc h4
    go_enter Try.func49, Try.ntmps49
    go_wp2_with (first | (go_at_call_of 12 (Value.int IntKind.u64 (x : Int)); refine (C.out _ c HC.out).mono ?_; rintro e w' ⟨rfl, rfl⟩) | (go_at_call 45; refine (refNone_any _).mono ?_; rintro e w' ⟨rfl, rfl⟩))
    go_ret
    exact ⟨ret_u64n R.out, rfl⟩
  · have b1 : (c == 4) = false := by simp; omega
    by_cases h : 9223372036854775808 ≤ x
    · have b2 : ((x : Int) / 9223372036854775808 == 1) = true := by simp; omega
      have R := Lib.hid (show x - 9223372036854775808 = negN x by unfold negN; rw [if_neg h4, sgn_iff hx]; simp [h])
      clear hc h4
      go_enter Try.func49, Try.ntmps49
      go_wp2_with (first | (go_at_call_of 12 (Value.int IntKind.u64 (x : Int)); refine (C.out _ c HC.out).mono ?_; rintro e w' ⟨rfl, rfl⟩) | (go_at_call 45; refine (refNone_any _).mono ?_; rintro e w' ⟨rfl, rfl⟩))
      go_ret
      refine ⟨?_, rfl⟩
      rw [← R.out]
      go_num
    · have b2 : ((x : Int) / 9223372036854775808 == 1) = false := by simp; omega
      have R := Lib.hid (show x + 9223372036854775808 = negN x by unfold negN; rw [if_neg h4, sgn_iff hx]; simp [h])
      clear hc h4
      go_enter Try.func49, Try.ntmps49
      go_wp2_with (first | (go_at_call_of 12 (Value.int IntKind.u64 (x : Int)); refine (C.out _ c HC.out).mono ?_; rintro e w' ⟨rfl, rfl⟩) | (go_at_call 45; refine (refNone_any _).mono ?_; rintro e w' ⟨rfl, rfl⟩))
      go_ret
      refine ⟨?_, rfl⟩
      rw [← R.out]
      go_num
theorem refUp_any (x : Nat) (w : World) (hx : x < 18446744073709551616) :
    Calls Try.prog 28 #[.int .u64 (x : Int)] w fun e w' => e = .returned (.int .u64 (upN x : Nat)) ∧ w = w' := by
  have C := Lib.hid (fun w c hc => refClass_any x c w hx hc)
  have P := refParts_any x w hx
  obtain ⟨c, hc⟩ : ∃ c : Int, (clsN x : Int) = c := ⟨_, rfl⟩
  obtain ⟨sg, hsg⟩ : ∃ sg, sgn x = sg := ⟨_, rfl⟩
  rw [hsg] at P
  have P := Lib.hid P
  have HC := Lib.hid hc
  have R : upN x = if c = 4 then 9221120237041090560 else if c = 0 then 1 else if sg then x - 1 else if c = 3 then x else x + 1 := by
    unfold upN; rw [hsg]
    have e4 : (clsN x = 4) = (c = 4) := by rw [eq_iff_iff]; omega
    have e0 : (clsN x = 0) = (c = 0) := by rw [eq_iff_iff]; omega
    have e3 : (clsN x = 3) = (c = 3) := by rw [eq_iff_iff]; omega
    simp only [e4, e0, e3]
  have hpos : sg = true → 1 ≤ x := fun h => by
    rw [h, sgn_iff hx] at hsg
    have := of_decide_eq_true hsg; omega
  have hsm : sg = false → x < 9223372036854775808 := fun h => by
    rw [h, sgn_iff hx] at hsg
    have := of_decide_eq_false hsg; omega
  have R := Lib.hid R
  clear hc hsg
  by_cases h4 : c = 4
  · have b1 : (c == 4) = true := by simpa using h4
    have R := Lib.hid (R.out.trans (if_pos h4))
    clear h4
    go_enter Try.func28, Try.ntmps28
    go_wp2_with (first | (go_at_call_of 12 (Value.int IntKind.u64 (x : Int)); refine (C.out _ c HC.out).mono ?_; rintro e w' ⟨rfl, rfl⟩) | (go_at_call 45; refine (refNone_any _).mono ?_; rintro e w' ⟨rfl, rfl⟩) | (go_at_call 46; refine P.out.mono ?_; rintro e w' ⟨rfl, rfl⟩))
    go_ret
    exact ⟨ret_u64n R.out.symm, rfl⟩
  · have b1 : (c == 4) = false := by simpa using h4
    have R := Lib.hid (R.out.trans (if_neg h4))
    by_cases h0 : c = 0
    · have b2 : (c == 0) = true := by simpa using h0
      have R := Lib.hid (R.out.trans (if_pos h0))
      clear h4 h0
      go_enter Try.func28, Try.ntmps28
      go_wp2_with (first | (go_at_call_of 12 (Value.int IntKind.u64 (x : Int)); refine (C.out _ c HC.out).mono ?_; rintro e w' ⟨rfl, rfl⟩) | (go_at_call 45; refine (refNone_any _).mono ?_; rintro e w' ⟨rfl, rfl⟩) | (go_at_call 46; refine P.out.mono ?_; rintro e w' ⟨rfl, rfl⟩))
      go_ret
      exact ⟨ret_u64n R.out.symm, rfl⟩
    · have b2 : (c == 0) = false := by simpa using h0
      have R := Lib.hid (R.out.trans (if_neg h0))
      cases sg with
      | true =>
        have h1 := hpos rfl
        have R := Lib.hid (show upN x = x - 1 from R.out)
        clear h4 h0 hsm hpos
        go_enter Try.func28, Try.ntmps28
        go_wp2_with (first | (go_at_call_of 12 (Value.int IntKind.u64 (x : Int)); refine (C.out _ c HC.out).mono ?_; rintro e w' ⟨rfl, rfl⟩) | (go_at_call 45; refine (refNone_any _).mono ?_; rintro e w' ⟨rfl, rfl⟩) | (go_at_call 46; refine P.out.mono ?_; rintro e w' ⟨rfl, rfl⟩))
        go_ret
        refine ⟨?_, rfl⟩
        rw [R.out]
        go_num
      | false =>
        have hlt := hsm rfl
        by_cases h3 : c = 3
        · have b3 : (c == 3) = true := by simpa using h3
          have R := Lib.hid (show upN x = x by rw [R.out]; simp [h3])
          clear h4 h0 h3 hsm hpos
          go_enter Try.func28, Try.ntmps28
          go_wp2_with (first | (go_at_call_of 12 (Value.int IntKind.u64 (x : Int)); refine (C.out _ c HC.out).mono ?_; rintro e w' ⟨rfl, rfl⟩) | (go_at_call 45; refine (refNone_any _).mono ?_; rintro e w' ⟨rfl, rfl⟩) | (go_at_call 46; refine P.out.mono ?_; rintro e w' ⟨rfl, rfl⟩))
          go_ret
          exact ⟨ret_u64n R.out.symm, rfl⟩
        · have b3 : (c == 3) = false := by simpa using h3
          have R := Lib.hid (show upN x = x + 1 by rw [R.out]; simp [h3])
          clear h4 h0 h3 hsm hpos
          go_enter Try.func28, Try.ntmps28
          go_wp2_with (first | (go_at_call_of 12 (Value.int IntKind.u64 (x : Int)); refine (C.out _ c HC.out).mono ?_; rintro e w' ⟨rfl, rfl⟩) | (go_at_call 45; refine (refNone_any _).mono ?_; rintro e w' ⟨rfl, rfl⟩) | (go_at_call 46; refine P.out.mono ?_; rintro e w' ⟨rfl, rfl⟩))
          go_ret
          refine ⟨?_, rfl⟩
          rw [R.out]
          go_num
theorem refDown_any (x : Nat) (w : World) (hx : x < 18446744073709551616) :
    Calls Try.prog 30 #[.int .u64 (x : Int)] w fun e w' => e = .returned (.int .u64 (downN x : Nat)) ∧ w = w' := by
  have h1 := negN_lt hx
  have h2 := upN_lt h1
  have A := Lib.hid (fun w => refNeg_any x w hx)
  have B := Lib.hid (fun w => refUp_any (negN x) w h1)
  have D := Lib.hid (fun w => refNeg_any (upN (negN x)) w h2)
  unfold downN
  generalize negN (upN (negN x)) = c at D
  generalize upN (negN x) = b at B D
  generalize negN x = a at A B
  go_enter Try.func30, Try.ntmps30
  go_wp2_with fail
  refine (A.out _).mono ?_; rintro e w' ⟨rfl, rfl⟩
  go_wp2_with fail
  refine (B.out _).mono ?_; rintro e w' ⟨rfl, rfl⟩
  go_wp2_with fail
  refine (D.out _).mono ?_; rintro e w' ⟨rfl, rfl⟩
  go_wp2_with fail
  go_ret
  exact ⟨rfl, rfl⟩
end Go.Proofs.Ytemdhlajdmkppaa
