/- What the document's own order, steps and sums of layer 5 answer; no condition. -/
import Derived.Test.YtmjpemddndjcpaaRealC
import Derived.Laws.FloatArith
import Derived.Laws.Externs
namespace Go.Proofs.Ytmjpemddndjcpaa
set_option linter.unusedVariables false
set_option linter.unusedSimpArgs false
open Go.RowKit

def lessN (x y : Nat) : Bool := decide (clsN x ≠ 4 ∧ clsN y ≠ 4 ∧ ¬ (clsN x = 0 ∧ clsN y = 0) ∧ keyN x < keyN y)
def sameN (x y : Nat) : Bool := decide (clsN x ≠ 4 ∧ clsN y ≠ 4) && !lessN x y && !lessN y x
theorem cls_beq {x : Nat} {c : Int} (hc : (clsN x : Int) = c) (k : Nat) : (c == (k : Int)) = decide (clsN x = k) := by
  subst hc
  by_cases h : clsN x = k
  · simp [h]
  · simp [h]; omega
theorem refLess_any (x y : Nat) (w : World) (hx : x < 18446744073709551616) (hy : y < 18446744073709551616) :
    Calls Try.prog 29 #[.int .u64 (x : Int), .int .u64 (y : Int)] w fun e w' => e = .returned (.bool (lessN x y)) ∧ w = w' := by
  have C := Lib.hid (fun w c hc => refClass_any x c w hx hc); have D := Lib.hid (fun w c hc => refClass_any y c w hy hc)
  have KX := Lib.hid (fun w => refKey_any x w hx); have KY := Lib.hid (fun w => refKey_any y w hy)
  obtain ⟨c, hc⟩ : ∃ c : Int, (clsN x : Int) = c := ⟨_, rfl⟩
  obtain ⟨d, hd⟩ : ∃ d : Int, (clsN y : Int) = d := ⟨_, rfl⟩
  obtain ⟨k, hk⟩ : ∃ k, keyN x = k := ⟨_, rfl⟩
  obtain ⟨l, hl⟩ : ∃ l, keyN y = l := ⟨_, rfl⟩
  have R : lessN x y = (!(c == 4) && !(d == 4) && !((c == 0) && (d == 0)) && decide (k < l)) := by
    have e1 : (c == 4) = decide (clsN x = 4) := cls_beq hc 4
    have e2 : (d == 4) = decide (clsN y = 4) := cls_beq hd 4
    have e3 : (c == 0) = decide (clsN x = 0) := cls_beq hc 0
    have e4 : (d == 0) = decide (clsN y = 0) := cls_beq hd 0
    rw [e1, e2, e3, e4, ← hk, ← hl]
    unfold lessN
    by_cases h1 : clsN x = 4 <;> by_cases h2 : clsN y = 4 <;> by_cases h3 : clsN x = 0 <;> by_cases h4 : clsN y = 0 <;> simp [h1, h2, h3, h4]
  rw [R]
  rw [hk] at KX
  rw [hl] at KY
  have HC := Lib.hid hc; have HD := Lib.hid hd
  clear hc hd R hk hl
  cases h1 : (c == 4) <;> cases h2 : (d == 4) <;> cases h3 : (c == 0) <;> cases h4 : (d == 0)
  all_goals
    go_enter Try.func29, Try.ntmps29
    go_wp2_with (first | (go_at_call_of 31 (Value.int IntKind.u64 (x : Int)); refine (C.out _ c HC.out).mono ?_; rintro e w' ⟨rfl, rfl⟩) | (go_at_call_of 31 (Value.int IntKind.u64 (y : Int)); refine (D.out _ d HD.out).mono ?_; rintro e w' ⟨rfl, rfl⟩) | (go_at_call_of 32 (Value.int IntKind.u64 (x : Int)); refine (KX.out _).mono ?_; rintro e w' ⟨rfl, rfl⟩) | (go_at_call_of 32 (Value.int IntKind.u64 (y : Int)); refine (KY.out _).mono ?_; rintro e w' ⟨rfl, rfl⟩))
    go_ret
    exact ⟨by simp, rfl⟩

def leastN (x y : Nat) : Nat := if clsN x = 4 ∨ clsN y = 4 then 9221120237041090560 else if keyN x ≤ keyN y then x else y
def mostN (x y : Nat) : Nat := if clsN x = 4 ∨ clsN y = 4 then 9221120237041090560 else if keyN y ≤ keyN x then x else y
/-- of the other sign; the next greater, the next lesser one. -/
def negN (x : Nat) : Nat := if clsN x = 4 then 9221120237041090560 else if sgn x then x - 9223372036854775808 else x + 9223372036854775808
def upN (x : Nat) : Nat := if clsN x = 4 then 9221120237041090560 else if clsN x = 0 then 1 else if sgn x then x - 1 else if clsN x = 3 then x else x + 1
def downN (x : Nat) : Nat := negN (upN (negN x))
theorem negN_lt {x : Nat} (hx : x < 18446744073709551616) : negN x < 18446744073709551616 := by
  unfold negN; rw [sgn_iff hx]; split
  · decide
  · by_cases h : 9223372036854775808 ≤ x <;> simp [h] <;> omega
theorem upN_lt {x : Nat} (hx : x < 18446744073709551616) : upN x < 18446744073709551616 := by
  unfold upN; rw [sgn_iff hx]; split
  · decide
  · split
    · decide
    · by_cases h : 9223372036854775808 ≤ x
      · simp [h]; omega
      · simp [h]; split <;> omega
end Go.Proofs.Ytmjpemddndjcpaa
