/- What the document's own sums of layer 5 answer; no condition. -/
import Derived.Test.YtemdhlajdmkppaaRealD
namespace Go.Proofs.Ytemdhlajdmkppaa
set_option linter.unusedVariables false
set_option linter.unusedSimpArgs false
open Go.RowKit

/-- what is reckoned, by one word where it is none. -/
def orNone (r : Option Nat) : Nat := r.getD 9221120237041090560
theorem cls_none : clsN 9221120237041090560 = 4 := by decide
theorem plain_ok {r : Nat} (h : rung r ≤ 9218868437227405312) : plainN r = r := by
  unfold plainN
  rw [if_neg]
  intro h4
  have := cls4.1 h4
  omega
theorem plain_nan {r : Nat} (h : 9218868437227405312 < rung r) : plainN r = 9221120237041090560 := by unfold plainN; rw [if_pos (cls4.2 h)]
/-- the bits of what is none, as they are drawn. -/
theorem nan_cut (x y t : Nat) : 9218868437227405312 < rung ((Question.nanBits .f64 x y).cut t) ∧ (Question.nanBits .f64 x y).cut t < 18446744073709551616 := by
  unfold Question.cut rung
  simp only
  have h1 := Nat.mod_lt t (show 0 < 2 by decide)
  have h2 := Nat.mod_lt (t / 2) (show 0 < 2 ^ 52 - 1 by decide)
  generalize t % 2 = a at *
  generalize t / 2 % (2 ^ 52 - 1) = c at *
  constructor <;> omega
theorem frombits (x : Nat) (W : World) : (callFunc 52 #[.int .u64 (x : Int)]).run Try.prog W = .ok (.value (.float .f64 x)) W := by
  rw [run_callFunc_extern (e := Extern.MathFloatBits.float64frombits) Try.func52 (by kernel_rfl) (by kernel_rfl) (by kernel_rfl) (by kernel_rfl)]
  rfl
theorem tobits (b : Nat) (W : World) : (callFunc 51 #[.float .f64 b]).run Try.prog W = .ok (.value (.int .u64 (b : Int))) W := by
  rw [run_callFunc_extern (e := Extern.MathFloatBits.float64bits) Try.func51 (by kernel_rfl) (by kernel_rfl) (by kernel_rfl) (by kernel_rfl)]
  rfl
theorem float_none (op : BinOp) (t : TypeId) (x y : Nat) (w : World) (ho : op = .add ∨ op = .sub ∨ op = .mul ∨ op = .quo) (h : floatBits op .f64 x y = none) :
    ∃ b, 9218868437227405312 < rung b ∧ b < 18446744073709551616 ∧ (binOp op t (.float .f64 x) (.float .f64 y)).run Try.prog w = .ok (.float .f64 b) w.drew := by
  obtain ⟨h1, h2⟩ := nan_cut x y (w.tape w.drawn (Question.nanBits .f64 x y))
  refine ⟨_, h1, h2, ?_⟩
  unfold floatBits at h
  rcases ho with rfl | rfl | rfl | rfl <;> simp only at h <;> simp [binOp, Op.floatArith, h, Question.forced]
theorem refAdd_any (x y : Nat) (w : World) :
    Calls Try.prog 32 #[.int .u64 (x : Int), .int .u64 (y : Int)] w fun e w' => e = .returned (.int .u64 (orNone (Ieee.double.add x y) : Nat)) ∧ Below w.heap.size w w' := by
  have f1 := frombits x; have f2 := frombits y
  obtain ⟨r, hr⟩ : ∃ r, Ieee.double.add x y = r := ⟨_, rfl⟩
  rw [hr]
  cases r with
  | some r =>
    have hw := add_rung hr
    have h1 := fun W => run_float_arith (P := Try.prog) W .add 38 .f64 x y r hr
    have h2 := tobits r
    have R := Lib.hid (show plainN r = orNone (some r) from plain_ok hw.1)
    have HW := Lib.hid hw.2
    clear hw hr
    go_enter Try.func32, Try.ntmps32
    go_wp2_with fail
    refine (refPlain_any r _ HW.out).mono ?_; rintro e w' ⟨rfl, rfl⟩
    rw [R.out]
    go_wp2_with fail
    go_ret
    exact ⟨rfl, Below.refl _ _⟩
  | none =>
    obtain ⟨b, hb1, hb2, h1⟩ := float_none .add 38 x y w (by simp) hr
    have h2 := tobits b
    have R := Lib.hid (show plainN b = orNone none from plain_nan hb1)
    have HW := Lib.hid hb2
    clear hb1 hb2 hr
    go_enter Try.func32, Try.ntmps32
    go_wp2_with fail
    refine (refPlain_any b _ HW.out).mono ?_; rintro e w' ⟨rfl, rfl⟩
    rw [R.out]
    go_wp2_with fail
    go_ret
    exact ⟨rfl, (Below.refl _ _).drew⟩
theorem refSub_any (x y : Nat) (w : World) :
    Calls Try.prog 34 #[.int .u64 (x : Int), .int .u64 (y : Int)] w fun e w' => e = .returned (.int .u64 (orNone (Ieee.double.sub x y) : Nat)) ∧ Below w.heap.size w w' := by
  have f1 := frombits x; have f2 := frombits y
  obtain ⟨r, hr⟩ : ∃ r, Ieee.double.sub x y = r := ⟨_, rfl⟩
  rw [hr]
  cases r with
  | some r =>
    have hw := sub_rung hr
    have h1 := fun W => run_float_arith (P := Try.prog) W .sub 38 .f64 x y r hr
    have h2 := tobits r
    have R := Lib.hid (show plainN r = orNone (some r) from plain_ok hw.1)
    have HW := Lib.hid hw.2
    clear hw hr
    go_enter Try.func34, Try.ntmps34
    go_wp2_with fail
    refine (refPlain_any r _ HW.out).mono ?_; rintro e w' ⟨rfl, rfl⟩
    rw [R.out]
    go_wp2_with fail
    go_ret
    exact ⟨rfl, Below.refl _ _⟩
  | none =>
    obtain ⟨b, hb1, hb2, h1⟩ := float_none .sub 38 x y w (by simp) hr
    have h2 := tobits b
    have R := Lib.hid (show plainN b = orNone none from plain_nan hb1)
    have HW := Lib.hid hb2
    clear hb1 hb2 hr
    go_enter Try.func34, Try.ntmps34
    go_wp2_with fail
    refine (refPlain_any b _ HW.out).mono ?_; rintro e w' ⟨rfl, rfl⟩
    rw [R.out]
    go_wp2_with fail
    go_ret
    exact ⟨rfl, (Below.refl _ _).drew⟩
theorem refMul_any (x y : Nat) (w : World) :
    Calls Try.prog 36 #[.int .u64 (x : Int), .int .u64 (y : Int)] w fun e w' => e = .returned (.int .u64 (orNone (Ieee.double.mul x y) : Nat)) ∧ Below w.heap.size w w' := by
  have f1 := frombits x; have f2 := frombits y
  obtain ⟨r, hr⟩ : ∃ r, Ieee.double.mul x y = r := ⟨_, rfl⟩
  rw [hr]
  cases r with
  | some r =>
    have hw := mul_rung hr
    have h1 := fun W => run_float_arith (P := Try.prog) W .mul 38 .f64 x y r hr
    have h2 := tobits r
    have R := Lib.hid (show plainN r = orNone (some r) from plain_ok hw.1)
    have HW := Lib.hid hw.2
    clear hw hr
    go_enter Try.func36, Try.ntmps36
    go_wp2_with fail
    refine (refPlain_any r _ HW.out).mono ?_; rintro e w' ⟨rfl, rfl⟩
    rw [R.out]
    go_wp2_with fail
    go_ret
    exact ⟨rfl, Below.refl _ _⟩
  | none =>
    obtain ⟨b, hb1, hb2, h1⟩ := float_none .mul 38 x y w (by simp) hr
    have h2 := tobits b
    have R := Lib.hid (show plainN b = orNone none from plain_nan hb1)
    have HW := Lib.hid hb2
    clear hb1 hb2 hr
    go_enter Try.func36, Try.ntmps36
    go_wp2_with fail
    refine (refPlain_any b _ HW.out).mono ?_; rintro e w' ⟨rfl, rfl⟩
    rw [R.out]
    go_wp2_with fail
    go_ret
    exact ⟨rfl, (Below.refl _ _).drew⟩
theorem refDiv_any (x y : Nat) (w : World) :
    Calls Try.prog 38 #[.int .u64 (x : Int), .int .u64 (y : Int)] w fun e w' => e = .returned (.int .u64 (orNone (Ieee.double.div x y) : Nat)) ∧ Below w.heap.size w w' := by
  have f1 := frombits x; have f2 := frombits y
  obtain ⟨r, hr⟩ : ∃ r, Ieee.double.div x y = r := ⟨_, rfl⟩
  rw [hr]
  cases r with
  | some r =>
    have hw := div_rung hr
    have h1 := fun W => run_float_arith (P := Try.prog) W .quo 38 .f64 x y r hr
    have h2 := tobits r
    have R := Lib.hid (show plainN r = orNone (some r) from plain_ok hw.1)
    have HW := Lib.hid hw.2
    clear hw hr
    go_enter Try.func38, Try.ntmps38
    go_wp2_with fail
    refine (refPlain_any r _ HW.out).mono ?_; rintro e w' ⟨rfl, rfl⟩
    rw [R.out]
    go_wp2_with fail
    go_ret
    exact ⟨rfl, Below.refl _ _⟩
  | none =>
    obtain ⟨b, hb1, hb2, h1⟩ := float_none .quo 38 x y w (by simp) hr
    have h2 := tobits b
    have R := Lib.hid (show plainN b = orNone none from plain_nan hb1)
    have HW := Lib.hid hb2
    clear hb1 hb2 hr
    go_enter Try.func38, Try.ntmps38
    go_wp2_with fail
    refine (refPlain_any b _ HW.out).mono ?_; rintro e w' ⟨rfl, rfl⟩
    rw [R.out]
    go_wp2_with fail
    go_ret
    exact ⟨rfl, (Below.refl _ _).drew⟩
end Go.Proofs.Ytemdhlajdmkppaa
