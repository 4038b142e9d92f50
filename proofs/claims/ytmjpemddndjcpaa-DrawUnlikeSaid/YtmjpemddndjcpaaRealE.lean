/- What the document's own sums of layer 5 answer; no condition. -/
import Derived.Test.YtmjpemddndjcpaaRealD
namespace Go.Proofs.Ytmjpemddndjcpaa
set_option linter.unusedVariables false
set_option linter.unusedSimpArgs false
open Go.RowKit

/-- what is reckoned, by one word where it is none. -/
def orNone (r : Option Nat) : Nat := r.getD 9221120237041090560
theorem cls_none : clsN 9221120237041090560 = 4 := by decide
theorem plain_ok {r : Nat} (h : rung r ≤ 9218868437227405312) : plainN r = r := by
  unfold plainN
  rw [if_neg]
  intro h4
  have := cls4.1 h4
  omega
theorem plain_nan {r : Nat} (h : 9218868437227405312 < rung r) : plainN r = 9221120237041090560 := by unfold plainN; rw [if_pos (cls4.2 h)]
/-- the bits of what is none, as they are drawn. -/
theorem nan_cut (x y t : Nat) : 9218868437227405312 < rung ((Question.nanBits .f64 x y).cut t) ∧ (Question.nanBits .f64 x y).cut t < 18446744073709551616 := by
  unfold Question.cut rung
  simp only
  have h1 := Nat.mod_lt t (show 0 < 2 by decide)
  have h2 := Nat.mod_lt (t / 2) (show 0 < 2 ^ 52 - 1 by decide)
  generalize t % 2 = a at *
  generalize t / 2 % (2 ^ 52 - 1) = c at *
  constructor <;> omega
theorem frombits (x : Nat) (W : World) : (callFunc 33 #[.int .u64 (x : Int)]).run Try.prog W = .ok (.value (.float .f64 x)) W := by
  rw [run_callFunc_extern (e := Extern.MathFloatBits.float64frombits) Try.func33 (by kernel_rfl) (by kernel_rfl) (by kernel_rfl) (by kernel_rfl)]
  rfl
theorem tobits (b : Nat) (W : World) : (callFunc 27 #[.float .f64 b]).run Try.prog W = .ok (.value (.int .u64 (b : Int))) W := by
  rw [run_callFunc_extern (e := Extern.MathFloatBits.float64bits) Try.func27 (by kernel_rfl) (by kernel_rfl) (by kernel_rfl) (by kernel_rfl)]
  rfl
theorem float_none (op : BinOp) (t : TypeId) (x y : Nat) (w : World) (ho : op = .add ∨ op = .sub ∨ op = .mul ∨ op = .quo) (h : floatBits op .f64 x y = none) :
    ∃ b, 9218868437227405312 < rung b ∧ b < 18446744073709551616 ∧ (binOp op t (.float .f64 x) (.float .f64 y)).run Try.prog w = .ok (.float .f64 b) w.drew := by
  obtain ⟨h1, h2⟩ := nan_cut x y (w.tape w.drawn (Question.nanBits .f64 x y))
  refine ⟨_, h1, h2, ?_⟩
  unfold floatBits at h
  rcases ho with rfl | rfl | rfl | rfl <;> simp only at h <;> simp [binOp, Op.floatArith, h, Question.forced]
end Go.Proofs.Ytmjpemddndjcpaa
