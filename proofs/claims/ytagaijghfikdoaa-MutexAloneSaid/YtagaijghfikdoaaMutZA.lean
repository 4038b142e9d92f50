/- The walk of MutexAlone in the shape that its frame wants; no condition. -/
import Derived.Test.YtagaijghfikdoaaMutV
import Derived.Test.YtagaijghfikdoaaSyX
namespace Go.Proofs.Ytagaijghfikdoaa
set_option linter.unusedVariables false
set_option linter.unusedSimpArgs false
open Go.RowKit
theorem alone15_frame (kd o0 o1 o2 o3 o4 o5 wa to : Int) (A : Option Addr) (n c : Nat) (B : Option Addr) (m d : Nat) (nl : List Wt) (ll : List Cl) (x0 x1 : Int) (w : World) (hx : Wts w A n c nl ∧ Cls w B m d ll ∧ ∀ x ∈ [kd, o0, o1, o2, o3, o4, o5], (Lit.int .i64 x).wf = true) (_ : (Lit.int .i64 x0).wf = true) (_ : (Lit.int .i64 x1).wf = true) :
    Calls Try.prog 6 #[obV kd o0 o1 o2 o3 o4 o5 wa to A n c B m d, .agg #[.int .i64 x0, .int .i64 x1]] w fun e w' => e = .returned (.bool true) ∧ Below w.heap.size w w' := alone15_walk kd o0 o1 o2 o3 o4 o5 wa to A n c B m d nl ll x0 x1 w hx.1 hx.2.1
end Go.Proofs.Ytagaijghfikdoaa
