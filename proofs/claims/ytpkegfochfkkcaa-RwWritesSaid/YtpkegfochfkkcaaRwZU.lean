/- The walk of RwWrites, with a premise a parameter; no condition. -/
import Derived.Test.YtpkegfochfkkcaaRwU
import Derived.Test.YtpkegfochfkkcaaSyX
namespace Go.Proofs.Ytpkegfochfkkcaa
set_option linter.unusedVariables false
set_option linter.unusedSimpArgs false
open Go.RowKit
theorem writes16_frame (kd o0 o1 o2 o3 o4 o5 wa to : Int) (A : Option Addr) (n c : Nat) (B : Option Addr) (m d : Nat) (nl : List Wt) (ll : List Cl) (f : MFr) (x0 x1 : Int) (w : World) (hx : Wts w A n c nl ∧ Cls w B m d ll ∧ ∀ x ∈ [kd, o0, o1, o2, o3, o4, o5], (Lit.int .i64 x).wf = true) (_ : (Lit.int .i64 f.op).wf = true ∧ (Lit.int .i64 f.phase).wf = true ∧ (Lit.int .i64 f.old).wf = true ∧ (Lit.int .i64 f.since).wf = true ∧ (Lit.int .i64 f.left).wf = true) (_ : (Lit.int .i64 x0).wf = true) (_ : (Lit.int .i64 x1).wf = true) :
    Calls Try.prog 4 #[obV kd o0 o1 o2 o3 o4 o5 wa to A n c B m d, frV f, .agg #[.int .i64 x0, .int .i64 x1]] w fun e w' => e = .returned (.bool true) ∧ Below w.heap.size w w' := writes16_walk kd o0 o1 o2 o3 o4 o5 wa to A n c B m d nl ll f.op f.stage f.phase f.old f.since f.left f.awoke f.starve f.need f.front x0 x1 ⟨wf_wrap (hx.2.2 o0 (by simp)), wf_wrap (hx.2.2 o4 (by simp)), wf_wrap (hx.2.2 o5 (by simp))⟩ w hx.1 hx.2.1
end Go.Proofs.Ytpkegfochfkkcaa
