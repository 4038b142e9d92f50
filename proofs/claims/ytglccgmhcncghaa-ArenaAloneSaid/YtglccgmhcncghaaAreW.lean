/- The walks of layer 7's statements, with a premise a parameter; no condition. -/
import Derived.Test.YtglccgmhcncghaaAreV
import Derived.Test.YtglccgmhcncghaaAreX
namespace Go.Proofs.Ytglccgmhcncghaa
set_option linter.unusedVariables false
set_option linter.unusedSimpArgs false
open Go.RowKit

theorem answers7_frame (A : Option Addr) (n c : Nat) (rs : List Rec3) (fr i0 i1 : Int) (w : World) (hx : Rs w A n c rs ∧ (Lit.int .i64 fr).wf = true) (_ : (Lit.int .i64 i0).wf = true) (_ : (Lit.int .i64 i1).wf = true) :
    Calls Try.prog 3 #[.agg #[.slice A n c, .int .i64 fr], .agg #[.int .i64 i0, .int .i64 i1]] w fun e w' => e = .returned (.bool true) ∧ Below w.heap.size w w' := answers7_walk A n c rs fr i0 i1 w hx.1
theorem back7_frame (A : Option Addr) (n c : Nat) (rs : List Rec3) (fr key task : Int) (w : World) (hx : Rs w A n c rs ∧ (Lit.int .i64 fr).wf = true) (_ : (Lit.int .i64 key).wf = true) (_ : (Lit.int .i64 task).wf = true) :
    Calls Try.prog 5 #[.agg #[.slice A n c, .int .i64 fr], .int .i64 key, .int .i64 task] w fun e w' => e = .returned (.bool true) ∧ Below w.heap.size w w' := back7_walk A n c rs fr key task w hx.1
theorem alone7_frame (k0 : Int) (A : Option Addr) (n c : Nat) (bs : List Int) (w : World) (hk : (Lit.int .u8 k0).wf = true) (hx : Bs w A n c bs) :
    Calls Try.prog 6 #[.int .u8 k0, .slice A n c] w fun e w' => e = .returned (.bool true) ∧ Below w.heap.size w w' := alone7_walk k0 A n c bs w (bounds_u8 hk).1 (bounds_u8 hk).2 hx
end Go.Proofs.Ytglccgmhcncghaa
