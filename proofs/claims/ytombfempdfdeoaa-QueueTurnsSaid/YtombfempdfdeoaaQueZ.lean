/- The walk of QueueTurns, with a premise a parameter; no condition. -/
import Derived.Test.YtombfempdfdeoaaQueY
import Derived.Test.YtombfempdfdeoaaQueX
namespace Go.Proofs.Ytombfempdfdeoaa
set_option linter.unusedVariables false
set_option linter.unusedSimpArgs false
open Go.RowKit

theorem turns8_frame (k0 : Int) (A : Option Addr) (n c : Nat) (bs : List Int) (w : World) (h0 : (Lit.int .u8 k0).wf = true) (hx : Bs w A n c bs) :
    Calls Try.prog 6 #[.int .u8 k0, .slice A n c] w fun e w' => e = .returned (.bool true) ∧ Below w.heap.size w w' := turns8_walk k0 A n c bs w (bounds_u8 h0).1 (bounds_u8 h0).2 hx
end Go.Proofs.Ytombfempdfdeoaa
