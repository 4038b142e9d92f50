/- The walk of RwFree in the shape that its frame wants; no condition. -/
import Derived.Test.YtpkegfochfkkcaaRwV
import Derived.Test.YtpkegfochfkkcaaL
namespace Go.Proofs.Ytpkegfochfkkcaa
set_option linter.unusedVariables false
set_option linter.unusedSimpArgs false
open Go.RowKit
theorem free16_frame (nn now : Int) (w : World) (hw : (Lit.int .u8 nn).wf = true) (_ : (Lit.int .i64 now).wf = true) :
    Calls Try.prog 5 #[.int .u8 nn, .int .i64 now] w fun e w' => e = .returned (.bool true) ∧ Below w.heap.size w w' :=
  free16_walk nn now w (bounds_u8 hw).1 (Int.lt_of_le_of_lt (bounds_u8 hw).2 (by decide))
end Go.Proofs.Ytpkegfochfkkcaa
