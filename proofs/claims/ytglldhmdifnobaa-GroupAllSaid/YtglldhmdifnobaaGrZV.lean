/- The walk of GroupAll in the shape that its frame wants; no condition. -/
import Derived.Test.YtglldhmdifnobaaGrV
import Derived.Test.YtglldhmdifnobaaL
namespace Go.Proofs.Ytglldhmdifnobaa
set_option linter.unusedVariables false
set_option linter.unusedSimpArgs false
open Go.RowKit
theorem all17_frame (nn bb : Int) (w : World) (hw : (Lit.int .u8 nn).wf = true) (hv : (Lit.int .u8 bb).wf = true) :
    Calls Try.prog 5 #[.int .u8 nn, .int .u8 bb] w fun e w' => e = .returned (.bool true) ∧ Below w.heap.size w w' :=
  all17_walk nn bb w (bounds_u8 hw).1 (Int.lt_of_le_of_lt (bounds_u8 hw).2 (by decide)) (bounds_u8 hv).1 (Int.lt_of_le_of_lt (bounds_u8 hv).2 (by decide))
end Go.Proofs.Ytglldhmdifnobaa
