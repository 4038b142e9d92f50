/- The walk of OnceTurns in the shape that its frame wants; no condition. -/
import Derived.Test.YtkecmiedeihdgaaOncX
import Derived.Test.YtkecmiedeihdgaaL
namespace Go.Proofs.Ytkecmiedeihdgaa
set_option linter.unusedVariables false
set_option linter.unusedSimpArgs false
open Go.RowKit
theorem turns18_frame (nn : Int) (A : Option Addr) (n c : Nat) (ps : List Int) (B : Option Addr) (m d : Nat) (ns : List Int) (w : World) (hw : (Lit.int .u8 nn).wf = true) (hx : Bs w A n c ps) (hy : Bs w B m d ns) :
    Calls Try.prog 4 #[.int .u8 nn, .slice A n c, .slice B m d] w fun e w' => e = .returned (.bool true) ∧ Below w.heap.size w w' := by
  exact turns18_walk nn A n c ps B m d ns w (bounds_u8 hw).1 (Int.lt_of_le_of_lt (bounds_u8 hw).2 (by decide)) hx hy
end Go.Proofs.Ytkecmiedeihdgaa
