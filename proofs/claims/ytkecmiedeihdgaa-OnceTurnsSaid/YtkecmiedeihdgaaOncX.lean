/- The walk of OnceTurns: it answers true, over any world; no condition. -/
import Derived.Test.YtkecmiedeihdgaaOncX1
import Derived.Test.YtkecmiedeihdgaaOncX2
import Derived.Test.YtkecmiedeihdgaaOncX3
import Derived.Test.YtkecmiedeihdgaaOncX4
import Derived.Test.YtkecmiedeihdgaaOncX5
namespace Go.Proofs.Ytkecmiedeihdgaa
set_option linter.unusedVariables false
set_option linter.unusedSimpArgs false
open Go.RowKit
theorem turns18_walk (nn : Int) (A : Option Addr) (n c : Nat) (ps : List Int) (B : Option Addr) (m d : Nat) (ns : List Int) (w : World) (f0 : 0 ≤ nn) (f1 : nn < 256) (hx : Bs w A n c ps) (hy : Bs w B m d ns) :
    Calls Try.prog 4 #[.int .u8 nn, .slice A n c, .slice B m d] w fun e w' => e = .returned (.bool true) ∧ Below w.heap.size w w' :=
  turns18_skel.2.2.2.2.2 turns18_1 turns18_2 turns18_3 turns18_4 turns18_5 nn A n c ps B m d ns w f0 f1 hx hy
end Go.Proofs.Ytkecmiedeihdgaa
