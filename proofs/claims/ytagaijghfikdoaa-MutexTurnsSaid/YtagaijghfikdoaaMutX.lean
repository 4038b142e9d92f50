/- The walk of MutexTurns: it answers true, over any world; no condition. -/
import Derived.Test.YtagaijghfikdoaaMutXE
import Derived.Test.YtagaijghfikdoaaMutXF
namespace Go.Proofs.Ytagaijghfikdoaa
set_option linter.unusedVariables false
set_option linter.unusedSimpArgs false
open Go.RowKit
theorem turns15_walk (nn : Int) (A : Option Addr) (n c : Nat) (ps : List Int) (B : Option Addr) (m d : Nat) (ns : List Int) (w : World) (f0 : 0 ≤ nn) (f1 : nn < 256) (hx : Bs w A n c ps) (hy : Bs w B m d ns) :
    Calls Try.prog 7 #[.int .u8 nn, .slice A n c, .slice B m d] w fun e w' => e = .returned (.bool true) ∧ Below w.heap.size w w' :=
  turns15_skel.2.2 turns15_e turns15_f nn A n c ps B m d ns w f0 f1 hx hy
end Go.Proofs.Ytagaijghfikdoaa
