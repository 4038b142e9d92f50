/- The walk of RwTurns: it answers true, over any world; no condition. -/
import Derived.Test.YtpkegfochfkkcaaRwX1
import Derived.Test.YtpkegfochfkkcaaRwX2
import Derived.Test.YtpkegfochfkkcaaRwX3
import Derived.Test.YtpkegfochfkkcaaRwX4
import Derived.Test.YtpkegfochfkkcaaRwX5
import Derived.Test.YtpkegfochfkkcaaRwX6
namespace Go.Proofs.Ytpkegfochfkkcaa
set_option linter.unusedVariables false
set_option linter.unusedSimpArgs false
open Go.RowKit
theorem turns16_walk (nn : Int) (A : Option Addr) (n c : Nat) (ps : List Int) (B : Option Addr) (m d : Nat) (bs : List Bool) (w : World) (f0 : 0 ≤ nn) (f1 : nn < 256) (hx : Bs w A n c ps) (hy : Es w B m d 1 (bs.map Value.bool)) :
    Calls Try.prog 6 #[.int .u8 nn, .slice A n c, .slice B m d] w fun e w' => e = .returned (.bool true) ∧ Below w.heap.size w w' :=
  turns16_skel.2.2.2.2.2.2 turns16_1 turns16_2 turns16_3 turns16_4 turns16_5 turns16_6 nn A n c ps B m d bs w f0 f1 hx hy
end Go.Proofs.Ytpkegfochfkkcaa
