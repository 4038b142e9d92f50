/- What the document's own far, Out, Told and Right of layer 11 answer; for lists of up to 16384 who wait. -/
import Derived.Test.YtpkegfochfkkcaaNotA
import Derived.Test.YtpkegfochfkkcaaFr
namespace Go.Proofs.Ytpkegfochfkkcaa
set_option linter.unusedVariables false
set_option linter.unusedSimpArgs false
open Go.RowKit
/-- a yes or a no. -/
def YesN (w : World) (b : Bool) (e : Ending) (w' : World) : Prop := e = .returned (.bool b) ∧ Below w.heap.size w w'
end Go.Proofs.Ytpkegfochfkkcaa
