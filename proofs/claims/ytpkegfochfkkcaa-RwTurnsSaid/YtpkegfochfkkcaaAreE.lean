/- What the document's own Take of layer 7 answers; for slices of up to 16384 records. -/
import Derived.Test.YtpkegfochfkkcaaAreD
namespace Go.Proofs.Ytpkegfochfkkcaa
set_option linter.unusedVariables false
set_option linter.unusedSimpArgs false
open Go.RowKit

section
variable {w0 w w' : World} {q : Nat} {A : Option Addr} {n c : Nat} {fr : Int} {x y : Value}
end
/-- an arena, a place, and what was wrong. -/
def TakePost (w : World) (r : Aren × Int × Int) (e : Ending) (w' : World) : Prop :=
  ∃ B m d, e = .returned (.tuple #[.agg #[.slice B m d, .int .i64 r.1.2], .int .i64 r.2.1, .int .i64 r.2.2]) ∧ Rs w' B m d r.1.1 ∧ Below w.heap.size w w'
/-- an arena, and what was wrong. -/
def GivePost (w : World) (r : Aren × Int) (e : Ending) (w' : World) : Prop :=
  ∃ B m d, e = .returned (.tuple #[.agg #[.slice B m d, .int .i64 r.1.2], .int .i64 r.2]) ∧ Rs w' B m d r.1.1 ∧ Below w.heap.size w w'
end Go.Proofs.Ytpkegfochfkkcaa
