/- What the document's own Right, Live, Free of layer 7 answer; for slices of up to 16384 records. -/
import Derived.Test.YtpkegfochfkkcaaAreB
namespace Go.Proofs.Ytpkegfochfkkcaa
set_option linter.unusedVariables false
set_option linter.unusedSimpArgs false
open Go.RowKit

theorem okAll_step {rs : List Rec3} {l : List Int} {k : Nat} (h : okAll rs l k) (hk : (k : Int) ∈ l ∨ okRec rs.length l (recAt rs k)) : okAll rs l (k + 1) := fun i hi => by
  rcases Nat.lt_or_ge i k with h1 | h1
  · exact h i h1
  · obtain rfl : i = k := by omega
    exact hk
end Go.Proofs.Ytpkegfochfkkcaa
