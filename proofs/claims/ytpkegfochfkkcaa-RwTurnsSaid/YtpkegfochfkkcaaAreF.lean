/- What the document's own Give and Set of layer 7 answer; for slices of up to 16384 records. -/
import Derived.Test.YtpkegfochfkkcaaAreE
namespace Go.Proofs.Ytpkegfochfkkcaa
set_option linter.unusedVariables false
set_option linter.unusedSimpArgs false
open Go.RowKit

theorem live_bounds {p : Aren} {i : Int} (h : liveS p i = true) : 0 ≤ i ∧ i < (p.1.length : Int) := by
  have := of_decide_eq_true h; exact ⟨this.1, this.2.1⟩
theorem leads_step {p : Aren} {i : Int} {k : Nat} (h : ¬ leadsTo p i k) (hk : ¬ (liveS p k = true ∧ (recAt p.1 k).2.2 = i)) : ¬ leadsTo p i (k + 1) := by
  rintro ⟨j, hj, h1, h2⟩
  rcases Nat.lt_or_ge j k with h3 | h3
  · exact h ⟨j, h3, h1, h2⟩
  · obtain rfl : j = k := by omega
    exact hk ⟨h1, h2⟩
end Go.Proofs.Ytpkegfochfkkcaa
