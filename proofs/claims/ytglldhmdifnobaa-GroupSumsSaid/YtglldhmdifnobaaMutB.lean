/- Layer 15: frames as cells; what the document's own Bit, Begin and state answer; no condition but those in each theorem. -/
import Derived.Test.YtglldhmdifnobaaMutP
import Derived.Test.YtglldhmdifnobaaAreG
namespace Go.Proofs.Ytglldhmdifnobaa
set_option linter.unusedVariables false
set_option linter.unusedSimpArgs false
open Go.RowKit
theorem shr_div (x : Int) (k : Nat) : x >>> k = x / 2 ^ k := by rw [Int.shiftRight_eq_div_pow]; norm_cast
theorem odd_ne (x : Int) : (x.tmod 2 != 0) = decide (x % 2 = 1) := by
  have h := Int.tmod_eq_emod (a := x) (b := 2)
  by_cases h1 : x % 2 = 1
  · rw [decide_eq_true h1]
    have : x.tmod 2 ≠ 0 := fun h2 => by have := Int.dvd_of_tmod_eq_zero h2; omega
    simpa using this
  · rw [decide_eq_false h1]
    have h2 : x % 2 = 0 := by omega
    have : x.tmod 2 = 0 := Int.tmod_eq_zero_of_dvd (Int.dvd_of_emod_eq_zero h2)
    simp [this]
end Go.Proofs.Ytglldhmdifnobaa
