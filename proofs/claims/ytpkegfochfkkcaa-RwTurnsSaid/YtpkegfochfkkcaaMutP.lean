/- Layer 15: a step's answer; the state that one makes, by its bits; no condition. -/
import Derived.Test.YtpkegfochfkkcaaSyA
namespace Go.Proofs.Ytpkegfochfkkcaa
set_option linter.unusedVariables false
set_option linter.unusedSimpArgs false
open Go.RowKit
/-- a step's object, frame and act. -/
def StepC (w : World) (kd o1 o2 o3 o4 o5 wa to : Int) (A : Option Addr) (n c : Nat) (B : Option Addr) (m d : Nat) (r : Int × MFr × MAct) (e : Ending) (w' : World) : Prop :=
  e = .returned (.tuple #[obV kd r.1 o1 o2 o3 o4 o5 wa to A n c B m d, frV r.2.1, acV r.2.2]) ∧ Below w.heap.size w w'
def stB (old : Int) (b0 b1 b2 st aw : Bool) : Int := IntKind.i64.wrap (old + (if !b2 && !b0 then 1 else 0) + (if b0 || b2 then 8 else 0) + (if st && (b0 && !b2) then 4 else 0) - (if aw && b1 then 2 else 0))
theorem stateB (f : MFr) : stateM f = stB f.old (decide (hasBit f.old 0)) (decide (hasBit f.old 1)) (decide (hasBit f.old 2)) f.starve f.awoke := by
  unfold stateM stB
  by_cases h0 : hasBit f.old 0 <;> by_cases h1 : hasBit f.old 1 <;> by_cases h2 : hasBit f.old 2 <;> cases f.starve <;> cases f.awoke <;> simp [h0, h1, h2]
end Go.Proofs.Ytpkegfochfkkcaa
