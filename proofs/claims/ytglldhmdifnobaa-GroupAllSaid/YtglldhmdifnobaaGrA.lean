/- Layer 17: a counter for which one waits, step by step: what the document's words come to; no condition. -/
import Derived.Test.YtglldhmdifnobaaSyA
namespace Go.Proofs.Ytglldhmdifnobaa
set_option linter.unusedVariables false
set_option linter.unusedSimpArgs false
open Go.RowKit
/-- the words 0 and 1, a frame, and an act. -/
abbrev GrR := (Int × Int) × MFr × MAct
def countW (a b : Int) (f : MFr) (z : Int) : GrR :=
  if f.stage = 0 then
    if z < -1073741824 ∨ 1073741824 < z ∨ IntKind.i64.wrap (a + z) < 0 ∨ 1073741824 < IntKind.i64.wrap (a + z) then ((a, b), noF, ⟨false, 0, false, 2⟩)
    else if 0 < IntKind.i64.wrap (a + z) ∨ b = 0 then ((IntKind.i64.wrap (a + z), b), noF, doneA)
    else ((IntKind.i64.wrap (a + z), 0), { f with left := b, stage := 1 }, noA)
  else if f.stage = 1 then
    if IntKind.i64.wrap (f.left - 1) ≤ 0 then ((a, b), noF, ⟨true, 3, false, 0⟩) else ((a, b), { f with left := IntKind.i64.wrap (f.left - 1) }, ⟨false, 3, false, 0⟩)
  else ((a, b), f, noA)
def waitW (a b : Int) (f : MFr) : GrR :=
  if f.stage = 1 ∨ (f.stage = 0 ∧ a = 0) then ((a, b), noF, doneA)
  else if f.stage = 0 then ((a, IntKind.i64.wrap (b + 1)), { f with stage := 1, need := 3 }, noA)
  else ((a, b), f, noA)
/-- a step's object, frame and act. -/
def StepG (w : World) (kd o2 o3 o4 o5 wa to : Int) (A : Option Addr) (n c : Nat) (B : Option Addr) (m d : Nat) (r : GrR) (e : Ending) (w' : World) : Prop :=
  e = .returned (.tuple #[obV kd r.1.1 r.1.2 o2 o3 o4 o5 wa to A n c B m d, frV r.2.1, acV r.2.2]) ∧ Below w.heap.size w w'
end Go.Proofs.Ytglldhmdifnobaa
