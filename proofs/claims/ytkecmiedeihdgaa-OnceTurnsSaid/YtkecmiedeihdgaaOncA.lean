/- Layer 18: what is done once, step by step: what the document's words come to; no condition. -/
import Derived.Test.YtkecmiedeihdgaaRwA
namespace Go.Proofs.Ytkecmiedeihdgaa
set_option linter.unusedVariables false
set_option linter.unusedSimpArgs false
open Go.RowKit
/-- the words 0 and 2, a frame, an act, and its value. -/
abbrev OnR := (Int × Int) × MFr × MAct × Int
def onceW (a c : Int) (f : MFr) (now pat : Int) : OnR :=
  if f.stage = 0 ∧ c = 1 then ((a, c), noF, doneA, 0)
  else if f.stage = 2 ∧ c ≠ 1 then ((a, c), noF, doneA, 1)
  else if f.stage = 0 then ((a, c), { f with stage := 1, phase := 0 }, noA, 0)
  else if f.stage = 2 then ((a, c), { f with stage := 3, phase := 0 }, noA, 0)
  else if f.stage = 1 then
    if (lockM a f now pat).2.2.done = true then (((lockM a f now pat).1, c), stageF f 2, noA, 0)
    else (((lockM a f now pat).1, c), (lockM a f now pat).2.1, (lockM a f now pat).2.2, 0)
  else if f.stage = 3 then (((unlockM a f).1, c), (unlockM a f).2.1, (unlockM a f).2.2, 0)
  else ((a, c), f, noA, 0)
def endW (a c : Int) (f : MFr) : OnR :=
  if f.stage = 0 ∧ ¬ hasBit a 0 then ((a, c), noF, faultA, 0)
  else if f.stage = 0 then ((a, 1), { f with stage := 1, phase := 0 }, noA, 0)
  else if f.stage = 1 then (((unlockM a f).1, c), (unlockM a f).2.1, (unlockM a f).2.2, 0)
  else ((a, c), f, noA, 0)
end Go.Proofs.Ytkecmiedeihdgaa
