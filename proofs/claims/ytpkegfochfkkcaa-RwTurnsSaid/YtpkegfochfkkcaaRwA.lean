/- Layer 16: readers and writers, step by step: what the document's words come to; no condition. -/
import Derived.Test.YtpkegfochfkkcaaMutA
namespace Go.Proofs.Ytpkegfochfkkcaa
set_option linter.unusedVariables false
set_option linter.unusedSimpArgs false
open Go.RowKit
def stageF (f : MFr) (s : Int) : MFr := ⟨f.op, s, 0, 0, -1, 0, false, false, 0, false⟩
def faultA : MAct := ⟨false, 0, false, 1⟩
/-- the words 0, 4 and 5, a frame, and an act. -/
abbrev RwR := (Int × Int × Int) × MFr × MAct
def rlockW (a b c : Int) (f : MFr) : RwR :=
  if f.stage = 1 then ((a, b, c), noF, doneA)
  else if f.stage ≠ 0 then ((a, b, c), f, noA)
  else if IntKind.i64.wrap (b + 1) < 0 then ((a, IntKind.i64.wrap (b + 1), c), { f with stage := 1, need := 4 }, noA)
  else ((a, IntKind.i64.wrap (b + 1), c), noF, doneA)
def runlockW (a b c : Int) (f : MFr) : RwR :=
  if f.stage = 0 then
    if b = 0 ∨ b = -1048576 then ((a, b, c), noF, faultA)
    else if IntKind.i64.wrap (b - 1) < 0 then ((a, IntKind.i64.wrap (b - 1), c), { f with stage := 1 }, noA)
    else ((a, IntKind.i64.wrap (b - 1), c), noF, doneA)
  else if f.stage = 1 then
    if IntKind.i64.wrap (c - 1) = 0 then ((a, b, IntKind.i64.wrap (c - 1)), { f with stage := 2 }, noA)
    else ((a, b, IntKind.i64.wrap (c - 1)), noF, doneA)
  else if f.stage = 2 then ((a, b, c), noF, ⟨true, 3, false, 0⟩)
  else ((a, b, c), f, noA)
def wlockW (a b c : Int) (f : MFr) (now pat : Int) : RwR :=
  if f.stage = 0 then
    if (lockM a f now pat).2.2.done = true then (((lockM a f now pat).1, b, c), stageF f 1, noA)
    else (((lockM a f now pat).1, b, c), (lockM a f now pat).2.1, (lockM a f now pat).2.2)
  else if f.stage = 1 then
    if b = 0 then ((a, IntKind.i64.wrap (b - 1048576), c), noF, doneA)
    else ((a, IntKind.i64.wrap (b - 1048576), c), { f with left := b, stage := 2 }, noA)
  else if f.stage = 2 then
    if IntKind.i64.wrap (c + f.left) = 0 then ((a, b, IntKind.i64.wrap (c + f.left)), noF, doneA)
    else ((a, b, IntKind.i64.wrap (c + f.left)), { f with stage := 3, need := 3 }, noA)
  else if f.stage = 3 then ((a, b, c), noF, doneA)
  else ((a, b, c), f, noA)
def wunlockW (a b c : Int) (f : MFr) : RwR :=
  if f.stage = 0 ∧ 0 ≤ b then ((a, b, c), noF, faultA)
  else if f.stage = 0 then ((a, IntKind.i64.wrap (b + 1048576), c), { f with left := IntKind.i64.wrap (b + 1048576), stage := 1 }, noA)
  else if f.stage = 1 ∧ 0 < f.left then ((a, b, c), { f with left := IntKind.i64.wrap (f.left - 1) }, ⟨false, 4, false, 0⟩)
  else if f.stage = 1 then ((a, b, c), { f with stage := 2, phase := 0 }, noA)
  else if f.stage = 2 then (((unlockM a f).1, b, c), (unlockM a f).2.1, (unlockM a f).2.2)
  else ((a, b, c), f, noA)
end Go.Proofs.Ytpkegfochfkkcaa
