/-
  No cell of these rows narrows 'for every input' (looked for: loops, veiled, ifaces, maps, wideKeys, modest, calm, conditions, laid).
  DERIVED. THE GIVEN ROWS OF THIS SEAT. 4 by the template 'for every input the law returns true; each argument reads behind the call as it read before'; 0 by the template 'total and deterministic' (their statements: YtpkegfochfkkcaaTotals.lean).
  GIVEN WITH THE SEED: the statements are not yours to turn. If you find one false, say at which input.
  Laid BY PROGRAM, IN A SANDBOX (cutbox-rows.mjs): the forced cells as the released guide's own fill.sh prints them over the translation b9fc4787be39b8b2… (all of the seat's roots in one cut). By AI agents, Wed Nov 11 2026. No macro, syntax, notation, axiom, sorry.
-/
import Derived.Test.YtpkegfochfkkcaaChecked
import GoSem.Claim
import GoSem.ClaimJoined
import GoSem.ClaimMapViews
import Derived.JoinedTies
import Derived.KernelRfl
namespace Go.Proofs.Ytpkegfochfkkcaa
/- THE CELL 'sum', in the pinned program and in every row, IS THE sha256 OF THE DUMP (.gsa) THAT YtpkegfochfkkcaaProg.lean LOADS. Nothing in Lean hashes anything: it is a label: what it is worth is what the hold of that sum in a sandbox is worth. -/
noncomputable def Try.pinned : Pinned := { name := "ytpkegfochfkkcaa", sum := "b9fc4787be39b8b2da903d0154e99b16e58b38d4c765c6198f88a8a06c1b4476", checked := Try.checked }
namespace Rows
def none {H : Type} : Left H := { results := [], args := [] }

/-- 'torporlaw16.RwReads': WHATEVER THE INPUT: true; the input reads as it did. -/
def rwReadsSpec : ChangeSpec := { name := "rwReads", fn := fun _ => fun
  | [d1, d2] => { results := [.lit (.bool true)], args := [d1, d2] }
  | _ => none }
def rwReadsRow : OpenClaim := { program := "ytpkegfochfkkcaa", sum := "b9fc4787be39b8b2da903d0154e99b16e58b38d4c765c6198f88a8a06c1b4476", func := "torpor/torporlaw16.RwReads", spec := "rwReads", apart := false }
def RwReadsSaid : Prop := rwReadsRow.holds Try.pinned (OpenSpec.ofChange rwReadsSpec)

/-- ITS FALSE NEIGHBOUR: 'it returns false'. Refute it at one input. -/
def rwReadsWrong : ChangeSpec := { name := "rwReads", fn := fun _ => fun
  | [d1, d2] => { results := [.lit (.bool false)], args := [d1, d2] }
  | _ => none }
def RwReadsWrongFalsely : Prop := rwReadsRow.holds Try.pinned (OpenSpec.ofChange rwReadsWrong)

/-- 'torporlaw16.RwWrites': WHATEVER THE INPUT: true; the input reads as it did. -/
def rwWritesSpec : ChangeSpec := { name := "rwWrites", fn := fun _ => fun
  | [d1, d2, d3] => { results := [.lit (.bool true)], args := [d1, d2, d3] }
  | _ => none }
def rwWritesRow : OpenClaim := { program := "ytpkegfochfkkcaa", sum := "b9fc4787be39b8b2da903d0154e99b16e58b38d4c765c6198f88a8a06c1b4476", func := "torpor/torporlaw16.RwWrites", spec := "rwWrites", apart := false }
def RwWritesSaid : Prop := rwWritesRow.holds Try.pinned (OpenSpec.ofChange rwWritesSpec)

/-- ITS FALSE NEIGHBOUR: 'it returns false'. Refute it at one input. -/
def rwWritesWrong : ChangeSpec := { name := "rwWrites", fn := fun _ => fun
  | [d1, d2, d3] => { results := [.lit (.bool false)], args := [d1, d2, d3] }
  | _ => none }
def RwWritesWrongFalsely : Prop := rwWritesRow.holds Try.pinned (OpenSpec.ofChange rwWritesWrong)

/-- 'torporlaw16.RwFree': WHATEVER THE INPUT: true; the input reads as it did. -/
def rwFreeSpec : ChangeSpec := { name := "rwFree", fn := fun _ => fun
  | [d1, d2] => { results := [.lit (.bool true)], args := [d1, d2] }
  | _ => none }
def rwFreeRow : OpenClaim := { program := "ytpkegfochfkkcaa", sum := "b9fc4787be39b8b2da903d0154e99b16e58b38d4c765c6198f88a8a06c1b4476", func := "torpor/torporlaw16.RwFree", spec := "rwFree", apart := false }
def RwFreeSaid : Prop := rwFreeRow.holds Try.pinned (OpenSpec.ofChange rwFreeSpec)

/-- ITS FALSE NEIGHBOUR: 'it returns false'. Refute it at one input. -/
def rwFreeWrong : ChangeSpec := { name := "rwFree", fn := fun _ => fun
  | [d1, d2] => { results := [.lit (.bool false)], args := [d1, d2] }
  | _ => none }
def RwFreeWrongFalsely : Prop := rwFreeRow.holds Try.pinned (OpenSpec.ofChange rwFreeWrong)

/-- 'torporlaw16.RwTurns': WHATEVER THE INPUT: true; the input reads as it did. -/
def rwTurnsSpec : ChangeSpec := { name := "rwTurns", fn := fun _ => fun
  | [d1, d2, d3] => { results := [.lit (.bool true)], args := [d1, d2, d3] }
  | _ => none }
def rwTurnsRow : OpenClaim := { program := "ytpkegfochfkkcaa", sum := "b9fc4787be39b8b2da903d0154e99b16e58b38d4c765c6198f88a8a06c1b4476", func := "torpor/torporlaw16.RwTurns", spec := "rwTurns", apart := false }
def RwTurnsSaid : Prop := rwTurnsRow.holds Try.pinned (OpenSpec.ofChange rwTurnsSpec)

/-- ITS FALSE NEIGHBOUR: 'it returns false'. Refute it at one input. -/
def rwTurnsWrong : ChangeSpec := { name := "rwTurns", fn := fun _ => fun
  | [d1, d2, d3] => { results := [.lit (.bool false)], args := [d1, d2, d3] }
  | _ => none }
def RwTurnsWrongFalsely : Prop := rwTurnsRow.holds Try.pinned (OpenSpec.ofChange rwTurnsWrong)

/- THE SECOND FORM. 'bulk': how many values and letters a reading holds, each counted each time it is reached (what is shared counts as often as it is met; a slice's spare places count too). A statement '..UptoSaid' is the law's where the arguments, and the package variables that the reading takes, are together of bulk at most 1048576: NARROWER than '..Said'. Prove '..Said' where nothing that the law and all that it calls make is longer than what came in: it says more and counts as full. Else prove '..UptoSaid'. A law counts once. -/
mutual
def uptoBulk {H : Type} : DataW H → Nat
  | .lit (.string bytes) => bytes.length + 1
  | .lit _ => 1
  | .nil => 1
  | .ptr d => uptoBulk d + 1
  | .slice elems spare => uptoBulkAll elems + uptoBulkAll spare + 1
  | .agg parts => uptoBulkAll parts + 1
  | .iface _ d => uptoBulk d + 1
  | .map entries => uptoBulkEntries entries + 1
  | .held _ => 1
def uptoBulkAll {H : Type} : List (DataW H) → Nat
  | [] => 0
  | d :: r => uptoBulk d + uptoBulkAll r
def uptoBulkEntries {H : Type} : List (Lit × DataW H) → Nat
  | [] => 0
  | x :: r => uptoBulkEntry x + uptoBulkEntries r
def uptoBulkEntry {H : Type} : Lit × DataW H → Nat
  | (.string bytes, d) => bytes.length + uptoBulk d + 1
  | (_, d) => uptoBulk d + 1
 end
def uptoSmall : (H : Type) → List (DataW H) → Bool := fun _ ds => decide (uptoBulkAll ds ≤ 1048576)
def OpenSpec.upto (s : _root_.Go.ChangeSpec) : _root_.Go.OpenSpec := { _root_.Go.OpenSpec.ofChange s with cond := some uptoSmall }

/-- 'torporlaw16.RwReads', WHERE WHAT IT READS IS OF BULK AT MOST 1048576: true; the input reads as it did. -/
def rwReadsUptoRow : OpenClaim := { program := "ytpkegfochfkkcaa", sum := "b9fc4787be39b8b2da903d0154e99b16e58b38d4c765c6198f88a8a06c1b4476", func := "torpor/torporlaw16.RwReads", spec := "rwReads", apart := false, narrowed := true }
def RwReadsUptoSaid : Prop := rwReadsUptoRow.holds Try.pinned (OpenSpec.upto rwReadsSpec)

/-- 'torporlaw16.RwWrites', WHERE WHAT IT READS IS OF BULK AT MOST 1048576: true; the input reads as it did. -/
def rwWritesUptoRow : OpenClaim := { program := "ytpkegfochfkkcaa", sum := "b9fc4787be39b8b2da903d0154e99b16e58b38d4c765c6198f88a8a06c1b4476", func := "torpor/torporlaw16.RwWrites", spec := "rwWrites", apart := false, narrowed := true }
def RwWritesUptoSaid : Prop := rwWritesUptoRow.holds Try.pinned (OpenSpec.upto rwWritesSpec)

/-- 'torporlaw16.RwFree', WHERE WHAT IT READS IS OF BULK AT MOST 1048576: true; the input reads as it did. -/
def rwFreeUptoRow : OpenClaim := { program := "ytpkegfochfkkcaa", sum := "b9fc4787be39b8b2da903d0154e99b16e58b38d4c765c6198f88a8a06c1b4476", func := "torpor/torporlaw16.RwFree", spec := "rwFree", apart := false, narrowed := true }
def RwFreeUptoSaid : Prop := rwFreeUptoRow.holds Try.pinned (OpenSpec.upto rwFreeSpec)

/-- 'torporlaw16.RwTurns', WHERE WHAT IT READS IS OF BULK AT MOST 1048576: true; the input reads as it did. -/
def rwTurnsUptoRow : OpenClaim := { program := "ytpkegfochfkkcaa", sum := "b9fc4787be39b8b2da903d0154e99b16e58b38d4c765c6198f88a8a06c1b4476", func := "torpor/torporlaw16.RwTurns", spec := "rwTurns", apart := false, narrowed := true }
def RwTurnsUptoSaid : Prop := rwTurnsUptoRow.holds Try.pinned (OpenSpec.upto rwTurnsSpec)

end Rows
end Go.Proofs.Ytpkegfochfkkcaa
