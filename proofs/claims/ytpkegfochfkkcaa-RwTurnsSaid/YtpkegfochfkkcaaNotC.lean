/- What the document's own Copy, Add and Park of layer 11 answer; for lists of up to 16384 who wait. -/
import Derived.Test.YtpkegfochfkkcaaNotB
namespace Go.Proofs.Ytpkegfochfkkcaa
set_option linter.unusedVariables false
set_option linter.unusedSimpArgs false
open Go.RowKit
/-- a list whose row is the call's own. -/
def CopyPostN (w : World) (n : Nat) (ws : List Wt) (wa to : Int) (e : Ending) (w' : World) : Prop :=
  ∃ B d, e = .returned (.agg #[.int .u32 wa, .int .u32 to, .slice B n d]) ∧ w'.ownsRow w.heap.size 67 2 (.slice B n d) n (wtC ws) ∧ Below w.heap.size w w'
/-- a list, a ticket, and what was wrong. -/
def AGotN (w : World) (A : Option Addr) (n c : Nat) (r : Nf × Int × Int) (e : Ending) (w' : World) : Prop :=
  ∃ B m d, e = .returned (.tuple #[.agg #[.int .u32 r.1.1, .int .u32 r.1.2.1, .slice B m d], .int .u32 r.2.1, .int .i64 r.2.2]) ∧ Wts w' B m d r.1.2.2 ∧ Below w.heap.size w w' ∧ (w'.ownsRow w.heap.size 67 2 (.slice B m d) m (wtC r.1.2.2) ∨ Value.slice B m d = .slice A n c)
/-- a list, and what was wrong. -/
def NGotN (w : World) (A : Option Addr) (n c : Nat) (r : Nf × Int) (e : Ending) (w' : World) : Prop :=
  ∃ B m d, e = .returned (.tuple #[.agg #[.int .u32 r.1.1, .int .u32 r.1.2.1, .slice B m d], .int .i64 r.2]) ∧ Wts w' B m d r.1.2.2 ∧ Below w.heap.size w w' ∧ (w'.ownsRow w.heap.size 67 2 (.slice B m d) m (wtC r.1.2.2) ∨ Value.slice B m d = .slice A n c)
end Go.Proofs.Ytpkegfochfkkcaa
