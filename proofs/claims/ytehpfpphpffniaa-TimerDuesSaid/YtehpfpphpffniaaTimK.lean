/- Layer 12's answers as a statement's walk wants them: timers that read so, over a world in which nothing that was has turned; no condition but those in each theorem. -/
import Derived.Test.YtehpfpphpffniaaTimG
import Derived.Test.YtehpfpphpffniaaTimH
import Derived.Test.YtehpfpphpffniaaTimI
import Derived.Test.YtehpfpphpffniaaTimJ
namespace Go.Proofs.Ytehpfpphpffniaa
set_option linter.unusedVariables false
set_option linter.unusedSimpArgs false
open Go.RowKit
def HW (w : World) (l : List Tm) (er : Int) (e : Ending) (w' : World) : Prop :=
  ∃ B m d, e = .returned (.tuple #[.slice B m d, .int .i64 er]) ∧ Tms w' B m d l ∧ Below w.heap.size w w'
def PW (w : World) (l : List Tm) (x0 x1 er : Int) (e : Ending) (w' : World) : Prop :=
  ∃ B m d, e = .returned (.tuple #[.slice B m d, .agg #[.int .i64 x0, .int .i64 x1], .int .i64 er]) ∧ Tms w' B m d l ∧ Below w.heap.size w w'
def DW (w : World) (l : List Tm) (t : List Int) (er : Int) (e : Ending) (w' : World) : Prop :=
  ∃ B m d C k f, e = .returned (.tuple #[.slice B m d, .slice C k f, .int .i64 er]) ∧ Tms w' B m d l ∧ Is w' C k f t ∧ Below w.heap.size w w'
def SW (w : World) (l : List Tm) (e : Ending) (w' : World) : Prop :=
  ∃ B m d, e = .returned (.slice B m d) ∧ Tms w' B m d l ∧ Below w.heap.size w w'
section
variable {w w' : World} {A : Option Addr} {n c : Nat} {e : Ending}
theorem is_own12 {w : World} {base : Nat} {C : Option Addr} {k f : Nat} {l : List Int} (h : w.ownsRow base 3 1 (.slice C k f) k (intC l)) : Is w C k f l := by
  obtain ⟨_, _, he, his⟩ := Es.of_own h (intC_one _)
  injection he with e1 e2 e3; subst e1; subst e3; exact his
theorem HGot.as {r : List Tm × Int} (h : HGot w A n c r e w') : HW w r.1 r.2 e w' := by
  obtain ⟨B, m, d, h1, h2, h3, _⟩ := h
  exact ⟨B, m, d, h1, h2, h3⟩
theorem PGot.as {r : List Tm × Tm × Int} (h : PGot w A n c r e w') : PW w r.1 r.2.1.1 r.2.1.2 r.2.2 e w' := by
  obtain ⟨B, m, d, h1, h2, h3, _⟩ := h
  exact ⟨B, m, d, h1, h2, h3⟩
theorem DGot.as {r : List Tm × List Int × Int} (h : DGot w r e w') : DW w r.1 r.2.1 r.2.2 e w' := by
  obtain ⟨B, m, d, C, k, f, h1, h2, h4, h3⟩ := h
  exact ⟨B, m, d, C, k, f, h1, h2, is_own12 h4, h3⟩
theorem OwnT.as {l : List Tm} (h : OwnT w l e w') : SW w l e w' := by
  obtain ⟨B, m, d, h1, h2, h3⟩ := h
  exact ⟨B, m, d, h1, tms_own h2, h3⟩
end
end Go.Proofs.Ytehpfpphpffniaa
