/- Layer 8's contracts in the shapes that the statements' walks want: each row is old, or lies in a block of records; no condition but those in each theorem. -/
import Derived.Test.YtombfempdfdeoaaQueO
import Derived.Test.YtombfempdfdeoaaQueR
import Derived.Test.YtombfempdfdeoaaRo
namespace Go.Proofs.Ytombfempdfdeoaa
set_option linter.unusedVariables false
set_option linter.unusedSimpArgs false
open Go.RowKit
/-- records that are held. -/
abbrev Rr (w0 w : World) (B : Option Addr) (m d : Nat) (rs : List Rec3) : Prop := Ro 55 3 w0 w B m d (recC rs)
/-- an arena, a row, and what was wrong. -/
def QAs (w0 w : World) (rs : List Rec3) (fr hd tl er : Int) (e : Ending) (w' : World) : Prop :=
  ∃ B m d, e = .returned (.tuple #[.agg #[.slice B m d, .int .i64 fr], .agg #[.int .i64 hd, .int .i64 tl], .int .i64 er]) ∧ Rr w0 w' B m d rs ∧ Below w.heap.size w w'
/-- with a task. -/
def PAs (w0 w : World) (rs : List Rec3) (fr hd tl task er : Int) (e : Ending) (w' : World) : Prop :=
  ∃ B m d, e = .returned (.tuple #[.agg #[.slice B m d, .int .i64 fr], .agg #[.int .i64 hd, .int .i64 tl], .int .i64 task, .int .i64 er]) ∧ Rr w0 w' B m d rs ∧ Below w.heap.size w w'
theorem QGot.as {w0 w : World} {A : Option Addr} {n c : Nat} {rs0 : List Rec3} {r : Aren × Qu × Int} {e : Ending} {w' : World} (h : QGot w A n c r e w') (hx : Rr w0 w A n c rs0) : QAs w0 w r.1.1 r.1.2 r.2.1.1 r.2.1.2 r.2.2 e w' := by
  obtain ⟨B, m, d, h1, h2, h3, h4⟩ := h
  refine ⟨B, m, d, h1, ?_, h3⟩
  rcases h4 with h4 | h4
  · exact Ro.of_own h4 (recC_one _)
  · injection h4 with e1 e2 e3; subst e1; subst e2; subst e3
    exact ⟨h2, (hx.below h3).tag⟩
theorem PGot.as {w0 w : World} {A : Option Addr} {n c : Nat} {rs0 : List Rec3} {r : Aren × Qu × Int × Int} {e : Ending} {w' : World} (h : PGot w A n c r e w') (hx : Rr w0 w A n c rs0) : PAs w0 w r.1.1 r.1.2 r.2.1.1 r.2.1.2 r.2.2.1 r.2.2.2 e w' := by
  obtain ⟨B, m, d, h1, h2, h3, h4⟩ := h
  refine ⟨B, m, d, h1, ?_, h3⟩
  rcases h4 with h4 | h4
  · exact Ro.of_own h4 (recC_one _)
  · injection h4 with e1 e2 e3; subst e1; subst e2; subst e3
    exact ⟨h2, (hx.below h3).tag⟩
theorem PopPost.eq {w : World} {r r' : Aren × Qu × Int × Int} {e : Ending} {w' : World} (h : PopPost w r e w') (he : r = r') : PopPost w r' e w' := he ▸ h
section
variable {w0 : World} {A : Option Addr} {n c : Nat} {rs : List Rec3} {fr hd tl : Int} {w : World}
theorem pushAs (key task : Int) (front : Bool) (hx : Rr w0 w A n c rs) (hn : n ≤ 16384) {rs2 : List Rec3} {fr2 h2 t2 er : Int} (he : qPush (rs, fr) (hd, tl) key task front = ((rs2, fr2), (h2, t2), er)) :
    Calls Try.prog 21 #[.agg #[.slice A n c, .int .i64 fr], .agg #[.int .i64 hd, .int .i64 tl], .int .i64 key, .int .i64 task, .bool front] w (QAs w0 w rs2 fr2 h2 t2 er) := by
  have := qpPush_any A n c rs fr hd tl key task front w hx.es hn
  rw [he] at this
  exact this.mono fun _ _ h => h.as hx
theorem dropAs (task : Int) (hx : Rr w0 w A n c rs) (hn : n ≤ 16384) {rs2 : List Rec3} {fr2 h2 t2 er : Int} (he : qDrop (rs, fr) (hd, tl) task = ((rs2, fr2), (h2, t2), er)) :
    Calls Try.prog 11 #[.agg #[.slice A n c, .int .i64 fr], .agg #[.int .i64 hd, .int .i64 tl], .int .i64 task] w (QAs w0 w rs2 fr2 h2 t2 er) := by
  have := qpDrop_any A n c rs fr hd tl task w hx.es hn
  rw [he] at this
  exact this.mono fun _ _ h => h.as hx
theorem popAs (hx : Rr w0 w A n c rs) (hn : n ≤ 16384) {rs2 : List Rec3} {fr2 h2 t2 task er : Int} (he : qPop (rs, fr) (hd, tl) = ((rs2, fr2), (h2, t2), task, er)) :
    Calls Try.prog 9 #[.agg #[.slice A n c, .int .i64 fr], .agg #[.int .i64 hd, .int .i64 tl]] w (PAs w0 w rs2 fr2 h2 t2 task er) := by
  have := qpPop_any A n c rs fr hd tl w hx.es hn
  rw [he] at this
  exact this.mono fun _ _ h => h.as hx
theorem rightAs (hx : Rr w0 w A n c rs) (hn : n ≤ 16384) {b : Bool} (he : qRight (rs, fr) (hd, tl) = b) :
    Calls Try.prog 14 #[.agg #[.slice A n c, .int .i64 fr], .agg #[.int .i64 hd, .int .i64 tl]] w (YesPost w b) := he ▸ qpRight_any A n c rs fr hd tl w hx.es hn
theorem tasksAs (hx : Rr w0 w A n c rs) (hn : n ≤ 16384) {l : List Int} (he : qTasks (rs, fr) (hd, tl) = l) :
    Calls Try.prog 17 #[.agg #[.slice A n c, .int .i64 fr], .agg #[.int .i64 hd, .int .i64 tl]] w (IntsPost w l) := he ▸ qpTasks_any A n c rs fr hd tl w hx.es hn
theorem placesAs (hx : Rr w0 w A n c rs) (hn : n ≤ 16384) {l : List Int} (he : qPlaces (rs, fr) (hd, tl) = l) :
    Calls Try.prog 19 #[.agg #[.slice A n c, .int .i64 fr], .agg #[.int .i64 hd, .int .i64 tl]] w (IntsPost w l) := he ▸ qpPlaces_any A n c rs fr hd tl w hx.es hn
/-- a copy: its records are the call's own. -/
theorem copyAs (hx : Es w A n c 3 (recC rs)) (hn : n ≤ 16384) : Calls Try.prog 8 #[.agg #[.slice A n c, .int .i64 fr]] w (fun e w' => ∃ B d, e = .returned (.agg #[.slice B n d, .int .i64 fr]) ∧ Rr w0 w' B n d rs ∧ Below w.heap.size w w') := by
  refine (refCopy_any A n c rs fr w hx hn).mono ?_
  rintro e w' ⟨B, d, h1, h2, h3⟩
  exact ⟨B, d, h1, Ro.of_own h2 (recC_one _), h3⟩
theorem intsTrue (xs : List Int) {A2 : Option Addr} {m2 c2 : Nat} (h1 : Is w A n c xs) (h2 : Is w A2 m2 c2 xs) (h3 : xs.length ≤ 1000) : Calls Try.prog 16 #[.slice A n c, .slice A2 m2 c2] w (YesPost w true) := by
  have h := refInts_any A n c xs A2 m2 c2 xs w h1 h2 (by have := h1.len; omega)
  rwa [decide_eq_true rfl] at h
theorem sameAs {B : Option Addr} {m d : Nat} (h1 : Rs w A n c rs) (h2 : Rs w B m d rs) (hn : n ≤ 16384) : Calls Try.prog 13 #[.agg #[.slice A n c, .int .i64 fr], .agg #[.slice B m d, .int .i64 fr]] w (YesPost w true) := by
  have h := refSame_any A n c rs fr B m d rs fr w h1 h2 hn
  rwa [decide_eq_true rfl] at h
end
end Go.Proofs.Ytombfempdfdeoaa
