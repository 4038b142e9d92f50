/- What the program's own functions of layer 8 answer, in the shapes that the statements' walks want; for slices of up to 16384 records. -/
import Derived.Test.YtombfempdfdeoaaQueK
namespace Go.Proofs.Ytombfempdfdeoaa
set_option linter.unusedVariables false
set_option linter.unusedSimpArgs false
open Go.RowKit
/-- an arena and a row come back: the records are the call's own, or what was handed in. -/
def QGot (w : World) (A : Option Addr) (n c : Nat) (r : Aren × Qu × Int) (e : Ending) (w' : World) : Prop :=
  ∃ B m d, e = .returned (.tuple #[.agg #[.slice B m d, .int .i64 r.1.2], .agg #[.int .i64 r.2.1.1, .int .i64 r.2.1.2], .int .i64 r.2.2]) ∧ Rs w' B m d r.1.1 ∧ Below w.heap.size w w' ∧ (w'.ownsRow w.heap.size 55 3 (.slice B m d) m (recC r.1.1) ∨ Value.slice B m d = .slice A n c)
def PGot (w : World) (A : Option Addr) (n c : Nat) (r : Aren × Qu × Int × Int) (e : Ending) (w' : World) : Prop :=
  ∃ B m d, e = .returned (.tuple #[.agg #[.slice B m d, .int .i64 r.1.2], .agg #[.int .i64 r.2.1.1, .int .i64 r.2.1.2], .int .i64 r.2.2.1, .int .i64 r.2.2.2]) ∧ Rs w' B m d r.1.1 ∧ Below w.heap.size w w' ∧ (w'.ownsRow w.heap.size 55 3 (.slice B m d) m (recC r.1.1) ∨ Value.slice B m d = .slice A n c)
theorem QAll.got {w : World} {A : Option Addr} {n c : Nat} {r : Aren × Qu × Int} {e : Ending} {w' : World} (h : QAll w r e w') : QGot w A n c r e w' := by
  obtain ⟨B, m, d, h1, h2, h3⟩ := h; exact ⟨B, m, d, h1, rs_own h2, h3, Or.inl h2⟩
theorem PAll.got {w : World} {A : Option Addr} {n c : Nat} {r : Aren × Qu × Int × Int} {e : Ending} {w' : World} (h : PAll w r e w') : PGot w A n c r e w' := by
  obtain ⟨B, m, d, h1, h2, h3⟩ := h; exact ⟨B, m, d, h1, rs_own h2, h3, Or.inl h2⟩
theorem OwnInts.ints {w : World} {xs : List Int} {e : Ending} {w' : World} (h : OwnInts w xs e w') : IntsPost w xs e w' := by
  obtain ⟨A, n, c, h1, h2, h3⟩ := h
  obtain ⟨_, _, he, hi⟩ := Es.of_own h2 (intC_one _)
  injection he with he1 he2 he3; subst he1; subst he3
  exact ⟨_, _, _, h1, hi, h3⟩
theorem qpPlaces_any (A : Option Addr) (n c : Nat) (rs : List Rec3) (fr hd tl : Int) (w : World) (hx : Rs w A n c rs) (hn : n ≤ 16384) :
    Calls Try.prog 19 #[.agg #[.slice A n c, .int .i64 fr], .agg #[.int .i64 hd, .int .i64 tl]] w (IntsPost w (qPlaces (rs, fr) (hd, tl))) := (qpPlaces_own A n c rs fr hd tl w hx hn).mono fun _ _ h => h.ints
theorem qpTasks_any (A : Option Addr) (n c : Nat) (rs : List Rec3) (fr hd tl : Int) (w : World) (hx : Rs w A n c rs) (hn : n ≤ 16384) :
    Calls Try.prog 17 #[.agg #[.slice A n c, .int .i64 fr], .agg #[.int .i64 hd, .int .i64 tl]] w (IntsPost w (qTasks (rs, fr) (hd, tl))) := (qpTasks_own A n c rs fr hd tl w hx hn).mono fun _ _ h => h.ints
theorem qpPush_any (A : Option Addr) (n c : Nat) (rs : List Rec3) (fr hd tl key task : Int) (front : Bool) (w : World) (hx : Rs w A n c rs) (hn : n ≤ 16384) :
    Calls Try.prog 21 #[.agg #[.slice A n c, .int .i64 fr], .agg #[.int .i64 hd, .int .i64 tl], .int .i64 key, .int .i64 task, .bool front] w (QGot w A n c (qPush (rs, fr) (hd, tl) key task front)) := (qpPush_all A n c rs fr hd tl key task front w hx hn).mono fun _ _ h => h.got
theorem qpPop_any (A : Option Addr) (n c : Nat) (rs : List Rec3) (fr hd tl : Int) (w : World) (hx : Rs w A n c rs) (hn : n ≤ 16384) :
    Calls Try.prog 9 #[.agg #[.slice A n c, .int .i64 fr], .agg #[.int .i64 hd, .int .i64 tl]] w (PGot w A n c (qPop (rs, fr) (hd, tl))) := (qpPop_all A n c rs fr hd tl w hx hn).mono fun _ _ h => h.got
theorem qpDrop_any (A : Option Addr) (n c : Nat) (rs : List Rec3) (fr hd tl task : Int) (w : World) (hx : Rs w A n c rs) (hn : n ≤ 16384) :
    Calls Try.prog 11 #[.agg #[.slice A n c, .int .i64 fr], .agg #[.int .i64 hd, .int .i64 tl], .int .i64 task] w (QGot w A n c (qDrop (rs, fr) (hd, tl) task)) := (qpDrop_all A n c rs fr hd tl task w hx hn).mono fun _ _ h => h.got
end Go.Proofs.Ytombfempdfdeoaa
