/- How an arena that came in is opened; frames' premises; no condition. -/
import Derived.Test.YtombfempdfdeoaaOp
import Derived.Test.YtombfempdfdeoaaAreA
namespace Go.Proofs.Ytombfempdfdeoaa
set_option linter.unusedVariables false
set_option linter.unusedSimpArgs false
open Go.ChangeShapes Go.WideShapes Go.ChangeAt Go.RowKit

def recF (r : Rec3) : List Value := [.int .i64 r.1, .int .i64 r.2.1, .int .i64 r.2.2]
theorem recC_flat : ∀ rs, recC rs = rs.flatMap recF
  | [] => rfl
  | r :: rs => by rw [List.flatMap_cons, ← recC_flat rs]; rfl
theorem recF_one (r : Rec3) : ∀ u ∈ recF r, u.oneCell' = true := by
  intro u hu
  simp only [recF, List.mem_cons, List.not_mem_nil, or_false] at hu
  rcases hu with rfl | rfl | rfl <;> rfl
theorem opens_rec : Opens 55 (fun _ cs (r : Rec3) => cs = recF r) := by
  intro H enc w base sp held fuel cs x h
  obtain ⟨hl, hf⟩ := opens_fields (k := 3) Try.underlying55 (by kernel_rfl) h
  obtain ⟨a, b, c, rfl⟩ : ∃ a b c, cs = [a, b, c] := by
    match cs, hl with
    | [a, b, c], _ => exact ⟨a, b, c, rfl⟩
  obtain ⟨x0, h0, _⟩ := hf 0 _ 0 1 rfl (by kernel_rfl) (by kernel_rfl) (opens_int Try.underlying3)
  obtain ⟨x1, h1, _⟩ := hf 1 _ 1 1 rfl (by kernel_rfl) (by kernel_rfl) (opens_int Try.underlying3)
  obtain ⟨x2, h2, _⟩ := hf 2 _ 2 1 rfl (by kernel_rfl) (by kernel_rfl) (opens_int Try.underlying3)
  simp only [List.drop_zero, List.drop_succ_cons, List.take_succ_cons, List.take_zero, List.cons.injEq, and_true] at h0 h1 h2
  subst h0 h1 h2
  exact ⟨(x0, x1, x2), rfl⟩
def ArenR (w : World) (cs : List Value) (a : List Rec3 × Int) : Prop := ∃ A n c, cs = [.slice A n c, .int .i64 a.2] ∧ Rs w A n c a.1 ∧ (Lit.int .i64 a.2).wf = true
theorem opens_arena : Opens 24 ArenR := by
  intro H enc w base sp held fuel cs x h
  obtain ⟨hl, hf⟩ := opens_fields (k := 2) Try.underlying24 (by kernel_rfl) h
  obtain ⟨a, b, rfl⟩ := list2 hl
  obtain ⟨l, A, n, c, h0, hs⟩ := hf 0 _ 0 1 rfl (by kernel_rfl) (by kernel_rfl) (opens_slice (k := 3) Try.underlying22 (by kernel_rfl) (by decide) opens_rec)
  obtain ⟨x1, h1, w1⟩ := hf 1 _ 1 1 rfl (by kernel_rfl) (by kernel_rfl) (opens_int Try.underlying3)
  simp only [List.drop_zero, List.drop_succ_cons, List.take_succ_cons, List.take_zero, List.cons.injEq, and_true] at h0 h1
  subst h0 h1
  refine ⟨(l, x1), A, n, c, rfl, ?_, w1⟩
  have := hs.es recF (fun _ => rfl) recF_one (fun _ _ _ h => h)
  rw [← recC_flat] at this
  exact this
section
variable {H : Type} {enc : TypeId × Value → H} {w : World} {base : Nat} {sp : Nat → Bool} {held : Bool} {r : Reach} {b0 : Nat} {v : Value} {d : DataW H} {p : List MemPlace}
theorem open_arena (hv : Value.okWide Try.prog w r b0 24 v) (h : DataW.Trod enc Try.prog w base sp held 24 v d p) :
    ∃ A n c rs fr, v = .agg #[.slice A n c, .int .i64 fr] ∧ (Rs w A n c rs ∧ (Lit.int .i64 fr).wf = true) := by
  obtain ⟨cs, ⟨rs, fr⟩, rfl, A, n, c, h1, h2, h3⟩ := open_at_struct Try.underlying24 opens_arena hv h
  exact ⟨A, n, c, rs, fr, agg_of h1, h2, h3⟩
end
end Go.Proofs.Ytombfempdfdeoaa
