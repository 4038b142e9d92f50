/- How a row that came in is opened; frames' premises of layer 8; no condition. -/
import Derived.Test.YtombfempdfdeoaaAreX
namespace Go.Proofs.Ytombfempdfdeoaa
set_option linter.unusedVariables false
set_option linter.unusedSimpArgs false
open Go.ChangeShapes Go.WideShapes Go.ChangeAt Go.RowKit

theorem opens_queue : Opens 26 (fun _ cs (q : Int × Int) => cs = [.int .i64 q.1, .int .i64 q.2] ∧ (Lit.int .i64 q.1).wf = true ∧ (Lit.int .i64 q.2).wf = true) := by
  intro H enc w base sp held fuel cs x h
  obtain ⟨hl, hf⟩ := opens_fields (k := 2) Try.underlying26 (by kernel_rfl) h
  obtain ⟨a, b, rfl⟩ := list2 hl
  obtain ⟨x0, h0, w0⟩ := hf 0 _ 0 1 rfl (by kernel_rfl) (by kernel_rfl) (opens_int Try.underlying3)
  obtain ⟨x1, h1, w1⟩ := hf 1 _ 1 1 rfl (by kernel_rfl) (by kernel_rfl) (opens_int Try.underlying3)
  simp only [List.drop_zero, List.drop_succ_cons, List.take_succ_cons, List.take_zero, List.cons.injEq, and_true] at h0 h1
  subst h0 h1
  exact ⟨(x0, x1), rfl, w0, w1⟩
section
variable {H : Type} {enc : TypeId × Value → H} {w : World} {base : Nat} {sp : Nat → Bool} {held : Bool} {r : Reach} {b0 : Nat} {v : Value} {d : DataW H} {p : List MemPlace}
theorem open_queue (hv : Value.okWide Try.prog w r b0 26 v) (h : DataW.Trod enc Try.prog w base sp held 26 v d p) :
    ∃ hd tl, v = .agg #[.int .i64 hd, .int .i64 tl] ∧ ((Lit.int .i64 hd).wf = true ∧ (Lit.int .i64 tl).wf = true) := by
  obtain ⟨cs, ⟨hd, tl⟩, rfl, h1, h2, h3⟩ := open_at_struct Try.underlying26 opens_queue hv h
  exact ⟨hd, tl, agg_of h1, h2, h3⟩
end
end Go.Proofs.Ytombfempdfdeoaa
