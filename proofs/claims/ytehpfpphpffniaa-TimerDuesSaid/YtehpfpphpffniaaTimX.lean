/- How timers of layer 12 that came in are opened; frames' premises; no condition. -/
import Derived.Test.YtehpfpphpffniaaOp
import Derived.Test.YtehpfpphpffniaaTimB
namespace Go.Proofs.Ytehpfpphpffniaa
set_option linter.unusedVariables false
set_option linter.unusedSimpArgs false
open Go.ChangeShapes Go.WideShapes Go.ChangeAt Go.RowKit

def tmF (x : Tm) : List Value := [.int .i64 x.1, .int .i64 x.2]
theorem tmC_flat : ∀ l, tmC l = l.flatMap tmF
  | [] => rfl
  | x :: l => by rw [List.flatMap_cons, ← tmC_flat l]; rfl
theorem tmF_one (x : Tm) : ∀ u ∈ tmF x, u.oneCell' = true := by
  intro u hu
  simp only [tmF, List.mem_cons, List.not_mem_nil, or_false] at hu
  rcases hu with rfl | rfl <;> rfl
theorem opens_timer : Opens 24 (fun _ cs (x : Tm) => cs = tmF x) := by
  intro H enc w base sp held fuel cs x h
  obtain ⟨hl, hf⟩ := opens_fields (k := 2) Try.underlying24 (by kernel_rfl) h
  obtain ⟨a, b, rfl⟩ := list2 hl
  obtain ⟨x0, h0, w0⟩ := hf 0 _ 0 1 rfl (by kernel_rfl) (by kernel_rfl) (opens_int Try.underlying2)
  obtain ⟨x1, h1, w1⟩ := hf 1 _ 1 1 rfl (by kernel_rfl) (by kernel_rfl) (opens_int Try.underlying3)
  simp only [List.drop_zero, List.drop_succ_cons, List.take_succ_cons, List.take_zero, List.cons.injEq, and_true] at h0 h1
  subst h0 h1
  exact ⟨(x0, x1), rfl⟩
section
variable {H : Type} {enc : TypeId × Value → H} {w : World} {base : Nat} {sp : Nat → Bool} {held : Bool} {r : Reach} {b0 : Nat} {v : Value} {d : DataW H} {p : List MemPlace}
theorem open_timer (hv : Value.okWide Try.prog w r b0 24 v) (h : DataW.Trod enc Try.prog w base sp held 24 v d p) :
    ∃ x0 x1, v = .agg #[.int .i64 x0, .int .i64 x1] ∧ True := by
  obtain ⟨cs, ⟨x0, x1⟩, rfl, h1⟩ := open_at_struct Try.underlying24 opens_timer hv h
  exact ⟨x0, x1, agg_of h1, trivial⟩
theorem open_timers (hv : Value.okWide Try.prog w r b0 22 v) (h : DataW.Trod enc Try.prog w base sp held 22 v d p) :
    ∃ A n c l, v = .slice A n c ∧ Tms w A n c l := by
  obtain ⟨A, n, c, l, rfl, A2, n2, c2, h1, hs⟩ := open_at_slice Try.underlying22 (opens_slice (k := 2) Try.underlying22 (by kernel_rfl) (by decide) opens_timer) hv h
  simp only [List.cons.injEq, and_true] at h1
  injection h1 with e1 e2 e3
  subst e1 e2 e3
  have hes := hs.es tmF (fun _ => rfl) tmF_one (fun _ _ _ h => h)
  rw [← tmC_flat] at hes
  exact ⟨A, n, c, l, rfl, hes⟩
end
end Go.Proofs.Ytehpfpphpffniaa
