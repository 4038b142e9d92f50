/- How a list of layer 11 that came in is opened; frames' premises; no condition. -/
import Derived.Test.YtjpgmkbcjedhfaaOp
import Derived.Test.YtjpgmkbcjedhfaaNotA
namespace Go.Proofs.Ytjpgmkbcjedhfaa
set_option linter.unusedVariables false
set_option linter.unusedSimpArgs false
open Go.ChangeShapes Go.WideShapes Go.ChangeAt Go.RowKit

def wtF (x : Wt) : List Value := [.int .u32 x.1, .int .i64 x.2]
theorem wtC_flat : ∀ ws, wtC ws = ws.flatMap wtF
  | [] => rfl
  | x :: ws => by rw [List.flatMap_cons, ← wtC_flat ws]; rfl
theorem wtF_one (x : Wt) : ∀ u ∈ wtF x, u.oneCell' = true := by
  intro u hu
  simp only [wtF, List.mem_cons, List.not_mem_nil, or_false] at hu
  rcases hu with rfl | rfl <;> rfl
theorem opens_waiter : Opens 53 (fun _ cs (x : Wt) => cs = wtF x ∧ (Lit.int .u32 x.1).wf = true ∧ (Lit.int .i64 x.2).wf = true) := by
  intro H enc w base sp held fuel cs x h
  obtain ⟨hl, hf⟩ := opens_fields (k := 2) Try.underlying53 (by kernel_rfl) h
  obtain ⟨a, b, rfl⟩ := list2 hl
  obtain ⟨x0, h0, w0⟩ := hf 0 _ 0 1 rfl (by kernel_rfl) (by kernel_rfl) (opens_int Try.underlying22)
  obtain ⟨x1, h1, w1⟩ := hf 1 _ 1 1 rfl (by kernel_rfl) (by kernel_rfl) (opens_int Try.underlying3)
  simp only [List.drop_zero, List.drop_succ_cons, List.take_succ_cons, List.take_zero, List.cons.injEq, and_true] at h0 h1
  subst h0 h1
  exact ⟨(x0, x1), rfl, w0, w1⟩
def NotR (w : World) (cs : List Value) (a : Int × Int × List Wt) : Prop := ∃ A n c, cs = [.int .u32 a.1, .int .u32 a.2.1, .slice A n c] ∧ Wts w A n c a.2.2 ∧ NB (a.1, a.2.1, a.2.2)
theorem opens_notify : Opens 25 NotR := by
  intro H enc w base sp held fuel cs x h
  obtain ⟨hl, hf⟩ := opens_fields (k := 3) Try.underlying25 (by kernel_rfl) h
  obtain ⟨a, b, c, rfl⟩ : ∃ a b c, cs = [a, b, c] := by
    match cs, hl with
    | [a, b, c], _ => exact ⟨a, b, c, rfl⟩
  obtain ⟨x0, h0, w0⟩ := hf 0 _ 0 1 rfl (by kernel_rfl) (by kernel_rfl) (opens_int Try.underlying22)
  obtain ⟨x1, h1, w1⟩ := hf 1 _ 1 1 rfl (by kernel_rfl) (by kernel_rfl) (opens_int Try.underlying22)
  obtain ⟨l, A, n, c, h2, hs⟩ := hf 2 _ 2 1 rfl (by kernel_rfl) (by kernel_rfl) (opens_slice (k := 2) Try.underlying23 (by kernel_rfl) (by decide) opens_waiter)
  simp only [List.drop_zero, List.drop_succ_cons, List.take_succ_cons, List.take_zero, List.cons.injEq, and_true] at h0 h1 h2
  subst h0 h1 h2
  have hes := hs.es wtF (fun _ => rfl) wtF_one (fun _ _ _ h => h.1)
  rw [← wtC_flat] at hes
  have hall := hs.all (G := fun x : Wt => (Lit.int .u32 x.1).wf = true) (fun _ _ _ h => h.2.1)
  have hall2 := hs.all (G := fun x : Wt => (Lit.int .i64 x.2).wf = true) (fun _ _ _ h => h.2.2)
  exact ⟨(x0, x1, l), A, n, c, rfl, hes, (bounds_u32 w0).1, Int.lt_of_le_of_lt (bounds_u32 w0).2 (by decide), (bounds_u32 w1).1, Int.lt_of_le_of_lt (bounds_u32 w1).2 (by decide), fun x hx => ⟨(bounds_u32 (hall x hx)).1, Int.lt_of_le_of_lt (bounds_u32 (hall x hx)).2 (by decide)⟩, fun x hx => ⟨(bounds_i64 (hall2 x hx)).1, Int.lt_of_le_of_lt (bounds_i64 (hall2 x hx)).2 (by decide)⟩⟩
section
variable {H : Type} {enc : TypeId × Value → H} {w : World} {base : Nat} {sp : Nat → Bool} {held : Bool} {r : Reach} {b0 : Nat} {v : Value} {d : DataW H} {p : List MemPlace}
theorem open_notify (hv : Value.okWide Try.prog w r b0 25 v) (h : DataW.Trod enc Try.prog w base sp held 25 v d p) :
    ∃ A n c ws wa to, v = .agg #[.int .u32 wa, .int .u32 to, .slice A n c] ∧ (Wts w A n c ws ∧ NB (wa, to, ws)) := by
  obtain ⟨cs, ⟨wa, to, ws⟩, rfl, A, n, c, h1, h2, h3⟩ := open_at_struct Try.underlying25 opens_notify hv h
  exact ⟨A, n, c, ws, wa, to, agg_of h1, h2, h3⟩
end
end Go.Proofs.Ytjpgmkbcjedhfaa
