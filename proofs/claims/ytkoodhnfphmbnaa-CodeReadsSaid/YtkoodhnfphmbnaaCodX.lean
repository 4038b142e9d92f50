/- How a program that came in is opened; no condition. -/
import Derived.Test.YtkoodhnfphmbnaaOp
import Derived.Test.YtkoodhnfphmbnaaCodA
namespace Go.Proofs.Ytkoodhnfphmbnaa
set_option linter.unusedVariables false
set_option linter.unusedSimpArgs false
open Go.ChangeShapes Go.WideShapes Go.ChangeAt Go.RowKit

def insF (x : I4) : List Value := [.int .i64 x.1, .int .i64 x.2.1, .int .i64 x.2.2.1, .int .i64 x.2.2.2]
theorem insC_flat : ∀ l, insC l = l.flatMap insF
  | [] => rfl
  | x :: l => by rw [List.flatMap_cons, ← insC_flat l]; rfl
theorem insF_one (x : I4) : ∀ u ∈ insF x, u.oneCell' = true := by
  intro u hu
  simp only [insF, List.mem_cons, List.not_mem_nil, or_false] at hu
  rcases hu with rfl | rfl | rfl | rfl <;> rfl
def wf4 (x : I4) : Prop := (Lit.int .i64 x.1).wf = true ∧ (Lit.int .i64 x.2.1).wf = true ∧ (Lit.int .i64 x.2.2.1).wf = true ∧ (Lit.int .i64 x.2.2.2).wf = true
theorem opens_ins : Opens 40 (fun _ cs (x : I4) => cs = insF x ∧ wf4 x) := by
  intro H enc w base sp held fuel cs x h
  obtain ⟨hl, hf⟩ := opens_fields (k := 4) Try.underlying40 (by kernel_rfl) h
  obtain ⟨a, b, c, d, rfl⟩ : ∃ a b c d, cs = [a, b, c, d] := by
    match cs, hl with
    | [a, b, c, d], _ => exact ⟨a, b, c, d, rfl⟩
  obtain ⟨x0, h0, w0⟩ := hf 0 _ 0 1 rfl (by kernel_rfl) (by kernel_rfl) (opens_int Try.underlying3)
  obtain ⟨x1, h1, w1⟩ := hf 1 _ 1 1 rfl (by kernel_rfl) (by kernel_rfl) (opens_int Try.underlying3)
  obtain ⟨x2, h2, w2⟩ := hf 2 _ 2 1 rfl (by kernel_rfl) (by kernel_rfl) (opens_int Try.underlying3)
  obtain ⟨x3, h3, w3⟩ := hf 3 _ 3 1 rfl (by kernel_rfl) (by kernel_rfl) (opens_int Try.underlying3)
  simp only [List.drop_zero, List.drop_succ_cons, List.take_succ_cons, List.take_zero, List.cons.injEq, and_true] at h0 h1 h2 h3
  subst h0 h1 h2 h3
  exact ⟨(x0, x1, x2, x3), rfl, w0, w1, w2, w3⟩
def PgR (w : World) (cs : List Value) (p : Pg) : Prop :=
  ∃ A n c B m d C k f, cs = [.slice A n c, .slice B m d, .slice C k f, .int .i64 p.cells, .int .i64 p.recs, .int .i64 p.pat] ∧ I4s w A n c p.code ∧ Is w B m d p.kinds ∧ Is w C k f p.sizes ∧ PB p
def itF (x : Int) : List Value := [.int .i64 x]
theorem intC_flat : ∀ l, intC l = l.flatMap itF
  | [] => rfl
  | x :: l => by rw [List.flatMap_cons, ← intC_flat l]; rfl
theorem itF_one (x : Int) : ∀ u ∈ itF x, u.oneCell' = true := by
  intro u hu
  simp only [itF, List.mem_cons, List.not_mem_nil, or_false] at hu
  subst hu; rfl
theorem opens_program : Opens 25 PgR := by
  intro H enc w base sp held fuel cs x h
  obtain ⟨hl, hf⟩ := opens_fields (k := 6) Try.underlying25 (by kernel_rfl) h
  obtain ⟨a, b, c, d, e, f, rfl⟩ : ∃ a b c d e f, cs = [a, b, c, d, e, f] := by
    match cs, hl with
    | [a, b, c, d, e, f], _ => exact ⟨a, b, c, d, e, f, rfl⟩
  obtain ⟨l0, A, n, c, h0, hs0⟩ := hf 0 _ 0 1 rfl (by kernel_rfl) (by kernel_rfl) (opens_slice (k := 4) Try.underlying22 (by kernel_rfl) (by decide) opens_ins)
  obtain ⟨l1, B, m, d, h1, hs1⟩ := hf 1 _ 1 1 rfl (by kernel_rfl) (by kernel_rfl) (opens_slice (k := 1) Try.underlying23 (by kernel_rfl) (by decide) (opens_int Try.underlying3))
  obtain ⟨l2, C, k, f, h2, hs2⟩ := hf 2 _ 2 1 rfl (by kernel_rfl) (by kernel_rfl) (opens_slice (k := 1) Try.underlying23 (by kernel_rfl) (by decide) (opens_int Try.underlying3))
  obtain ⟨x3, h3, w3⟩ := hf 3 _ 3 1 rfl (by kernel_rfl) (by kernel_rfl) (opens_int Try.underlying3)
  obtain ⟨x4, h4, w4⟩ := hf 4 _ 4 1 rfl (by kernel_rfl) (by kernel_rfl) (opens_int Try.underlying3)
  obtain ⟨x5, h5, w5⟩ := hf 5 _ 5 1 rfl (by kernel_rfl) (by kernel_rfl) (opens_int Try.underlying3)
  simp only [List.drop_zero, List.drop_succ_cons, List.take_succ_cons, List.take_zero, List.cons.injEq, and_true] at h0 h1 h2 h3 h4 h5
  subst h0 h1 h2 h3 h4 h5
  have e0 := hs0.es insF (fun _ => rfl) insF_one (fun _ _ _ h => h.1)
  rw [← insC_flat] at e0
  have a0 := hs0.all (G := wf4) (fun _ _ _ h => h.2)
  have e1 := hs1.es itF (fun _ => rfl) itF_one (fun _ _ _ h => h.1)
  rw [← intC_flat] at e1
  have a1 := hs1.all (G := fun x : Int => (Lit.int .i64 x).wf = true) (fun _ _ _ h => h.2)
  have e2 := hs2.es itF (fun _ => rfl) itF_one (fun _ _ _ h => h.1)
  rw [← intC_flat] at e2
  have a2 := hs2.all (G := fun x : Int => (Lit.int .i64 x).wf = true) (fun _ _ _ h => h.2)
  exact ⟨⟨l0, l1, l2, x3, x4, x5⟩, A, n, c, B, m, d, C, k, f, rfl, e0, e1, e2, fun x hx => ⟨bounds_i64 (a0 x hx).1, bounds_i64 (a0 x hx).2.1, bounds_i64 (a0 x hx).2.2.1, bounds_i64 (a0 x hx).2.2.2⟩, fun x hx => bounds_i64 (a1 x hx), fun x hx => bounds_i64 (a2 x hx)⟩
section
variable {H : Type} {enc : TypeId × Value → H} {w : World} {base : Nat} {sp : Nat → Bool} {held : Bool} {r : Reach} {b0 : Nat} {v : Value} {d : DataW H} {p : List MemPlace}
theorem open_program (hv : Value.okWide Try.prog w r b0 25 v) (h : DataW.Trod enc Try.prog w base sp held 25 v d p) :
    ∃ A n c B m d C k f q, v = .agg #[.slice A n c, .slice B m d, .slice C k f, .int .i64 q.cells, .int .i64 q.recs, .int .i64 q.pat] ∧ (I4s w A n c q.code ∧ Is w B m d q.kinds ∧ Is w C k f q.sizes ∧ PB q) := by
  obtain ⟨cs, q, rfl, A, n, c, B, m, d, C, k, f, h1, h2⟩ := open_at_struct Try.underlying25 opens_program hv h
  exact ⟨A, n, c, B, m, d, C, k, f, q, agg_of h1, h2⟩
end
end Go.Proofs.Ytkoodhnfphmbnaa
