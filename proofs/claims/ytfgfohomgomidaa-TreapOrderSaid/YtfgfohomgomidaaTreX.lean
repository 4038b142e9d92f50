/- How a treap that came in is opened; a row of two; frames' premises of layer 9; no condition. -/
import Derived.Test.YtfgfohomgomidaaOp
import Derived.Test.YtfgfohomgomidaaTreB
namespace Go.Proofs.Ytfgfohomgomidaa
set_option linter.unusedVariables false
set_option linter.unusedSimpArgs false
open Go.ChangeShapes Go.WideShapes Go.ChangeAt Go.RowKit

theorem opens_queue9 : Opens 43 (fun _ cs (q : Int × Int) => cs = [.int .i64 q.1, .int .i64 q.2]) := by
  intro H enc w base sp held fuel cs x h
  obtain ⟨hl, hf⟩ := opens_fields (k := 2) Try.underlying43 (by kernel_rfl) h
  obtain ⟨a, b, rfl⟩ := list2 hl
  obtain ⟨x0, h0, w0⟩ := hf 0 _ 0 1 rfl (by kernel_rfl) (by kernel_rfl) (opens_int Try.underlying3)
  obtain ⟨x1, h1, w1⟩ := hf 1 _ 1 1 rfl (by kernel_rfl) (by kernel_rfl) (opens_int Try.underlying3)
  simp only [List.drop_zero, List.drop_succ_cons, List.take_succ_cons, List.take_zero, List.cons.injEq, and_true] at h0 h1
  subst h0 h1
  exact ⟨(x0, x1), rfl⟩
def ndF (x : Nd) : List Value := [.int .i64 x.k, .int .u32 x.p, .int .i64 x.l, .int .i64 x.r, .int .i64 x.h, .int .i64 x.t]
theorem ndC_flat : ∀ ns, ndC ns = ns.flatMap ndF
  | [] => rfl
  | x :: ns => by rw [List.flatMap_cons, ← ndC_flat ns]; rfl
theorem ndF_one (x : Nd) : ∀ u ∈ ndF x, u.oneCell' = true := by
  intro u hu
  simp only [ndF, List.mem_cons, List.not_mem_nil, or_false] at hu
  rcases hu with rfl | rfl | rfl | rfl | rfl | rfl <;> rfl
instance : Inhabited Nd := ⟨noNd⟩
theorem opens_node : Opens 52 (fun _ cs (x : Nd) => cs = ndF x) := by
  intro H enc w base sp held fuel cs x h
  obtain ⟨hl, hf⟩ := opens_fields (k := 6) Try.underlying52 (by kernel_rfl) h
  obtain ⟨a, b, c, d, e, f, rfl⟩ : ∃ a b c d e f, cs = [a, b, c, d, e, f] := by
    match cs, hl with
    | [a, b, c, d, e, f], _ => exact ⟨a, b, c, d, e, f, rfl⟩
  obtain ⟨x0, h0, _⟩ := hf 0 _ 0 1 rfl (by kernel_rfl) (by kernel_rfl) (opens_int Try.underlying3)
  obtain ⟨x1, h1, _⟩ := hf 1 _ 1 1 rfl (by kernel_rfl) (by kernel_rfl) (opens_int Try.underlying25)
  obtain ⟨x2, h2, _⟩ := hf 2 _ 2 1 rfl (by kernel_rfl) (by kernel_rfl) (opens_int Try.underlying3)
  obtain ⟨x3, h3, _⟩ := hf 3 _ 3 1 rfl (by kernel_rfl) (by kernel_rfl) (opens_int Try.underlying3)
  obtain ⟨⟨x4, x5⟩, h4⟩ := hf 4 _ 4 2 rfl (by kernel_rfl) (by kernel_rfl) opens_queue9
  simp only [List.drop_zero, List.drop_succ_cons, List.take_succ_cons, List.take_zero, List.cons.injEq, and_true] at h0 h1 h2 h3 h4
  obtain ⟨h4, h5⟩ := h4
  subst h0 h1 h2 h3 h4 h5
  exact ⟨⟨x0, x1, x2, x3, x4, x5⟩, rfl⟩
def TreR (w : World) (cs : List Value) (a : List Nd × Int × Int) : Prop := ∃ A n c, cs = [.slice A n c, .int .i64 a.2.1, .int .i64 a.2.2] ∧ Ns w A n c a.1
theorem opens_treap : Opens 24 TreR := by
  intro H enc w base sp held fuel cs x h
  obtain ⟨hl, hf⟩ := opens_fields (k := 3) Try.underlying24 (by kernel_rfl) h
  obtain ⟨a, b, c, rfl⟩ : ∃ a b c, cs = [a, b, c] := by
    match cs, hl with
    | [a, b, c], _ => exact ⟨a, b, c, rfl⟩
  obtain ⟨l, A, n, c, h0, hs⟩ := hf 0 _ 0 1 rfl (by kernel_rfl) (by kernel_rfl) (opens_slice (k := 6) Try.underlying22 (by kernel_rfl) (by decide) opens_node)
  obtain ⟨x1, h1, w1⟩ := hf 1 _ 1 1 rfl (by kernel_rfl) (by kernel_rfl) (opens_int Try.underlying3)
  obtain ⟨x2, h2, w2⟩ := hf 2 _ 2 1 rfl (by kernel_rfl) (by kernel_rfl) (opens_int Try.underlying3)
  simp only [List.drop_zero, List.drop_succ_cons, List.take_succ_cons, List.take_zero, List.cons.injEq, and_true] at h0 h1 h2
  subst h0 h1 h2
  refine ⟨(l, x1, x2), A, n, c, rfl, ?_⟩
  have := hs.es ndF (fun _ => rfl) ndF_one (fun _ _ _ h => h)
  rw [← ndC_flat] at this
  exact this
theorem list16 {α : Type} {l : List α} (h : l.length = 16) : ∃ p0 p1 p2 p3 p4 p5 p6 p7 p8 p9 p10 p11 p12 p13 p14 p15, l = [p0, p1, p2, p3, p4, p5, p6, p7, p8, p9, p10, p11, p12, p13, p14, p15] := by
  match l, h with
  | [p0, p1, p2, p3, p4, p5, p6, p7, p8, p9, p10, p11, p12, p13, p14, p15], _ => exact ⟨p0, p1, p2, p3, p4, p5, p6, p7, p8, p9, p10, p11, p12, p13, p14, p15, rfl⟩
section
variable {H : Type} {enc : TypeId × Value → H} {w : World} {base : Nat} {sp : Nat → Bool} {held : Bool} {r : Reach} {b0 : Nat} {v : Value} {d : DataW H} {p : List MemPlace}
theorem open_treap (hv : Value.okWide Try.prog w r b0 24 v) (h : DataW.Trod enc Try.prog w base sp held 24 v d p) :
    ∃ A n c ns rt fr, v = .agg #[.slice A n c, .int .i64 rt, .int .i64 fr] ∧ Ns w A n c ns := by
  obtain ⟨cs, ⟨ns, rt, fr⟩, rfl, A, n, c, h1, h2⟩ := open_at_struct Try.underlying24 opens_treap hv h
  exact ⟨A, n, c, ns, rt, fr, agg_of h1, h2⟩
theorem open_queue9 (hv : Value.okWide Try.prog w r b0 43 v) (h : DataW.Trod enc Try.prog w base sp held 43 v d p) :
    ∃ hd tl : Int, v = .agg #[.int .i64 hd, .int .i64 tl] ∧ True := by
  obtain ⟨cs, ⟨hd, tl⟩, rfl, h1⟩ := open_at_struct Try.underlying43 opens_queue9 hv h
  exact ⟨hd, tl, agg_of h1, trivial⟩
end
end Go.Proofs.Ytfgfohomgomidaa
