/- How an object, a frame that came in are opened; no condition. -/
import Derived.Test.YtpkegfochfkkcaaOp
import Derived.Test.YtpkegfochfkkcaaSyA
namespace Go.Proofs.Ytpkegfochfkkcaa
set_option linter.unusedVariables false
set_option linter.unusedSimpArgs false
open Go.ChangeShapes Go.WideShapes Go.ChangeAt Go.RowKit

def wtF (x : Wt) : List Value := [.int .u32 x.1, .int .i64 x.2]
theorem wtC_flat : ∀ ws, wtC ws = ws.flatMap wtF
  | [] => rfl
  | x :: ws => by rw [List.flatMap_cons, ← wtC_flat ws]; rfl
theorem wtF_one (x : Wt) : ∀ u ∈ wtF x, u.oneCell' = true := by
  intro u hu
  simp only [wtF, List.mem_cons, List.not_mem_nil, or_false] at hu
  rcases hu with rfl | rfl <;> rfl
theorem opens_waiter : Opens 67 (fun _ cs (x : Wt) => cs = wtF x ∧ (Lit.int .u32 x.1).wf = true ∧ (Lit.int .i64 x.2).wf = true) := by
  intro H enc w base sp held fuel cs x h
  obtain ⟨hl, hf⟩ := opens_fields (k := 2) Try.underlying67 (by kernel_rfl) h
  obtain ⟨a, b, rfl⟩ : ∃ a b, cs = [a, b] := by
    match cs, hl with
    | [a, b], _ => exact ⟨a, b, rfl⟩
  obtain ⟨x0, h0, w0⟩ := hf 0 _ 0 1 rfl (by kernel_rfl) (by kernel_rfl) (opens_int Try.underlying23)
  obtain ⟨x1, h1, w1⟩ := hf 1 _ 1 1 rfl (by kernel_rfl) (by kernel_rfl) (opens_int Try.underlying3)
  simp only [List.drop_zero, List.drop_succ_cons, List.take_succ_cons, List.take_zero, List.cons.injEq, and_true] at h0 h1
  subst h0 h1
  exact ⟨(x0, x1), rfl, w0, w1⟩
def clF (x : Cl) : List Value := [.int .i64 x.1, .int .i64 x.2]
theorem clC_flat : ∀ ws, clC ws = ws.flatMap clF
  | [] => rfl
  | x :: ws => by rw [List.flatMap_cons, ← clC_flat ws]; rfl
theorem clF_one (x : Cl) : ∀ u ∈ clF x, u.oneCell' = true := by
  intro u hu
  simp only [clF, List.mem_cons, List.not_mem_nil, or_false] at hu
  rcases hu with rfl | rfl <;> rfl
theorem opens_claim : Opens 62 (fun _ cs (x : Cl) => cs = clF x ∧ (Lit.int .i64 x.1).wf = true ∧ (Lit.int .i64 x.2).wf = true) := by
  intro H enc w base sp held fuel cs x h
  obtain ⟨hl, hf⟩ := opens_fields (k := 2) Try.underlying62 (by kernel_rfl) h
  obtain ⟨a, b, rfl⟩ : ∃ a b, cs = [a, b] := by
    match cs, hl with
    | [a, b], _ => exact ⟨a, b, rfl⟩
  obtain ⟨x0, h0, w0⟩ := hf 0 _ 0 1 rfl (by kernel_rfl) (by kernel_rfl) (opens_int Try.underlying3)
  obtain ⟨x1, h1, w1⟩ := hf 1 _ 1 1 rfl (by kernel_rfl) (by kernel_rfl) (opens_int Try.underlying2)
  simp only [List.drop_zero, List.drop_succ_cons, List.take_succ_cons, List.take_zero, List.cons.injEq, and_true] at h0 h1
  subst h0 h1
  exact ⟨(x0, x1), rfl, w0, w1⟩
/-- an array of numbers. -/
theorem opens_iarr {t e : TypeId} {n : Nat} {k : IntKind} (ht : Try.prog.underlying t = some (.array n e)) (he : Try.prog.underlying e = some (.int k)) (hce : Try.prog.cellsOf e = 1) (hC : Try.prog.cellsOf t = n) :
    Opens t (fun _ cs (xs : List Int) => cs = xs.map (Value.int k) ∧ xs.length = n ∧ ∀ x ∈ xs, (Lit.int k x).wf = true) := by
  intro H enc w base sp held fuel cs x h
  obtain ⟨ys, m, _, _, hcl, hyl, hel⟩ := DataW.trod_array ht h
  rw [hce] at hel
  have hlen : cs.length = n := hcl.trans hC
  have hall : ∀ i, i < n → ∃ x, cs[i]? = some (.int k x) ∧ (Lit.int k x).wf = true := by
    intro i hi
    have h1 := hel i hi
    rw [List.getElem?_eq_getElem (by omega)] at h1
    obtain ⟨x, hx, _, wx⟩ := DataW.trod_int he h1
    refine ⟨x, ?_, wx⟩
    have : ((cs.drop (i * 1)).take 1)[0]? = some (.int k x) := by rw [hx]; rfl
    simpa [List.getElem?_take, List.getElem?_drop] using this
  refine ⟨cs.map (fun v => match v with | .int _ x => x | _ => 0), ?_, by simpa using hlen, ?_⟩
  · apply List.ext_getElem?
    intro i
    rcases Nat.lt_or_ge i n with hi | hi
    · obtain ⟨x, hx, _⟩ := hall i hi
      simp only [List.map_map, List.getElem?_map]
      rw [hx]; rfl
    · rw [List.getElem?_eq_none (by omega), List.getElem?_eq_none (by simp; omega)]
  · intro x hx
    obtain ⟨v, hv, rfl⟩ := List.mem_map.1 hx
    obtain ⟨i, hi, rfl⟩ := List.mem_iff_getElem.1 hv
    obtain ⟨x, hx2, wx⟩ := hall i (by omega)
    rw [List.getElem?_eq_getElem hi] at hx2
    injection hx2 with hx2
    rw [hx2]; exact wx
def NotR (w : World) (cs : List Value) (a : Int × Int × List Wt) : Prop := ∃ A n c, cs = [.int .u32 a.1, .int .u32 a.2.1, .slice A n c] ∧ Wts w A n c a.2.2
theorem opens_notify : Opens 26 NotR := by
  intro H enc w base sp held fuel cs x h
  obtain ⟨hl, hf⟩ := opens_fields (k := 3) Try.underlying26 (by kernel_rfl) h
  obtain ⟨a, b, c, rfl⟩ : ∃ a b c, cs = [a, b, c] := by
    match cs, hl with
    | [a, b, c], _ => exact ⟨a, b, c, rfl⟩
  obtain ⟨x0, h0, w0⟩ := hf 0 _ 0 1 rfl (by kernel_rfl) (by kernel_rfl) (opens_int Try.underlying23)
  obtain ⟨x1, h1, w1⟩ := hf 1 _ 1 1 rfl (by kernel_rfl) (by kernel_rfl) (opens_int Try.underlying23)
  obtain ⟨l2, A, n, c, h2, hs2⟩ := hf 2 _ 2 1 rfl (by kernel_rfl) (by kernel_rfl) (opens_slice (k := 2) Try.underlying24 (by kernel_rfl) (by decide) opens_waiter)
  simp only [List.drop_zero, List.drop_succ_cons, List.take_succ_cons, List.take_zero, List.cons.injEq, and_true] at h0 h1 h2
  subst h0 h1 h2
  have e2 := hs2.es wtF (fun _ => rfl) wtF_one (fun _ _ _ h => h.1)
  rw [← wtC_flat] at e2
  exact ⟨(x0, x1, l2), A, n, c, rfl, e2⟩
/-- an object, its waiters, its line. -/
structure ObD where
  kd : Int
  ws : List Int
  wa : Int
  to : Int
  nl : List Wt
  ll : List Cl
def ObR (w : World) (cs : List Value) (a : ObD) : Prop :=
  ∃ w0 w1 w2 w3 w4 w5 A n c B m d, a.ws = [w0, w1, w2, w3, w4, w5] ∧ cs = [.int .i64 a.kd, .int .i64 w0, .int .i64 w1, .int .i64 w2, .int .i64 w3, .int .i64 w4, .int .i64 w5, .int .u32 a.wa, .int .u32 a.to, .slice A n c, .slice B m d] ∧ Wts w A n c a.nl ∧ Cls w B m d a.ll ∧ ∀ x ∈ a.kd :: a.ws, (Lit.int .i64 x).wf = true
theorem opens_obj : Opens 29 ObR := by
  intro H enc w base sp held fuel cs x h
  obtain ⟨hl, hf⟩ := opens_fields (k := 11) Try.underlying29 (by kernel_rfl) h
  obtain ⟨c0, c1, c2, c3, c4, c5, c6, c7, c8, c9, c10, rfl⟩ : ∃ c0 c1 c2 c3 c4 c5 c6 c7 c8 c9 c10, cs = [c0, c1, c2, c3, c4, c5, c6, c7, c8, c9, c10] := by
    match cs, hl with
    | [c0, c1, c2, c3, c4, c5, c6, c7, c8, c9, c10], _ => exact ⟨c0, c1, c2, c3, c4, c5, c6, c7, c8, c9, c10, rfl⟩
  obtain ⟨x0, h0, w0⟩ := hf 0 _ 0 1 rfl (by kernel_rfl) (by kernel_rfl) (opens_int Try.underlying3)
  obtain ⟨xs, h1, hxl, hxw⟩ := hf 1 _ 1 6 rfl (by kernel_rfl) (by kernel_rfl) (opens_iarr Try.underlying22 Try.underlying2 (by kernel_rfl) (by kernel_rfl))
  obtain ⟨nn, A, n, c, h2, hs2⟩ := hf 2 _ 7 3 rfl (by kernel_rfl) (by kernel_rfl) opens_notify
  obtain ⟨l3, B, m, d, h3, hs3⟩ := hf 3 _ 10 1 rfl (by kernel_rfl) (by kernel_rfl) (opens_slice (k := 2) Try.underlying27 (by kernel_rfl) (by decide) opens_claim)
  obtain ⟨a0, a1, a2, a3, a4, a5, rfl⟩ : ∃ a0 a1 a2 a3 a4 a5, xs = [a0, a1, a2, a3, a4, a5] := by
    match xs, hxl with
    | [a0, a1, a2, a3, a4, a5], _ => exact ⟨a0, a1, a2, a3, a4, a5, rfl⟩
  simp only [List.drop_zero, List.drop_succ_cons, List.take_succ_cons, List.take_zero, List.cons.injEq, and_true, List.map_cons, List.map_nil] at h0 h1 h2 h3
  obtain ⟨rfl, rfl, rfl, rfl, rfl, rfl⟩ := h1
  obtain ⟨rfl, rfl, rfl⟩ := h2
  subst h0 h3
  have e3 := hs3.es clF (fun _ => rfl) clF_one (fun _ _ _ h => h.1)
  rw [← clC_flat] at e3
  refine ⟨⟨x0, [a0, a1, a2, a3, a4, a5], nn.1, nn.2.1, nn.2.2, l3⟩, a0, a1, a2, a3, a4, a5, A, n, c, B, m, d, rfl, rfl, hs2, e3, ?_⟩
  intro x hx
  rcases List.mem_cons.1 hx with rfl | hx
  · exact w0
  · exact hxw x hx
def FrmR (w : World) (cs : List Value) (f : MFr) : Prop := cs = frC f ∧ (Lit.int .i64 f.op).wf = true ∧ (Lit.int .i64 f.phase).wf = true ∧ (Lit.int .i64 f.old).wf = true ∧ (Lit.int .i64 f.since).wf = true ∧ (Lit.int .i64 f.left).wf = true
theorem opens_frame : Opens 31 FrmR := by
  intro H enc w base sp held fuel cs x h
  obtain ⟨hl, hf⟩ := opens_fields (k := 10) Try.underlying31 (by kernel_rfl) h
  obtain ⟨c0, c1, c2, c3, c4, c5, c6, c7, c8, c9, rfl⟩ : ∃ c0 c1 c2 c3 c4 c5 c6 c7 c8 c9, cs = [c0, c1, c2, c3, c4, c5, c6, c7, c8, c9] := by
    match cs, hl with
    | [c0, c1, c2, c3, c4, c5, c6, c7, c8, c9], _ => exact ⟨c0, c1, c2, c3, c4, c5, c6, c7, c8, c9, rfl⟩
  obtain ⟨x0, h0, w0⟩ := hf 0 _ 0 1 rfl (by kernel_rfl) (by kernel_rfl) (opens_int Try.underlying3)
  obtain ⟨x1, h1, w1⟩ := hf 1 _ 1 1 rfl (by kernel_rfl) (by kernel_rfl) (opens_int Try.underlying3)
  obtain ⟨x2, h2, w2⟩ := hf 2 _ 2 1 rfl (by kernel_rfl) (by kernel_rfl) (opens_int Try.underlying3)
  obtain ⟨x3, h3, w3⟩ := hf 3 _ 3 1 rfl (by kernel_rfl) (by kernel_rfl) (opens_int Try.underlying2)
  obtain ⟨x4, h4, w4⟩ := hf 4 _ 4 1 rfl (by kernel_rfl) (by kernel_rfl) (opens_int Try.underlying2)
  obtain ⟨x5, h5, w5⟩ := hf 5 _ 5 1 rfl (by kernel_rfl) (by kernel_rfl) (opens_int Try.underlying2)
  obtain ⟨x6, h6⟩ := hf 6 _ 6 1 rfl (by kernel_rfl) (by kernel_rfl) (opens_bool Try.underlying4)
  obtain ⟨x7, h7⟩ := hf 7 _ 7 1 rfl (by kernel_rfl) (by kernel_rfl) (opens_bool Try.underlying4)
  obtain ⟨x8, h8, w8⟩ := hf 8 _ 8 1 rfl (by kernel_rfl) (by kernel_rfl) (opens_int Try.underlying3)
  obtain ⟨x9, h9⟩ := hf 9 _ 9 1 rfl (by kernel_rfl) (by kernel_rfl) (opens_bool Try.underlying4)
  simp only [List.drop_zero, List.drop_succ_cons, List.take_succ_cons, List.take_zero, List.cons.injEq, and_true] at h0 h1 h2 h3 h4 h5 h6 h7 h8 h9
  subst h0 h1 h2 h3 h4 h5 h6 h7 h8 h9
  exact ⟨⟨x0, x1, x2, x3, x4, x5, x6, x7, x8, x9⟩, rfl, w0, w2, w3, w4, w5⟩
section
variable {H : Type} {enc : TypeId × Value → H} {w : World} {base : Nat} {sp : Nat → Bool} {held : Bool} {r : Reach} {b0 : Nat} {v : Value} {d : DataW H} {p : List MemPlace}
theorem open_obj (hv : Value.okWide Try.prog w r b0 29 v) (h : DataW.Trod enc Try.prog w base sp held 29 v d p) :
    ∃ k w0 w1 w2 w3 w4 w5 u y A n c B m e nl ll, v = .agg #[.int .i64 k, .int .i64 w0, .int .i64 w1, .int .i64 w2, .int .i64 w3, .int .i64 w4, .int .i64 w5, .int .u32 u, .int .u32 y, .slice A n c, .slice B m e] ∧ (Wts w A n c nl ∧ Cls w B m e ll ∧ ∀ x ∈ [k, w0, w1, w2, w3, w4, w5], (Lit.int .i64 x).wf = true) := by
  obtain ⟨cs, a, rfl, w0, w1, w2, w3, w4, w5, A, n, c, B, m, e, h0, h1, h2⟩ := open_at_struct Try.underlying29 opens_obj hv h
  exact ⟨a.kd, w0, w1, w2, w3, w4, w5, a.wa, a.to, A, n, c, B, m, e, a.nl, a.ll, agg_of h1, h0 ▸ h2⟩
theorem open_frame (hv : Value.okWide Try.prog w r b0 31 v) (h : DataW.Trod enc Try.prog w base sp held 31 v d p) :
    ∃ f : MFr, v = frV f ∧ ((Lit.int .i64 f.op).wf = true ∧ (Lit.int .i64 f.phase).wf = true ∧ (Lit.int .i64 f.old).wf = true ∧ (Lit.int .i64 f.since).wf = true ∧ (Lit.int .i64 f.left).wf = true) := by
  obtain ⟨cs, f, rfl, h1, h2⟩ := open_at_struct Try.underlying31 opens_frame hv h
  exact ⟨f, agg_of h1, h2⟩
end
end Go.Proofs.Ytpkegfochfkkcaa
