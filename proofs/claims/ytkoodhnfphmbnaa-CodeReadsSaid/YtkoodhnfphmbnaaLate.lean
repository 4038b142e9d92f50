/- A region that draws its order, whose last stores meet the cells that its loads read: a load may still be taken first where each of these stores waits for it; no condition but those in each theorem. -/
import Derived.Test.YtkoodhnfphmbnaaE
import Derived.OrdersHeld
import Derived.Deep.RegionHeld
namespace Go.Proofs.Ytkoodhnfphmbnaa
set_option linter.unusedVariables false
set_option linter.unusedSimpArgs false
open Go.RowKit

/-- whatever order is picked from here on: S is asked for behind each operation, L till the first late one. -/
def LateH (P : Program) (md : Region.Mode) (ops : Array Oper) (Q : Exit → Act → World → Prop) (S L : World → Prop) (late : Nat → Bool) : Nat → Bool → Array Bool → Act → World → Prop
  | 0 => fun g ls a w => Region.ready md ops ls = [] ∧ Q .normal a w
  | n + 1 => fun g ls a w => (Region.ready md ops ls = [] → Q .normal a w) ∧ (∀ j, j ∈ Region.ready md ops ls → wpOp P ops Q j (fun b v => (S v ∧ ((g && !late j) = true → L v)) ∧ LateH P md ops Q S L late n (g && !late j) (ls.setIfInBounds j true) b v) a w)
/-- each late operation waits for operation i. -/
def lateOk (md : Region.Mode) (ops : Array Oper) (late : Nat → Bool) (i : Nat) : Bool :=
  (List.range ops.size).all fun j => !(late j) || (match ops[j]? with
    | some o => o.after.any fun e => Region.binds md e && (e.on == i)
    | none => true)
section
variable {P : Program} {md : Region.Mode} {ops : Array Oper} {Q : Exit → Act → World → Prop} {S L : World → Prop} {late : Nat → Bool}
theorem LateH.any : ∀ {n : Nat} {g : Bool} {ls : Array Bool} {a : Act} {w : World}, LateH P md ops Q S L late n g ls a w → wpAny P md ops Q n ls a w
  | 0, _, _, _, _, h => h
  | n + 1, _, _, _, _, h => ⟨h.1, fun j hj => wpOp_mono (fun _ _ hk => LateH.any hk.2) (h.2 j hj)⟩
theorem lateOk_spec {i : Nat} (h : lateOk md ops late i = true) {j : Nat} {o : Oper} (ho : ops[j]? = some o) (hl : late j = true) : ∃ e ∈ o.after, Region.binds md e = true ∧ e.on = i := by
  have hj : j < ops.size := (Array.getElem?_eq_some_iff.1 ho).1
  have h1 := List.all_eq_true.1 h j (List.mem_range.2 hj)
  rw [hl, ho] at h1
  simp only [Bool.not_true, Bool.false_or] at h1
  obtain ⟨k, hk, h2⟩ := Array.any_eq_true.1 h1
  rw [Bool.and_eq_true] at h2
  exact ⟨_, Array.getElem_mem hk, h2.1, by simpa using h2.2⟩
theorem LateH.first {i : Nat} {oi : Oper} {v : Value} (tl : Bool) (hi : ops[i]? = some oi) (hs : Region.noSelect ops = true) (hli : late i = false) (hl : tl = true → lateOk md ops late i = true) (hQ : ∀ c a w, Q (.panic c) (a.put oi.dst v) w → Q (.panic c) a w) :
    ∀ (n : Nat) (g : Bool) (ls : Array Bool) (a : Act) (w : World),
      (∀ j oj, ops[j]? = some oj → j ≠ i → ls.getD j true = false → (∀ e ∈ oj.after, Region.binds md e = true → e.on ≠ i) → oi.apart ops oj = true) →
      i ∈ Region.ready md ops ls → YieldsIf P ops (fun w => S w ∧ (tl = true → L w)) oi v a → (tl = true → g = true) → S w → (g = true → L w) → LateH P md ops Q S L late n g (ls.setIfInBounds i true) (a.put oi.dst v) w → LateH P md ops Q S L late (n + 1) g ls a w := by
  intro n
  induction n with
  | zero =>
    intro g ls a w hap hri hy htg hS hL hrest
    refine ⟨fun h0 => by rw [h0] at hri; simp at hri, fun j hj => ?_⟩
    by_cases e : j = i
    · rw [e]; exact hy.wpOp hi ⟨hS, fun h => hL (htg h)⟩ ⟨⟨hS, fun h => hL (by simpa [hli] using h)⟩, by rw [hli]; simpa using hrest⟩
    · have hm := ready_mono hj e
      rw [hrest.1] at hm
      simp at hm
  | succ n ih =>
    intro g ls a w hap hri hy htg hS hL hrest
    refine ⟨fun h0 => by rw [h0] at hri; simp at hri, fun j hj => ?_⟩
    by_cases e : j = i
    · rw [e]; exact hy.wpOp hi ⟨hS, fun h => hL (htg h)⟩ ⟨⟨hS, fun h => hL (by simpa [hli] using h)⟩, by rw [hli]; simpa using hrest⟩
    obtain ⟨hju, oj, hoj, hw⟩ := mem_ready.1 hj
    have hiu := (mem_ready.1 hri).1
    have hni : ∀ d ∈ oj.after, Region.binds md d = true → d.on ≠ i := by
      intro d hd hbd hde
      have h1 := hw d hd hbd
      rw [hde] at h1
      rw [Array.getD_eq_getD_getElem?] at h1 hiu
      cases hx : ls[i]? with
      | none => rw [hx] at h1; cases h1
      | some b => rw [hx] at h1 hiu; simp at h1 hiu; rw [h1] at hiu; cases hiu
    have hnl : tl = true → late j = false := by
      intro ht
      cases hlj : late j with
      | false => rfl
      | true =>
        obtain ⟨d, hd, hbd, hde⟩ := lateOk_spec (hl ht) hoj hlj
        exact absurd hde (hni d hd hbd)
    have step := wpOp_putIf hoj (hap j oj hoj e hju hni) (fun cs b => Region.noSelect_spec hs i oi cs b hi) (fun cs b => Region.noSelect_spec hs j oj cs b hoj) hQ hy (hrest.2 j (ready_mono hj e))
    refine wpOp_mono (fun a2 w2 h3 => ⟨h3.2.1, ?_⟩) step
    refine ih (g && !late j) (ls.setIfInBounds j true) a2 w2 (fun k ok hok hki hku hkn => hap k ok hok hki ?_ hkn) (ready_mono hri (fun h => e h.symm)) h3.1 (fun ht => by rw [htg ht, hnl ht]; rfl) h3.2.1.1 h3.2.1.2 ?_
    · by_cases hjk : j = k
      · rw [← hjk]; exact hju
      · rw [getD_set_ne true hjk] at hku; exact hku
    · rw [Array.setIfInBounds_comm _ _ (fun h => e h)]
      exact h3.2.2
/-- taken first: it yields its value as long as S holds. -/
theorem LateH.take {i : Nat} {oi : Oper} {v : Value} {n : Nat} {g : Bool} {ls : Array Bool} {a : Act} {w : World} (hi : ops[i]? = some oi) (hs : Region.noSelect ops = true) (hli : late i = false) (hf : Region.free md ops ls i = true) (hr : (Region.ready md ops ls).contains i = true)
    (hQ : ∀ c a w, Q (.panic c) (a.put oi.dst v) w → Q (.panic c) a w) (hy : YieldsIf P ops S oi v a) (hS : S w) (hL : g = true → L w) (h : LateH P md ops Q S L late n g (ls.setIfInBounds i true) (a.put oi.dst v) w) : LateH P md ops Q S L late (n + 1) g ls a w :=
  LateH.first false hi hs hli (fun h => by cases h) hQ n g ls a w (Region.free_spec hi hf) (by simpa using hr) (hy.imp (fun h => ⟨h.1, fun w hw => h.2 w hw.1⟩) id) (fun h => by cases h) hS hL h
/-- taken first: it yields its value as long as L holds, and each late operation waits for it. -/
theorem LateH.takeL {i : Nat} {oi : Oper} {v : Value} {n : Nat} {ls : Array Bool} {a : Act} {w : World} (hi : ops[i]? = some oi) (hs : Region.noSelect ops = true) (hli : late i = false) (hl : lateOk md ops late i = true) (hf : Region.free md ops ls i = true) (hr : (Region.ready md ops ls).contains i = true)
    (hQ : ∀ c a w, Q (.panic c) (a.put oi.dst v) w → Q (.panic c) a w) (hy : YieldsIf P ops L oi v a) (hS : S w) (hL : true = true → L w) (h : LateH P md ops Q S L late n true (ls.setIfInBounds i true) (a.put oi.dst v) w) : LateH P md ops Q S L late (n + 1) true ls a w :=
  LateH.first true hi hs hli (fun _ => hl) hQ n true ls a w (Region.free_spec hi hf) (by simpa using hr) (hy.imp (fun h => ⟨h.1, fun w hw => h.2 w (hw.2 rfl)⟩) id) (fun _ => rfl) hS hL h
/-- each of these comes up next. -/
def LateR (P : Program) (md : Region.Mode) (ops : Array Oper) (Q : Exit → Act → World → Prop) (S L : World → Prop) (late : Nat → Bool) (n : Nat) (g : Bool) (ls : Array Bool) (a : Act) (w : World) (rs : List Nat) : Prop :=
  ∀ j, j ∈ rs → wpOp P ops Q j (fun b v => (S v ∧ ((g && !late j) = true → L v)) ∧ LateH P md ops Q S L late n (g && !late j) (ls.setIfInBounds j true) b v) a w
theorem LateR.nil {n : Nat} {g : Bool} {ls : Array Bool} {a : Act} {w : World} : LateR P md ops Q S L late n g ls a w [] := fun _ h => by simp at h
theorem LateR.cons {n : Nat} {g g2 : Bool} {ls : Array Bool} {a : Act} {w : World} {i : Nat} {o : Oper} {rs : List Nat} (ho : ops[i]? = some o) (hg : (g && !late i) = g2)
    (h : ∀ K : Act → World → Prop, Shut (∀ a w, S w → (g2 = true → L w) → LateH P md ops Q S L late n g2 (ls.setIfInBounds i true) a w → K a w) → if Region.wanted o (yielded ops a.tmps) = true then Oper.wp P o a w K Q else K (a.put o.dst undef) w)
    (hs : LateR P md ops Q S L late n g ls a w rs) : LateR P md ops Q S L late n g ls a w (i :: rs) := by
  intro j hj
  rcases List.mem_cons.1 hj with e | hj
  · rw [e, hg]; exact wpOp_step ho (fun K hK => h K (fun a w g1 g2 g3 => hK a w ⟨⟨g1, g2⟩, g3⟩))
  · exact hs j hj
theorem LateH.ready {rs : List Nat} {n : Nat} {g : Bool} {ls : Array Bool} {a : Act} {w : World} (hr : Region.ready md ops ls = rs) (hne : rs ≠ []) (h : LateR P md ops Q S L late n g ls a w rs) : LateH P md ops Q S L late (n + 1) g ls a w :=
  ⟨fun h0 => absurd (hr.symm.trans h0) hne, fun j hj => h j (hr ▸ hj)⟩
theorem LateH.done {g : Bool} {ls : Array Bool} {a : Act} {w : World} (hr : Region.ready md ops ls = []) (h : Q .normal a w) : ∀ n, LateH P md ops Q S L late n g ls a w
  | 0 => ⟨hr, h⟩
  | _ + 1 => ⟨fun _ => h, fun j hj => by rw [hr] at hj; simp at hj⟩
theorem LateH.begin {id : Nat} {a : Act} {w : World} (S L : World → Prop) (late : Nat → Bool) (hm : P.follows .mixedOrders = true)
    (h : LateH P .any ops Q S L late ops.size true (Array.replicate ops.size false) a w.drew) : (Code.region id ops true).wp P Q a w :=
  wp_region_any hm (LateH.any h)
end
end Go.Proofs.Ytkoodhnfphmbnaa
