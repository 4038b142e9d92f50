/- Plain mathematics of layer 9: trees in nodes; of keys and priorities there is one; no condition but those in each theorem. -/
import Derived.Test.YtfgfohomgomidaaTreA
namespace Go.Proofs.Ytfgfohomgomidaa
set_option linter.unusedVariables false
set_option linter.unusedSimpArgs false
open Go.RowKit

theorem ndAt_set {ns : List Nd} {i j : Int} {x : Nd} (hi : 0 ≤ i) (hj : 0 ≤ j) (hl : i < (ns.length : Int)) : ndAt (ns.set i.toNat x) j = if j = i then x else ndAt ns j := by
  unfold ndAt
  by_cases e : j = i
  · subst e; rw [if_pos rfl]; simp only [List.getD_eq_getElem?_getD]; rw [List.getElem?_set_self (by omega)]; rfl
  · rw [if_neg e]; simp only [List.getD_eq_getElem?_getD]; rw [List.getElem?_set_ne (by omega)]
theorem nds_ext {a b : List Nd} (hl : a.length = b.length) (h : ∀ j : Int, 0 ≤ j → j < (a.length : Int) → ndAt a j = ndAt b j) : a = b := by
  apply List.ext_getElem hl
  intro j h1 h2
  have := h (j : Int) (by omega) (by omega)
  unfold ndAt at this
  simp only [List.getD_eq_getElem?_getD, Int.toNat_natCast] at this
  rw [List.getElem?_eq_getElem h1, List.getElem?_eq_getElem h2] at this
  exact this
theorem setL_len (ns : List Nd) (i x : Int) : (setL ns i x).length = ns.length := by simp [setL]
theorem setR_len (ns : List Nd) (i x : Int) : (setR ns i x).length = ns.length := by simp [setR]
theorem ndAt_setL {ns : List Nd} {i j x : Int} (hi : 0 ≤ i) (hj : 0 ≤ j) (hl : i < (ns.length : Int)) : ndAt (setL ns i x) j = if j = i then { ndAt ns i with l := x } else ndAt ns j := ndAt_set hi hj hl
theorem ndAt_setR {ns : List Nd} {i j x : Int} (hi : 0 ≤ i) (hj : 0 ≤ j) (hl : i < (ns.length : Int)) : ndAt (setR ns i x) j = if j = i then { ndAt ns i with r := x } else ndAt ns j := ndAt_set hi hj hl
def InN (n : Nat) (l : List Int) : Prop := ∀ x ∈ l, 0 ≤ x ∧ x < (n : Int)
/-- what laying links leaves as it was. -/
structure LRest (ns ns' : List Nd) (l : List Int) : Prop where
  len : ns'.length = ns.length
  same : ∀ j : Int, 0 ≤ j → j < (ns.length : Int) → (ndAt ns' j).k = (ndAt ns j).k ∧ (ndAt ns' j).p = (ndAt ns j).p ∧ (ndAt ns' j).h = (ndAt ns j).h ∧ (ndAt ns' j).t = (ndAt ns j).t
  out : ∀ j : Int, 0 ≤ j → j < (ns.length : Int) → j ∉ l → ndAt ns' j = ndAt ns j
theorem LRest.refl (ns : List Nd) (l : List Int) : LRest ns ns l := ⟨rfl, fun _ _ _ => ⟨rfl, rfl, rfl, rfl⟩, fun _ _ _ _ => rfl⟩
theorem LRest.trans {a b c : List Nd} {l1 l2 l : List Int} (h : LRest a b l1) (g : LRest b c l2) (h1 : ∀ x ∈ l1, x ∈ l) (h2 : ∀ x ∈ l2, x ∈ l) : LRest a c l := by
  refine ⟨g.len.trans h.len, fun j h0 hj => ?_, fun j h0 hj hn => ?_⟩
  · obtain ⟨a1, a2, a3, a4⟩ := h.same j h0 hj
    obtain ⟨b1, b2, b3, b4⟩ := g.same j h0 (by rw [h.len]; exact hj)
    exact ⟨b1.trans a1, b2.trans a2, b3.trans a3, b4.trans a4⟩
  · rw [g.out j h0 (by rw [h.len]; exact hj) (fun hm => hn (h2 j hm)), h.out j h0 hj (fun hm => hn (h1 j hm))]
theorem LRest.setL {ns : List Nd} {i x : Int} (hi : 0 ≤ i) (hl : i < (ns.length : Int)) : LRest ns (setL ns i x) [i] := by
  refine ⟨setL_len _ _ _, fun j h0 hj => ?_, fun j h0 hj hn => ?_⟩
  · rw [ndAt_setL hi h0 hl]; split
    · rename_i e; subst e; exact ⟨rfl, rfl, rfl, rfl⟩
    · exact ⟨rfl, rfl, rfl, rfl⟩
  · rw [ndAt_setL hi h0 hl, if_neg (by simpa using hn)]
theorem LRest.setR {ns : List Nd} {i x : Int} (hi : 0 ≤ i) (hl : i < (ns.length : Int)) : LRest ns (setR ns i x) [i] := by
  refine ⟨setR_len _ _ _, fun j h0 hj => ?_, fun j h0 hj hn => ?_⟩
  · rw [ndAt_setR hi h0 hl]; split
    · rename_i e; subst e; exact ⟨rfl, rfl, rfl, rfl⟩
    · exact ⟨rfl, rfl, rfl, rfl⟩
  · rw [ndAt_setR hi h0 hl, if_neg (by simpa using hn)]
/-- a tree in nodes: its places from left to right; who is on top comes first by priority, of equal ones the left one. -/
inductive Tr (ns : List Nd) : Int → List Int → Prop
  | nil : Tr ns (-1) []
  | node {x : Int} {a b : List Int} : 0 ≤ x → x < (ns.length : Int) → Tr ns (ndAt ns x).l a → Tr ns (ndAt ns x).r b → (∀ y ∈ a, prT ns x < prT ns y) → (∀ y ∈ b, prT ns x ≤ prT ns y) → Tr ns x (a ++ x :: b)
theorem Tr.nil_of {ns : List Nd} {r : Int} {l : List Int} (h : Tr ns r l) (e : l = []) : r = -1 := by
  cases h with
  | nil => rfl
  | node => simp at e
theorem Tr.nil_root {ns : List Nd} {l : List Int} (h : Tr ns (-1) l) : l = [] := by
  cases h with
  | nil => rfl
  | node h0 => omega
theorem Tr.cases {ns : List Nd} {r : Int} {l : List Int} (h : Tr ns r l) (hr : r ≠ -1) : ∃ a b, l = a ++ r :: b ∧ 0 ≤ r ∧ r < (ns.length : Int) ∧ Tr ns (ndAt ns r).l a ∧ Tr ns (ndAt ns r).r b ∧ (∀ y ∈ a, prT ns r < prT ns y) ∧ (∀ y ∈ b, prT ns r ≤ prT ns y) := by
  cases h with
  | nil => exact absurd rfl hr
  | node h0 h1 h2 h3 h4 h5 => exact ⟨_, _, rfl, h0, h1, h2, h3, h4, h5⟩
theorem Tr.split {ns : List Nd} {r : Int} {l : List Int} (h : Tr ns r l) (hl : l ≠ []) : ∃ a b, l = a ++ r :: b ∧ 0 ≤ r ∧ r < (ns.length : Int) ∧ Tr ns (ndAt ns r).l a ∧ Tr ns (ndAt ns r).r b ∧ (∀ y ∈ a, prT ns r < prT ns y) ∧ (∀ y ∈ b, prT ns r ≤ prT ns y) := by
  cases h with
  | nil => exact absurd rfl hl
  | node h0 h1 h2 h3 h4 h5 => exact ⟨_, _, rfl, h0, h1, h2, h3, h4, h5⟩
theorem Tr.inN {ns : List Nd} {r : Int} {l : List Int} (h : Tr ns r l) : InN ns.length l := by
  induction h with
  | nil => intro x hx; simp at hx
  | node h0 h1 _ _ _ _ ia ib =>
    intro y hy
    rcases List.mem_append.1 hy with hy | hy
    · exact ia y hy
    · rcases List.mem_cons.1 hy with rfl | hy
      · exact ⟨h0, h1⟩
      · exact ib y hy
theorem Tr.congr {ns ns' : List Nd} {r : Int} {l : List Int} (h : Tr ns r l) (hl : ns'.length = ns.length) (he : ∀ x ∈ l, (ndAt ns' x).l = (ndAt ns x).l ∧ (ndAt ns' x).r = (ndAt ns x).r ∧ prT ns' x = prT ns x) : Tr ns' r l := by
  induction h with
  | nil => exact Tr.nil
  | @node x a b h0 h1 _ _ h4 h5 ia ib =>
    obtain ⟨e1, e2, e3⟩ := he x (by simp)
    refine Tr.node h0 (by rw [hl]; exact h1) ?_ ?_ (fun y hy => ?_) (fun y hy => ?_)
    · rw [e1]; exact ia fun y hy => he y (by simp [hy])
    · rw [e2]; exact ib fun y hy => he y (by simp [hy])
    · rw [e3, (he y (by simp [hy])).2.2]; exact h4 y hy
    · rw [e3, (he y (by simp [hy])).2.2]; exact h5 y hy
theorem Tr.same {ns ns' : List Nd} {r : Int} {l : List Int} (h : Tr ns r l) (hl : ns'.length = ns.length) (he : ∀ x ∈ l, ndAt ns' x = ndAt ns x) : Tr ns' r l :=
  h.congr hl fun x hx => by rw [he x hx]; exact ⟨rfl, rfl, by unfold prT; rw [he x hx]⟩
theorem bestI_lt {ns : List Nd} {l : List Int} : ∀ {k : Nat}, bestI ns l (k + 1) ≤ k
  | 0 => by unfold bestI; split <;> simp [bestI]
  | k + 1 => by
    have := @bestI_lt ns l k
    unfold bestI; split
    · exact Nat.le_refl _
    · omega
theorem bestI_min {ns : List Nd} {l : List Int} : ∀ {k j : Nat}, j < k → prT ns (l.getD (bestI ns l k) 0) ≤ prT ns (l.getD j 0)
  | k + 1, j, hj => by
    unfold bestI
    split
    · rename_i h
      rcases Nat.lt_or_ge j k with h1 | h1
      · have := bestI_min (ns := ns) (l := l) h1; omega
      · obtain rfl : j = k := by omega
        exact Int.le_refl _
    · rename_i h
      rcases Nat.lt_or_ge j k with h1 | h1
      · exact bestI_min h1
      · obtain rfl : j = k := by omega
        omega
theorem bestI_first {ns : List Nd} {l : List Int} : ∀ {k j : Nat}, j < bestI ns l k → prT ns (l.getD (bestI ns l k) 0) < prT ns (l.getD j 0)
  | 0, j, hj => by simp [bestI] at hj
  | k + 1, j, hj => by
    unfold bestI at hj ⊢
    split at hj
    · rename_i h
      rw [if_pos h]
      have := bestI_min (ns := ns) (l := l) hj; omega
    · rename_i h
      rw [if_neg h]
      exact bestI_first hj
/-- the first one of the least priority is at just one place. -/
theorem best_one {ns : List Nd} {a b : List Int} {x : Int} (ha : ∀ y ∈ a, prT ns x < prT ns y) (hb : ∀ y ∈ b, prT ns x ≤ prT ns y) : bestI ns (a ++ x :: b) (a ++ x :: b).length = a.length := by
  obtain ⟨B, hB⟩ : ∃ B, bestI ns (a ++ x :: b) (a ++ x :: b).length = B := ⟨_, rfl⟩
  have hx : (a ++ x :: b).getD a.length 0 = x := by simp [List.getD]
  have hlen : (a ++ x :: b).length = a.length + b.length + 1 := by simp; omega
  have hlt : B ≤ a.length + b.length := by rw [← hB, hlen]; exact bestI_lt
  have hmin := bestI_min (ns := ns) (l := a ++ x :: b) (k := (a ++ x :: b).length) (j := a.length) (by omega)
  rw [hB, hx] at hmin
  rw [hB]
  rcases Nat.lt_trichotomy B a.length with h | h | h
  · have hm : (a ++ x :: b).getD B 0 ∈ a := by
      simp only [List.getD_eq_getElem?_getD]
      rw [List.getElem?_append_left h, List.getElem?_eq_getElem h]
      exact List.getElem_mem h
    have := ha _ hm; omega
  · exact h
  · have hf := bestI_first (ns := ns) (l := a ++ x :: b) (k := (a ++ x :: b).length) (j := a.length) (by rw [hB]; exact h)
    rw [hB, hx] at hf
    have hm : (a ++ x :: b).getD B 0 ∈ b := by
      simp only [List.getD_eq_getElem?_getD]
      rw [List.getElem?_append_right (by omega), List.getElem?_cons, if_neg (by omega), List.getElem?_eq_getElem (by omega)]
      exact List.getElem_mem (by omega)
    have := hb _ hm; omega
theorem split_best {ns : List Nd} {l : List Int} (hl : l ≠ []) : l = l.take (bestI ns l l.length) ++ l.getD (bestI ns l l.length) 0 :: l.drop (bestI ns l l.length + 1) ∧
    (∀ y ∈ l.take (bestI ns l l.length), prT ns (l.getD (bestI ns l l.length) 0) < prT ns y) ∧ (∀ y ∈ l.drop (bestI ns l l.length + 1), prT ns (l.getD (bestI ns l l.length) 0) ≤ prT ns y) := by
  obtain ⟨m, hm⟩ : ∃ m, l.length = m + 1 := ⟨l.length - 1, by have := List.length_pos_iff.2 hl; omega⟩
  have hB : bestI ns l l.length < l.length := by have := @bestI_lt ns l m; rw [hm]; omega
  have h1 := fun j h => bestI_first (ns := ns) (l := l) (k := l.length) (j := j) h
  have h2 := fun j h => bestI_min (ns := ns) (l := l) (k := l.length) (j := j) h
  generalize bestI ns l l.length = B at *
  have hx : l.getD B 0 = l[B] := by simp [List.getD, hB]
  refine ⟨?_, fun y hy => ?_, fun y hy => ?_⟩
  · rw [hx, ← List.drop_eq_getElem_cons hB, List.take_append_drop]
  · obtain ⟨j, hj, rfl⟩ := List.mem_iff_getElem.1 hy
    simp only [List.length_take] at hj
    have := h1 j (by omega)
    rwa [show l.getD j 0 = (l.take B)[j] by simp [List.getD, show j < l.length by omega]] at this
  · obtain ⟨j, hj, rfl⟩ := List.mem_iff_getElem.1 hy
    simp only [List.length_drop] at hj
    have := h2 (B + 1 + j) (by omega)
    rwa [show l.getD (B + 1 + j) 0 = (l.drop (B + 1))[j] by simp [List.getD, show B + 1 + j < l.length by omega]] at this
theorem laidT_nil (f : Nat) (ns : List Nd) : laidT f ns [] = (ns, -1) := by cases f <;> simp [laidT]
theorem laidT_step {f : Nat} {ns : List Nd} {a b : List Int} {x : Int} (hb : bestI ns (a ++ x :: b) (a ++ x :: b).length = a.length) :
    laidT (f + 1) ns (a ++ x :: b) = (setR (laidT f (setL (laidT f ns a).1 x (laidT f ns a).2) b).1 x (laidT f (setL (laidT f ns a).1 x (laidT f ns a).2) b).2, x) := by
  have e0 : ∀ l : List Int, l ≠ [] → laidT (f + 1) ns l = (setR (laidT f (setL (laidT f ns (l.take (bestI ns l l.length))).1 (l.getD (bestI ns l l.length) 0) (laidT f ns (l.take (bestI ns l l.length))).2) (l.drop (bestI ns l l.length + 1))).1 (l.getD (bestI ns l l.length) 0)
      (laidT f (setL (laidT f ns (l.take (bestI ns l l.length))).1 (l.getD (bestI ns l l.length) 0) (laidT f ns (l.take (bestI ns l l.length))).2) (l.drop (bestI ns l l.length + 1))).2,
      l.getD (bestI ns l l.length) 0) := fun l hl => by conv => lhs; unfold laidT; rw [if_neg hl]
  rw [e0 _ (by simp), hb]
  have e1 : (a ++ x :: b).take a.length = a := by simp
  have e2 : (a ++ x :: b).drop (a.length + 1) = b := by simp
  have e3 : (a ++ x :: b).getD a.length 0 = x := by simp [List.getD]
  rw [e1, e2, e3]
/-- laying links lays a tree. -/
theorem laid_tree : ∀ {f : Nat} {ns : List Nd} {l : List Int}, l.length ≤ f → l.Nodup → InN ns.length l → LRest ns (laidT f ns l).1 l ∧ Tr (laidT f ns l).1 (laidT f ns l).2 l
  | 0, ns, l, hf, _, _ => by
    have : l = [] := List.eq_nil_of_length_eq_zero (by omega)
    subst this; exact ⟨LRest.refl _ _, Tr.nil⟩
  | f + 1, ns, l, hf, hn, hi => by
    by_cases hl : l = []
    · subst hl; rw [laidT_nil]; exact ⟨LRest.refl _ _, Tr.nil⟩
    · obtain ⟨hsp, hpa, hpb⟩ := split_best (ns := ns) hl
      have hbb : bestI ns l l.length = (l.take (bestI ns l l.length)).length := by
        have h1 : bestI ns l l.length < l.length := by
          obtain ⟨m, hm⟩ : ∃ m, l.length = m + 1 := ⟨l.length - 1, by have := List.length_pos_iff.2 hl; omega⟩
          have := @bestI_lt ns l m; rw [hm]; omega
        rw [List.length_take]; omega
      generalize l.take (bestI ns l l.length) = a at *
      generalize l.getD (bestI ns l l.length) 0 = x at *
      generalize l.drop (bestI ns l l.length + 1) = b at *
      subst hsp
      rw [laidT_step hbb]
      obtain ⟨n1, n2, n3⟩ := List.nodup_append.1 hn
      obtain ⟨n4, n5⟩ := List.nodup_cons.1 n2
      have hx := hi x (by simp)
      simp only [List.length_append, List.length_cons] at hf
      obtain ⟨r1, t1⟩ := @laid_tree f ns a (by omega) n1 (fun y hy => hi y (by simp [hy]))
      generalize laidT f ns a = R1 at *
      have hx1 : x < (R1.1.length : Int) := by rw [r1.len]; exact hx.2
      have s1 := LRest.setL (ns := R1.1) (x := R1.2) hx.1 hx1
      obtain ⟨r2, t2⟩ := @laid_tree f (setL R1.1 x R1.2) b (by omega) n5 (fun y hy => by rw [setL_len, r1.len]; exact hi y (by simp [hy]))
      have hq := ndAt_setL (ns := R1.1) (i := x) (j := x) (x := R1.2) hx.1 hx.1 hx1
      rw [if_pos rfl] at hq
      have hqa : ∀ y ∈ a, ndAt (setL R1.1 x R1.2) y = ndAt R1.1 y := fun y hy => by
        rw [ndAt_setL hx.1 (hi y (by simp [hy])).1 hx1, if_neg (fun e => n3 y hy x (by simp) e)]
      have hl1 : (setL R1.1 x R1.2).length = ns.length := by rw [setL_len, r1.len]
      generalize setL R1.1 x R1.2 = M at *
      generalize laidT f M b = R2 at *
      have hx2 : x < (R2.1.length : Int) := by rw [r2.len, hl1]; exact hx.2
      have s2 := LRest.setR (ns := R2.1) (x := R2.2) hx.1 hx2
      have hz := ndAt_setR (ns := R2.1) (i := x) (j := x) (x := R2.2) hx.1 hx.1 hx2
      rw [if_pos rfl, r2.out x hx.1 (by rw [hl1]; exact hx.2) n4, hq] at hz
      have hza : ∀ y ∈ a, ndAt (setR R2.1 x R2.2) y = ndAt R1.1 y := fun y hy => by
        have hy0 := hi y (by simp [hy])
        rw [ndAt_setR hx.1 hy0.1 hx2, if_neg (fun e => n3 y hy x (by simp) e), r2.out y hy0.1 (by rw [hl1]; exact hy0.2) (fun hm => n3 y hy y (by simp [hm]) rfl), hqa y hy]
      have hzb : ∀ y ∈ b, ndAt (setR R2.1 x R2.2) y = ndAt R2.1 y := fun y hy => by
        rw [ndAt_setR hx.1 (hi y (by simp [hy])).1 hx2, if_neg (fun e : y = x => n4 (e ▸ hy))]
      have hall : LRest ns (setR R2.1 x R2.2) (a ++ x :: b) :=
        ((r1.trans s1 (l := a ++ x :: b) (fun y hy => by simp [hy]) (fun y hy => by simp at hy; simp [hy])).trans r2 (l := a ++ x :: b) (fun _ h => h) (fun y hy => by simp [hy])).trans s2 (fun _ h => h) (fun y hy => by simp at hy; simp [hy])
      have hpr : ∀ y, 0 ≤ y → y < (ns.length : Int) → prT (setR R2.1 x R2.2) y = prT ns y := fun y h0 h1 => (hall.same y h0 h1).2.1
      refine ⟨hall, Tr.node hx.1 (by rw [hall.len]; exact hx.2) ?_ ?_ (fun y hy => ?_) (fun y hy => ?_)⟩
      · rw [hz]; exact t1.same (by rw [hall.len, r1.len]) hza
      · rw [hz]; exact t2.same (by rw [setR_len]) hzb
      · have h1 := hi y (by simp [hy]); rw [hpr x hx.1 hx.2, hpr y h1.1 h1.2]; exact hpa y hy
      · have h1 := hi y (by simp [hy]); rw [hpr x hx.1 hx.2, hpr y h1.1 h1.2]; exact hpb y hy
/-- nodes of which some are as in others. -/
def mixT (ns ns' : List Nd) (l : List Int) : List Nd := (List.range ns.length).map fun i : Nat => if (i : Int) ∈ l then ndAt ns' i else ndAt ns i
theorem mixT_len (ns ns' : List Nd) (l : List Int) : (mixT ns ns' l).length = ns.length := by simp [mixT]
theorem ndAt_mix {ns ns' : List Nd} {l : List Int} {j : Int} (h0 : 0 ≤ j) (h1 : j < (ns.length : Int)) : ndAt (mixT ns ns' l) j = if j ∈ l then ndAt ns' j else ndAt ns j := by
  obtain ⟨i, rfl⟩ : ∃ i : Nat, j = i := ⟨j.toNat, by omega⟩
  have hi : i < ns.length := by omega
  conv => lhs; unfold ndAt
  unfold mixT
  simp only [List.getD_eq_getElem?_getD, Int.toNat_natCast]
  rw [List.getElem?_map, List.getElem?_range hi]
  rfl
theorem LRest.mix {ns ns' : List Nd} {l m : List Int} (h : LRest ns ns' l) : LRest ns (mixT ns ns' m) m := by
  refine ⟨mixT_len _ _ _, fun j h0 hj => ?_, fun j h0 hj hn => ?_⟩
  · rw [ndAt_mix h0 hj]; split
    · exact h.same j h0 hj
    · exact ⟨rfl, rfl, rfl, rfl⟩
  · rw [ndAt_mix h0 hj, if_neg hn]
/-- there is one tree: laid, it is as it is. -/
theorem laid_one : ∀ {f : Nat} {ns ns' : List Nd} {root : Int} {l : List Int}, Tr ns' root l → l.length ≤ f → l.Nodup → LRest ns ns' l → laidT f ns l = (ns', root)
  | 0, ns, ns', root, l, ht, hf, _, hr => by
    have : l = [] := List.eq_nil_of_length_eq_zero (by omega)
    subst this
    rw [laidT_nil, ht.nil_of rfl, nds_ext hr.len.symm fun j h0 h1 => (hr.out j h0 h1 (by simp)).symm]
  | f + 1, ns, ns', root, l, ht, hf, hn, hr => by
    by_cases hl : l = []
    · subst hl
      rw [laidT_nil, ht.nil_of rfl, nds_ext hr.len.symm fun j h0 h1 => (hr.out j h0 h1 (by simp)).symm]
    · have hi := ht.inN
      rw [hr.len] at hi
      obtain ⟨a, b, rfl, h0, h1, ta, tb, pa, pb⟩ := ht.split hl
      rw [hr.len] at h1
      have hpr : ∀ y, 0 ≤ y → y < (ns.length : Int) → prT ns' y = prT ns y := fun y h0 h1 => (hr.same y h0 h1).2.1
      have hbest : bestI ns (a ++ root :: b) (a ++ root :: b).length = a.length := best_one (fun y hy => by
          have h2 := hi y (by simp [hy]); rw [← hpr root h0 h1, ← hpr y h2.1 h2.2]; exact pa y hy) (fun y hy => by
          have h2 := hi y (by simp [hy]); rw [← hpr root h0 h1, ← hpr y h2.1 h2.2]; exact pb y hy)
      rw [laidT_step hbest]
      obtain ⟨n1, n2, n3⟩ := List.nodup_append.1 hn
      obtain ⟨n4, n5⟩ := List.nodup_cons.1 n2
      simp only [List.length_append, List.length_cons] at hf
      have ea := @laid_one f ns (mixT ns ns' a) (ndAt ns' root).l a (ta.same (by rw [mixT_len, hr.len]) (fun y hy => by
        have h2 := hi y (by simp [hy]); rw [ndAt_mix h2.1 h2.2, if_pos hy])) (by omega) n1 hr.mix
      rw [ea]
      simp only
      have hM1 : root < ((mixT ns ns' a).length : Int) := by rw [mixT_len]; exact h1
      have hlM : (setL (mixT ns ns' a) root (ndAt ns' root).l).length = ns.length := by rw [setL_len, mixT_len]
      have hMj : ∀ j, 0 ≤ j → j < (ns.length : Int) → ndAt (setL (mixT ns ns' a) root (ndAt ns' root).l) j = if j = root then { ndAt ns root with l := (ndAt ns' root).l } else if j ∈ a then ndAt ns' j else ndAt ns j := fun j g0 g1 => by
        rw [ndAt_setL h0 g0 hM1]
        split
        · rw [ndAt_mix h0 h1, if_neg (fun hm => n3 root hm root (by simp) rfl)]
        · rw [ndAt_mix g0 g1]
      generalize setL (mixT ns ns' a) root (ndAt ns' root).l = M at *
      have hrM : LRest M ns' (a ++ root :: b) := by
        refine ⟨by rw [hr.len, hlM], fun j g0 g1 => ?_, fun j g0 g1 hnj => ?_⟩
        · rw [hlM] at g1
          rw [hMj j g0 g1]
          split
          · rename_i e; subst e; exact hr.same j g0 g1
          · split
            · exact ⟨rfl, rfl, rfl, rfl⟩
            · exact hr.same j g0 g1
        · rw [hlM] at g1
          simp only [List.mem_append, List.mem_cons, not_or] at hnj
          rw [hMj j g0 g1, if_neg hnj.2.1, if_neg hnj.1]
          exact hr.out j g0 g1 (by simp only [List.mem_append, List.mem_cons, not_or]; exact hnj)
      have eb := @laid_one f M (mixT M ns' b) (ndAt ns' root).r b (tb.same (by rw [mixT_len, hlM, hr.len]) (fun y hy => by
        have h2 := hi y (by simp [hy]); rw [ndAt_mix h2.1 (by rw [hlM]; exact h2.2), if_pos hy])) (by omega) n5 hrM.mix
      rw [eb]
      simp only
      congr 1
      have hM2 : root < ((mixT M ns' b).length : Int) := by rw [mixT_len, hlM]; exact h1
      refine nds_ext (by rw [setR_len, mixT_len, hlM, hr.len]) fun j g0 g1 => ?_
      rw [setR_len, mixT_len, hlM] at g1
      rw [ndAt_setR h0 g0 hM2]
      by_cases e : j = root
      · subst e
        rw [if_pos rfl, ndAt_mix g0 (by rw [hlM]; exact g1), if_neg n4, hMj j g0 g1, if_pos rfl]
        obtain ⟨s1, s2, s3, s4⟩ := hr.same j g0 g1
        exact Nd.eq s1.symm s2.symm rfl rfl s3.symm s4.symm
      · rw [if_neg e, ndAt_mix g0 (by rw [hlM]; exact g1)]
        split
        · rfl
        · rename_i hb
          rw [hMj j g0 g1, if_neg e]
          split
          · rfl
          · rename_i ha
            exact (hr.out j g0 g1 (by simp only [List.mem_append, List.mem_cons, not_or]; exact ⟨ha, e, hb⟩)).symm
/-- of equal keys and priorities in order: equal shapes. -/
theorem tr_shape {ns ns' : List Nd} {a b a' b' : List Int} {x x' : Int} (ha : ∀ y ∈ a, prT ns x < prT ns y) (hb : ∀ y ∈ b, prT ns x ≤ prT ns y) (ha' : ∀ y ∈ a', prT ns' x' < prT ns' y) (hb' : ∀ y ∈ b', prT ns' x' ≤ prT ns' y)
    (h : (a ++ x :: b).map (prT ns) = (a' ++ x' :: b').map (prT ns')) : a.length = a'.length := by
  have key : ∀ {c d c' d' : List Int} {p p' : Int}, (∀ y ∈ c, p < y) → (∀ y ∈ d, p ≤ y) → (∀ y ∈ c', p' < y) → (∀ y ∈ d', p' ≤ y) → c ++ p :: d = c' ++ p' :: d' → c.length ≤ c'.length := by
    intro c d c' d' p p' h1 h2 h3 h4 he
    rcases Nat.lt_or_ge c'.length c.length with h5 | h5
    · exfalso
      have e1 := congrArg (fun l => l[c'.length]?) he
      have e2 := congrArg (fun l => l[c.length]?) he
      simp only [List.getElem?_append_left h5, List.getElem?_append_right (Nat.le_refl _), Nat.sub_self, List.getElem?_cons_zero] at e1 e2
      rw [List.getElem?_eq_getElem h5] at e1
      injection e1 with e1
      have g1 := h1 _ (List.getElem_mem h5)
      rw [e1] at g1
      rw [List.getElem?_append_right (by omega), List.getElem?_cons, if_neg (by omega)] at e2
      have g2 := h4 _ (List.mem_of_getElem? e2.symm)
      omega
    · exact h5
  have m1 : ∀ {f : Int → Int} {l : List Int} {q : Int → Prop}, (∀ y ∈ l, q (f y)) → ∀ z ∈ l.map f, q z := by
    intro f l q h z hz; obtain ⟨y, hy, rfl⟩ := List.mem_map.1 hz; exact h y hy
  simp only [List.map_append, List.map_cons] at h
  have h1 := key (m1 (q := fun z => _ < z) ha) (m1 (q := fun z => _ ≤ z) hb) (m1 (q := fun z => _ < z) ha') (m1 (q := fun z => _ ≤ z) hb') h
  have h2 := key (m1 (q := fun z => _ < z) ha') (m1 (q := fun z => _ ≤ z) hb') (m1 (q := fun z => _ < z) ha) (m1 (q := fun z => _ ≤ z) hb) h.symm
  simp only [List.length_map] at h1 h2
  omega
end Go.Proofs.Ytfgfohomgomidaa
