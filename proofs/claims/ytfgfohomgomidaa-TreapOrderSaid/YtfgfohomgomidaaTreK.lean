/- Plain mathematics of the landed layer 9: who is above whom, trees that are walked, cut, joined; no condition but those in each theorem. -/
import Derived.Test.YtfgfohomgomidaaTreQ
namespace Go.Proofs.Ytfgfohomgomidaa
set_option linter.unusedVariables false
set_option linter.unusedSimpArgs false
open Go.RowKit

/-- is a node above another one? -/
def aboveN (x y : Nd) : Bool := if x.p = y.p then decide (x.k < y.k) else decide (x.p < y.p)
def placeIn (n : Nat) (i : Int) : Bool := decide (0 ≤ i) && decide (i < (n : Int))
def beginIn (n : Nat) (i : Int) : Bool := decide (i = -1) || placeIn n i
def leadN (ns : List Nd) (x : Nd) (to : Int) : Bool := beginIn ns.length to && (decide (to = -1) || aboveN x (ndAt ns to))
theorem aboveN_iff {x y : Nd} : aboveN x y = true ↔ x.p < y.p ∨ (x.p = y.p ∧ x.k < y.k) := by
  unfold aboveN
  split
  · rename_i h; simp; omega
  · rename_i h; simp; omega
theorem placeIn_iff {n : Nat} {i : Int} : placeIn n i = true ↔ 0 ≤ i ∧ i < (n : Int) := by simp [placeIn]
theorem beginIn_iff {n : Nat} {i : Int} : beginIn n i = true ↔ i = -1 ∨ (0 ≤ i ∧ i < (n : Int)) := by simp [beginIn, placeIn]
theorem leadN_iff {ns : List Nd} {x : Nd} {to : Int} : leadN ns x to = true ↔ to = -1 ∨ (0 ≤ to ∧ to < (ns.length : Int) ∧ aboveN x (ndAt ns to) = true) := by
  unfold leadN
  rw [Bool.and_eq_true, beginIn_iff, Bool.or_eq_true, decide_eq_true_eq]
  constructor
  · rintro ⟨h1 | h1, h2 | h2⟩
    · exact Or.inl h1
    · exact Or.inl h1
    · exact Or.inl h2
    · exact Or.inr ⟨h1.1, h1.2, h2⟩
  · rintro (h | ⟨h1, h2, h3⟩)
    · exact ⟨Or.inl h, Or.inl h⟩
    · exact ⟨Or.inr ⟨h1, h2⟩, Or.inr h3⟩
/-- how many nodes are below. -/
def rankN (ns : List Nd) (x : Nd) : Nat := (ns.filter (aboveN x)).length
theorem rank_le (ns : List Nd) (x : Nd) : rankN ns x ≤ ns.length := List.length_filter_le _ _
theorem above_trans {x y z : Nd} (h1 : aboveN x y = true) (h2 : aboveN y z = true) : aboveN x z = true := by
  rw [aboveN_iff] at *; omega
theorem above_self (x : Nd) : aboveN x x = false := by
  refine Bool.eq_false_iff.2 fun h => ?_
  rw [aboveN_iff] at h; omega
theorem rank_lt {ns : List Nd} {x y : Nd} (h : aboveN x y = true) (hm : y ∈ ns) : rankN ns y < rankN ns x := by
  unfold rankN
  induction ns with
  | nil => simp at hm
  | cons z ns ih =>
    have hle : ∀ l : List Nd, (l.filter (aboveN y)).length ≤ (l.filter (aboveN x)).length := fun l => by
      induction l with
      | nil => simp
      | cons u l ihl =>
        by_cases hu : aboveN y u = true
        · rw [List.filter_cons_of_pos hu, List.filter_cons_of_pos (above_trans h hu), List.length_cons, List.length_cons]; omega
        · rw [List.filter_cons_of_neg hu]
          by_cases hx : aboveN x u = true
          · rw [List.filter_cons_of_pos hx, List.length_cons]; omega
          · rw [List.filter_cons_of_neg hx]; exact ihl
    rcases List.mem_cons.1 hm with rfl | hm
    · rw [List.filter_cons_of_neg (by rw [above_self]; simp), List.filter_cons_of_pos h]
      have := hle ns; rw [List.length_cons]; omega
    · have := ih hm
      by_cases hu : aboveN y z = true
      · rw [List.filter_cons_of_pos hu, List.filter_cons_of_pos (above_trans h hu), List.length_cons, List.length_cons]; omega
      · rw [List.filter_cons_of_neg hu]
        by_cases hx : aboveN x z = true
        · rw [List.filter_cons_of_pos hx, List.length_cons]; omega
        · rw [List.filter_cons_of_neg hx]; exact this
theorem ndAt_mem {ns : List Nd} {i : Int} (h0 : 0 ≤ i) (h1 : i < (ns.length : Int)) : ndAt ns i ∈ ns := by
  unfold ndAt
  rw [List.getD_eq_getElem?_getD, List.getElem?_eq_getElem (by omega)]
  exact List.getElem_mem _
/-- keys rise, from 0 on; places that there are. -/
structure RP (ns : List Nd) (l : List Int) : Prop where
  rise : Rise ns l
  pos : ∀ x ∈ l, 0 ≤ keyT ns x
  inN : InN ns.length l
theorem RP.nil (ns : List Nd) : RP ns [] := ⟨List.Pairwise.nil, by simp, fun x h => by simp at h⟩
theorem RP.left {ns : List Nd} {a b : List Int} (h : RP ns (a ++ b)) : RP ns a :=
  ⟨(List.pairwise_append.1 h.rise).1, fun x hx => h.pos x (by simp [hx]), fun x hx => h.inN x (by simp [hx])⟩
theorem RP.len {ns : List Nd} {l : List Int} (h : RP ns l) : l.length ≤ ns.length := places_len (rise_nodup h.rise) h.inN
/-- the last one's key; -1. -/
def lastK (ns : List Nd) (l : List Int) : Int := if l = [] then -1 else keyT ns (l.getD (l.length - 1) 0)
theorem lastK_add (ns : List Nd) (l : List Int) (x : Int) : lastK ns (l ++ [x]) = keyT ns x := by
  unfold lastK
  rw [if_neg (by simp)]
  congr 1
  simp [List.getD]
theorem RP.add {ns : List Nd} {l : List Int} {x : Int} (h : RP ns l) (h0 : 0 ≤ x) (h1 : x < (ns.length : Int)) (hk : lastK ns l < keyT ns x) : RP ns (l ++ [x]) := by
  rcases List.eq_nil_or_concat l with rfl | ⟨m, y, rfl⟩
  · simp only [lastK, if_true] at hk
    refine ⟨List.pairwise_singleton _ _, fun z hz => ?_, fun z hz => ?_⟩
    · simp at hz; subst hz; omega
    · simp at hz; subst hz; exact ⟨h0, h1⟩
  · rw [List.concat_eq_append] at *
    rw [lastK_add] at hk
    have hy := h.pos y (by simp)
    refine ⟨List.pairwise_append.2 ⟨h.rise, List.pairwise_singleton _ _, fun a ha b hb => ?_⟩, fun z hz => ?_, fun z hz => ?_⟩
    · simp only [List.mem_singleton] at hb; subst hb
      rcases List.mem_append.1 ha with ha | ha
      · have := (List.pairwise_append.1 h.rise).2.2 a ha y (by simp); omega
      · simp only [List.mem_singleton] at ha; subst ha; exact hk
    · rcases List.mem_append.1 hz with hz | hz
      · exact h.pos z hz
      · simp only [List.mem_singleton] at hz; subst hz; omega
    · rcases List.mem_append.1 hz with hz | hz
      · exact h.inN z hz
      · simp only [List.mem_singleton] at hz; subst hz; exact ⟨h0, h1⟩
theorem RP.last {ns : List Nd} {l m : List Int} {x : Int} (h : RP ns (l ++ x :: m)) : lastK ns l < keyT ns x := by
  rcases List.eq_nil_or_concat l with rfl | ⟨a, y, rfl⟩
  · have := h.pos x (by simp); simp only [lastK, if_true]; omega
  · rw [List.concat_eq_append] at *
    rw [lastK_add]
    exact (rise_split h.rise).1 y (by simp)
/-- a tree has one list of places. -/
theorem tr_fun {ns : List Nd} {r : Int} {l : List Int} (h : Tr ns r l) : ∀ {m : List Int}, Tr ns r m → l = m := by
  induction h with
  | nil => intro m hm; exact (hm.nil_root).symm
  | @node x a b h0 h1 _ _ _ _ ia ib =>
    intro m hm
    obtain ⟨a', b', rfl, _, _, ta, tb, _, _⟩ := hm.cases (by omega)
    rw [ia ta, ib tb]
/-- the places of a tree behind others: all of them, if keys rise. -/
def BehOk (ns : List Nd) (out : List Int) (i : Int) : Option (List Int) → Prop
  | some r => ∃ l, r = out ++ l ∧ Tr ns i l ∧ RP ns (out ++ l)
  | none => ∀ l, Tr ns i l → ¬ RP ns (out ++ l)
theorem beh_nil {ns : List Nd} {out : List Int} {i : Int} (hi : i = -1) (h : RP ns out) : BehOk ns out i (some out) := ⟨[], by simp, hi ▸ Tr.nil, by simpa using h⟩
theorem beh_rp {ns : List Nd} {out r : List Int} {i : Int} (h : BehOk ns out i (some r)) : RP ns r := by
  obtain ⟨l, rfl, _, h⟩ := h; exact h
theorem tr_lead {ns : List Nd} {i : Int} {l out : List Int} (hi : i ≠ -1) (ht : Tr ns i l) (hr : RP ns (out ++ l)) : leadN ns (ndAt ns i) (ndAt ns i).l = true ∧ leadN ns (ndAt ns i) (ndAt ns i).r = true := by
  obtain ⟨a, b, rfl, h0, h1, ta, tb, pa, pb⟩ := ht.cases hi
  have hs := (List.pairwise_append.1 hr.rise).2.1
  obtain ⟨s1, s2, _, _⟩ := rise_split hs
  rw [leadN_iff, leadN_iff]
  constructor
  · by_cases h : (ndAt ns i).l = -1
    · exact Or.inl h
    · obtain ⟨c, d, rfl, g0, g1, _, _, _, _⟩ := ta.cases h
      refine Or.inr ⟨g0, g1, aboveN_iff.2 (Or.inl ?_)⟩
      exact pa _ (by simp)
  · by_cases h : (ndAt ns i).r = -1
    · exact Or.inl h
    · obtain ⟨c, d, rfl, g0, g1, _, _, _, _⟩ := tb.cases h
      refine Or.inr ⟨g0, g1, aboveN_iff.2 ?_⟩
      have e1 := pb _ (List.mem_append_right c (List.mem_cons_self ..)); have e2 := s2 _ (List.mem_append_right c (List.mem_cons_self ..))
      unfold prT at e1; unfold keyT at e2; omega
theorem beh_lead {ns : List Nd} {out : List Int} {i : Int} (hi : i ≠ -1) (h : leadN ns (ndAt ns i) (ndAt ns i).l = false ∨ leadN ns (ndAt ns i) (ndAt ns i).r = false) : BehOk ns out i none := by
  intro l ht hr
  obtain ⟨h1, h2⟩ := tr_lead hi ht hr
  rcases h with h | h
  · rw [h] at h1; cases h1
  · rw [h] at h2; cases h2
theorem beh_left {ns : List Nd} {out : List Int} {i : Int} (hi : i ≠ -1) (h : BehOk ns out (ndAt ns i).l none) : BehOk ns out i none := by
  intro l ht hr
  obtain ⟨a, b, rfl, _, _, ta, _, _, _⟩ := ht.cases hi
  exact h a ta (by rw [← List.append_assoc] at hr; exact hr.left)
theorem beh_key {ns : List Nd} {out o1 : List Int} {i : Int} (hi : i ≠ -1) (h : BehOk ns out (ndAt ns i).l (some o1)) (hk : (ndAt ns i).k ≤ lastK ns o1) : BehOk ns out i none := by
  intro l ht hr
  obtain ⟨a, b, rfl, _, _, ta, _, _, _⟩ := ht.cases hi
  obtain ⟨a', rfl, ta', _⟩ := h
  have := tr_fun ta ta'; subst this
  rw [← List.append_assoc] at hr
  have := hr.last; unfold keyT at this; omega
theorem beh_right {ns : List Nd} {out o1 : List Int} {i : Int} (h0 : 0 ≤ i) (h1 : i < (ns.length : Int)) (hl : leadN ns (ndAt ns i) (ndAt ns i).l = true) (hr : leadN ns (ndAt ns i) (ndAt ns i).r = true)
    (h : BehOk ns out (ndAt ns i).l (some o1)) (hk : lastK ns o1 < (ndAt ns i).k) : RP ns (o1 ++ [i]) ∧ ∀ r, BehOk ns (o1 ++ [i]) (ndAt ns i).r r → BehOk ns out i r := by
  have h1' := beh_rp h
  refine ⟨h1'.add h0 h1 hk, fun r hb => ?_⟩
  obtain ⟨a, rfl, ta, ra⟩ := h
  cases r with
  | none =>
    intro l ht hr2
    obtain ⟨a', b, rfl, _, _, ta', tb, _, _⟩ := ht.cases (by omega)
    have := tr_fun ta ta'; subst this
    exact hb b tb (by simpa using hr2)
  | some r =>
    obtain ⟨b, rfl, tb, rb⟩ := hb
    refine ⟨a ++ i :: b, by simp, ?_, by simpa using rb⟩
    have hs : Rise ns (a ++ i :: b) := by
      have := rb.rise
      rw [show out ++ a ++ [i] ++ b = out ++ (a ++ i :: b) by simp] at this
      exact (List.pairwise_append.1 this).2.1
    obtain ⟨s1, s2, _, _⟩ := rise_split hs
    refine Tr.node h0 h1 ta tb (fun y hy => ?_) (fun y hy => ?_)
    · rcases leadN_iff.1 hl with e | ⟨g0, g1, g2⟩
      · rw [e] at ta; have := ta.nil_root; subst this; simp at hy
      · obtain ⟨c, d, rfl, _, _, _, _, pc, pd⟩ := ta.cases (by omega)
        have e2 := s1 _ (List.mem_append_right c (List.mem_cons_self ..))
        rw [aboveN_iff] at g2
        have e1 : prT ns i < prT ns (ndAt ns i).l := by unfold prT; unfold keyT at e2; omega
        rcases List.mem_append.1 hy with hy | hy
        · have := pc y hy; omega
        · rcases List.mem_cons.1 hy with rfl | hy
          · exact e1
          · have := pd y hy; omega
    · rcases leadN_iff.1 hr with e | ⟨g0, g1, g2⟩
      · rw [e] at tb; have := tb.nil_root; subst this; simp at hy
      · obtain ⟨c, d, rfl, _, _, _, _, pc, pd⟩ := tb.cases (by omega)
        rw [aboveN_iff] at g2
        have e1 : prT ns i ≤ prT ns (ndAt ns i).r := by unfold prT; omega
        rcases List.mem_append.1 hy with hy | hy
        · have := pc y hy; omega
        · rcases List.mem_cons.1 hy with rfl | hy
          · exact e1
          · have := pd y hy; omega
/-- may not stand next in the free list, by its looks? -/
def badC (ns : List Nd) (i : Int) : Prop := i < 0 ∨ (ns.length : Int) ≤ i ∨ ndAt ns i ≠ empN (ndAt ns i).l
/-- how many stand in the free list. -/
def walkC (ns : List Nd) : Nat → Int → Nat → Option Nat
  | 0, _, _ => none
  | f + 1, i, c => if i = -1 then some c else if i < 0 ∨ (ns.length : Int) ≤ i ∨ ndAt ns i ≠ empN (ndAt ns i).l ∨ c = ns.length then none else walkC ns f (ndAt ns i).l (c + 1)
theorem walkC_end {ns : List Nd} {f c : Nat} {i : Int} (hf : 0 < f) (h : i = -1) : walkC ns f i c = some c := by
  obtain ⟨g, rfl⟩ : ∃ g, f = g + 1 := ⟨f - 1, by omega⟩
  unfold walkC; rw [if_pos h]
theorem walkC_bad {ns : List Nd} {f c : Nat} {i : Int} (h0 : i ≠ -1) (h : i < 0 ∨ (ns.length : Int) ≤ i ∨ ndAt ns i ≠ empN (ndAt ns i).l ∨ c = ns.length) : walkC ns f i c = none := by
  cases f with
  | zero => rfl
  | succ f => unfold walkC; rw [if_neg h0, if_pos h]
theorem walkC_step {ns : List Nd} {f c : Nat} {i : Int} (hf : 0 < f) (h0 : i ≠ -1) (h : ¬ (i < 0 ∨ (ns.length : Int) ≤ i ∨ ndAt ns i ≠ empN (ndAt ns i).l ∨ c = ns.length)) : walkC ns f i c = walkC ns (f - 1) (ndAt ns i).l (c + 1) := by
  obtain ⟨g, rfl⟩ : ∃ g, f = g + 1 := ⟨f - 1, by omega⟩
  conv => lhs; unfold walkC
  rw [if_neg h0, if_neg h]; rfl
theorem walkC_fch {ns : List Nd} : ∀ {f c m : Nat} {i : Int}, walkC ns f i c = some m → ∃ l, FCh ns i l ∧ m = c + l.length
  | 0, _, _, _, h => by cases h
  | f + 1, c, m, i, h => by
    unfold walkC at h
    split at h
    · rename_i h1; injection h with h; exact ⟨[], h1, by simp [h]⟩
    · split at h
      · cases h
      · rename_i h1 h2
        simp only [not_or, Int.not_lt, Int.not_le, ne_eq, Decidable.not_not] at h2
        obtain ⟨l, hc, hm⟩ := walkC_fch h
        exact ⟨i :: l, ⟨rfl, h2.1, h2.2.1, h2.2.2.1, hc⟩, by rw [hm]; simp; omega⟩
theorem fch_walkC {ns : List Nd} : ∀ {l : List Int} {f c : Nat} {i : Int}, FCh ns i l → l.length < f → c + l.length ≤ ns.length → walkC ns f i c = some (c + l.length)
  | [], f, c, i, h, hf, _ => by rw [walkC_end (by simp at hf; omega) h]; simp
  | x :: l, f, c, i, h, hf, hc => by
    obtain ⟨rfl, g0, g1, g2, hch⟩ := h
    simp only [List.length_cons] at hf hc
    rw [walkC_step (by omega) (by omega) (by simp only [not_or, Int.not_lt, Int.not_le, ne_eq, Decidable.not_not]; exact ⟨g0, g1, g2, by omega⟩), fch_walkC hch (by omega) (by omega)]
    simp; omega
theorem fch_fun {ns : List Nd} : ∀ {l m : List Int} {i : Int}, FCh ns i l → FCh ns i m → l = m
  | [], [], _, _, _ => rfl
  | [], y :: m, i, h, g => by
    have e : i = -1 := h
    have := g.1; have := g.2.1; omega
  | x :: l, [], i, h, g => by
    have e : i = -1 := g
    have := h.1; have := h.2.1; omega
  | x :: l, y :: m, i, h, g => by
    obtain ⟨e, _, _, _, h⟩ := h
    obtain ⟨e', _, _, _, g⟩ := g
    have : x = y := e.symm.trans e'
    subst this
    rw [fch_fun h g]
theorem fch_at {ns : List Nd} : ∀ {l : List Int} {i x : Int}, FCh ns i l → x ∈ l → ∃ m, FCh ns x (x :: m) ∧ m.length < l.length
  | [], _, _, _, h => by simp at h
  | y :: l, i, x, h, hx => by
    obtain ⟨e, g0, g1, g2, hc⟩ := h
    rcases List.mem_cons.1 hx with rfl | hx
    · exact ⟨l, ⟨rfl, g0, g1, g2, hc⟩, by simp⟩
    · obtain ⟨m, hm, hl⟩ := fch_at hc hx
      exact ⟨m, hm, by simp; omega⟩
theorem fch_nodup {ns : List Nd} : ∀ {l : List Int} {i : Int}, FCh ns i l → l.Nodup
  | [], _, _ => List.nodup_nil
  | x :: l, i, h => by
    have h' := h
    obtain ⟨e, g0, g1, g2, hc⟩ := h
    refine List.nodup_cons.2 ⟨fun hm => ?_, fch_nodup hc⟩
    obtain ⟨m, hm1, hm2⟩ := fch_at hc hm
    rw [e] at h'
    have := fch_fun h' hm1
    injection this with _ this
    subst this; omega
/-- the treap's places by their keys, as the landed program finds them: of those that are below the top, and how many are free. -/
def RiseOk (p : Trp) : Option (List Int) → Prop
  | some l => ∃ fl, TOk p fl l
  | none => rightT p = false
theorem rise_big {p : Trp} (h : 64 < p.1.length) : RiseOk p none := by
  refine Bool.eq_false_iff.2 fun hr => ?_
  obtain ⟨fl, l, h1⟩ := TOk.of hr
  have := h1.size; omega
theorem rise_root {p : Trp} (h : beginIn p.1.length p.2.1 = false) : RiseOk p none := by
  refine Bool.eq_false_iff.2 fun hr => ?_
  obtain ⟨fl, l, h1⟩ := TOk.of hr
  have : beginIn p.1.length p.2.1 = true := by
    rw [beginIn_iff]
    by_cases e : p.2.1 = -1
    · exact Or.inl e
    · obtain ⟨a, b, _, g0, g1, _⟩ := h1.tree.cases e
      exact Or.inr ⟨g0, g1⟩
  rw [h] at this; cases this
theorem rise_free {p : Trp} (h : walkC p.1 (p.1.length + 1) p.2.2 0 = none) : RiseOk p none := by
  refine Bool.eq_false_iff.2 fun hr => ?_
  obtain ⟨fl, l, h1⟩ := TOk.of hr
  have hl := places_len h1.fnodup (fch_in h1.chain)
  rw [fch_walkC h1.chain (by omega) (by omega)] at h; cases h
theorem rise_beh {p : Trp} (h : BehOk p.1 [] p.2.1 none) : RiseOk p none := by
  refine Bool.eq_false_iff.2 fun hr => ?_
  obtain ⟨fl, l, h1⟩ := TOk.of hr
  exact h l h1.tree ⟨by simpa using h1.rise, by simpa using h1.pos, by simpa using h1.inN⟩
theorem sum_all {n : Nat} {a b : List Int} (ha : a.Nodup) (hb : b.Nodup) (hab : ∀ x ∈ a, x ∉ b) (ia : InN n a) (ib : InN n b) (hs : a.length + b.length = n) : ∀ x, x ∈ a ↔ 0 ≤ x ∧ x < (n : Int) ∧ x ∉ b := by
  intro x
  constructor
  · intro hx; exact ⟨(ia x hx).1, (ia x hx).2, hab x hx⟩
  · rintro ⟨h0, h1, h2⟩
    refine Classical.byContradiction fun hn => ?_
    have hd : (x :: (a ++ b)).Nodup := List.nodup_cons.2 ⟨fun hm => by rcases List.mem_append.1 hm with hm | hm; exact hn hm; exact h2 hm, List.nodup_append.2 ⟨ha, hb, fun y hy z hz e => by subst e; exact hab y hy hz⟩⟩
    have := places_len (n := n) hd fun y hy => by
      rcases List.mem_cons.1 hy with rfl | hy
      · exact ⟨h0, h1⟩
      · rcases List.mem_append.1 hy with hy | hy
        · exact ia y hy
        · exact ib y hy
    simp at this; omega
theorem cover_sum {n : Nat} {a b : List Int} (ha : a.Nodup) (hb : b.Nodup) (ib : InN n b) (hc : ∀ x, x ∈ a ↔ 0 ≤ x ∧ x < (n : Int) ∧ x ∉ b) : a.length + b.length = n := by
  have h1 : (a ++ b).Nodup := List.nodup_append.2 ⟨ha, hb, fun y hy z hz e => by subst e; exact ((hc y).1 hy).2.2 hz⟩
  have h2 := places_len (n := n) h1 fun y hy => by
    rcases List.mem_append.1 hy with hy | hy
    · exact ⟨((hc y).1 hy).1, ((hc y).1 hy).2.1⟩
    · exact ib y hy
  have h3 : ((List.range n).map fun i : Nat => (i : Int)).length ≤ (a ++ b).length := sub_len (List.Pairwise.map _ (fun a b h e => h (by omega)) List.nodup_range) fun x hx => by
    obtain ⟨i, hi, rfl⟩ := List.mem_map.1 hx
    have := List.mem_range.1 hi
    by_cases hm : (i : Int) ∈ b
    · simp [hm]
    · exact List.mem_append_left _ ((hc _).2 ⟨by omega, by omega, hm⟩)
  simp at h2 h3; omega
theorem rise_sum {p : Trp} {l : List Int} {m : Nat} (h1 : walkC p.1 (p.1.length + 1) p.2.2 0 = some m) (h2 : BehOk p.1 [] p.2.1 (some l)) (h3 : l.length + m ≠ p.1.length) : RiseOk p none := by
  refine Bool.eq_false_iff.2 fun hr => ?_
  obtain ⟨fl, l', h⟩ := TOk.of hr
  have hl := places_len h.fnodup (fch_in h.chain)
  rw [fch_walkC h.chain (by omega) (by omega)] at h1
  injection h1 with h1
  obtain ⟨a, e, ta, _⟩ := h2
  have := tr_fun ta h.tree
  subst this
  simp only [List.nil_append] at e
  subst e
  have := cover_sum h.nodup h.fnodup (fch_in h.chain) h.cover
  omega
theorem rise_all {p : Trp} {l : List Int} {m : Nat} (h0 : p.1.length ≤ 64) (h1 : walkC p.1 (p.1.length + 1) p.2.2 0 = some m) (h2 : BehOk p.1 [] p.2.1 (some l)) (h3 : l.length + m = p.1.length) : RiseOk p (some l) := by
  obtain ⟨fl, hc, hm⟩ := walkC_fch h1
  obtain ⟨a, e, ta, ra⟩ := h2
  simp only [List.nil_append] at e ra
  subst e
  have hfn := fch_nodup hc
  refine ⟨fl, h0, hc, hfn, ta, ?_, ra.rise, ra.pos⟩
  refine sum_all (rise_nodup ra.rise) hfn (fun x hx hf => ?_) ra.inN (fch_in hc) (by omega)
  have e1 := fch_emp hc x hf
  have e2 := ra.pos x hx
  unfold keyT at e2
  rw [e1] at e2
  simp [empN] at e2
theorem RiseOk.right {p : Trp} {r : Option (List Int)} (h : RiseOk p r) : rightT p = r.isSome := by
  cases r with
  | none => exact h
  | some l => obtain ⟨fl, h⟩ := h; exact h.right
theorem RiseOk.keys {p : Trp} {r : Option (List Int)} (h : RiseOk p r) : keysT p = (r.getD []).map (keyT p.1) := by
  unfold keysT
  cases r with
  | none => rw [if_neg (by rw [h.right]; simp)]; rfl
  | some l =>
    obtain ⟨fl, h⟩ := h
    rw [if_pos h.right, h.sorted]; rfl
/-! what is done to trees -/
theorem prT_rest {ns ns' : List Nd} {l : List Int} (h : LRest ns ns' l) {y : Int} (h0 : 0 ≤ y) (h1 : y < (ns.length : Int)) : prT ns' y = prT ns y := (h.same y h0 h1).2.1
theorem keyT_rest {ns ns' : List Nd} {l : List Int} (h : LRest ns ns' l) {y : Int} (h0 : 0 ≤ y) (h1 : y < (ns.length : Int)) : keyT ns' y = keyT ns y := (h.same y h0 h1).1
theorem LRest.sub {ns ns' : List Nd} {l m : List Int} (h : LRest ns ns' l) (hs : ∀ x ∈ l, x ∈ m) : LRest ns ns' m := ⟨h.len, h.same, fun j h0 h1 hn => h.out j h0 h1 fun hm => hn (hs j hm)⟩
/-- a tree elsewhere is as it was. -/
theorem Tr.other {ns ns' : List Nd} {r : Int} {l m : List Int} (h : Tr ns r l) (hr : LRest ns ns' m) (hd : ∀ x ∈ l, x ∉ m) : Tr ns' r l :=
  h.same hr.len fun x hx => hr.out x (h.inN x hx).1 (h.inN x hx).2 (hd x hx)
/-- a left, a right link is set to a tree that became another one. -/
theorem tr_setL {ns ns' : List Nd} {i x : Int} {a' b m : List Int} (h0 : 0 ≤ i) (h1 : i < (ns.length : Int)) (ta : Tr ns' x a') (tb : Tr ns (ndAt ns i).r b) (hr : LRest ns ns' m) (him : i ∉ m) (hia : i ∉ a') (hib : i ∉ b) (hbm : ∀ y ∈ b, y ∉ m)
    (ha : ∀ y ∈ a', prT ns i < prT ns y) (hb : ∀ y ∈ b, prT ns i ≤ prT ns y) : Tr (setL ns' i x) i (a' ++ i :: b) ∧ LRest ns (setL ns' i x) (i :: m) := by
  have h1' : i < (ns'.length : Int) := by rw [hr.len]; exact h1
  have hs := LRest.setL (ns := ns') (x := x) h0 h1'
  have hall : LRest ns (setL ns' i x) (i :: m) := hr.trans hs (fun y hy => by simp [hy]) (fun y hy => by simp at hy; simp [hy])
  have ei := ndAt_setL (ns := ns') (i := i) (j := i) (x := x) h0 h0 h1'
  rw [if_pos rfl, hr.out i h0 h1 him] at ei
  refine ⟨Tr.node h0 (by rw [setL_len]; exact h1') ?_ ?_ (fun y hy => ?_) (fun y hy => ?_), hall⟩
  · rw [ei]
    exact ta.other hs fun y hy hm => by simp at hm; subst hm; exact hia hy
  · rw [ei]
    exact (tb.other hr hbm).other hs fun y hy hm => by simp at hm; subst hm; exact hib hy
  · have hy' := ta.inN y hy; rw [hr.len] at hy'
    rw [prT_rest hall h0 h1, prT_rest hall hy'.1 hy'.2]; exact ha y hy
  · have hy' := tb.inN y hy
    rw [prT_rest hall h0 h1, prT_rest hall hy'.1 hy'.2]; exact hb y hy
theorem tr_setR {ns ns' : List Nd} {i x : Int} {a b' m : List Int} (h0 : 0 ≤ i) (h1 : i < (ns.length : Int)) (ta : Tr ns (ndAt ns i).l a) (tb : Tr ns' x b') (hr : LRest ns ns' m) (him : i ∉ m) (hia : i ∉ a) (hib : i ∉ b') (ham : ∀ y ∈ a, y ∉ m)
    (ha : ∀ y ∈ a, prT ns i < prT ns y) (hb : ∀ y ∈ b', prT ns i ≤ prT ns y) : Tr (setR ns' i x) i (a ++ i :: b') ∧ LRest ns (setR ns' i x) (i :: m) := by
  have h1' : i < (ns'.length : Int) := by rw [hr.len]; exact h1
  have hs := LRest.setR (ns := ns') (x := x) h0 h1'
  have hall : LRest ns (setR ns' i x) (i :: m) := hr.trans hs (fun y hy => by simp [hy]) (fun y hy => by simp at hy; simp [hy])
  have ei := ndAt_setR (ns := ns') (i := i) (j := i) (x := x) h0 h0 h1'
  rw [if_pos rfl, hr.out i h0 h1 him] at ei
  refine ⟨Tr.node h0 (by rw [setR_len]; exact h1') ?_ ?_ (fun y hy => ?_) (fun y hy => ?_), hall⟩
  · rw [ei]
    exact (ta.other hr ham).other hs fun y hy hm => by simp at hm; subst hm; exact hia hy
  · rw [ei]
    exact tb.other hs fun y hy hm => by simp at hm; subst hm; exact hib hy
  · have hy' := ta.inN y hy
    rw [prT_rest hall h0 h1, prT_rest hall hy'.1 hy'.2]; exact ha y hy
  · have hy' := tb.inN y hy; rw [hr.len] at hy'
    rw [prT_rest hall h0 h1, prT_rest hall hy'.1 hy'.2]; exact hb y hy
/-- what a tree is cut into at a key. -/
def SplitOk (ns : List Nd) (l : List Int) (key : Int) (ns' : List Nd) (x y : Int) : Prop :=
  ∃ a b, l = a ++ b ∧ (∀ z ∈ a, keyT ns z < key) ∧ (∀ z ∈ b, key < keyT ns z) ∧ Tr ns' x a ∧ Tr ns' y b ∧ LRest ns ns' l
def JoinOk (ns : List Nd) (l : List Int) (ns' : List Nd) (r : Int) : Prop := Tr ns' r l ∧ LRest ns ns' l
def WithOk (ns : List Nd) (l : List Int) (pl : Int) (ns' : List Nd) (r : Int) : Prop :=
  ∃ a b, l = a ++ b ∧ (∀ z ∈ a, keyT ns z < keyT ns pl) ∧ (∀ z ∈ b, keyT ns pl < keyT ns z) ∧ Tr ns' r (a ++ pl :: b) ∧ LRest ns ns' (pl :: l)
def WithoutOk (ns : List Nd) (l : List Int) (pl : Int) (ns' : List Nd) (r : Int) : Prop :=
  ∃ a b, l = a ++ pl :: b ∧ Tr ns' r (a ++ b) ∧ LRest ns ns' l
theorem split_nil (ns : List Nd) (key : Int) : SplitOk ns [] key ns (-1) (-1) := ⟨[], [], rfl, by simp, by simp, Tr.nil, Tr.nil, LRest.refl _ _⟩
section
variable {ns ns' : List Nd} {i key : Int} {a b : List Int}
theorem split_right (hs : Rise ns (a ++ i :: b)) (h0 : 0 ≤ i) (h1 : i < (ns.length : Int)) (ta : Tr ns (ndAt ns i).l a) (tb : Tr ns (ndAt ns i).r b) (pa : ∀ y ∈ a, prT ns i < prT ns y) (pb : ∀ y ∈ b, prT ns i ≤ prT ns y)
    (hk : (ndAt ns i).k < key) {x y : Int} (h : SplitOk ns b key ns' x y) : SplitOk ns (a ++ i :: b) key (setR ns' i x) i y := by
  obtain ⟨c, d, rfl, kc, kd, tc, td, hr⟩ := h
  have hn := rise_nodup hs
  obtain ⟨n1, n2, n3⟩ := List.nodup_append.1 hn
  obtain ⟨n4, n5⟩ := List.nodup_cons.1 n2
  obtain ⟨s1, s2, s3, s4⟩ := rise_split hs
  obtain ⟨t, hall⟩ := tr_setR (b' := c) (x := x) h0 h1 ta tc hr n4 (fun hm => n3 i hm i (by simp) rfl) (fun hm => n4 (by simp [hm])) (fun z hz hm => n3 z hz z (by simp at hm ⊢; right; exact hm) rfl) pa (fun z hz => pb z (by simp [hz]))
  refine ⟨a ++ i :: c, d, by simp, fun z hz => ?_, kd, t, ?_, hall.sub (fun z hz => by simp at hz ⊢; rcases hz with h | h | h <;> simp [h])⟩
  · rcases List.mem_append.1 hz with hz | hz
    · have := s1 z hz; unfold keyT at this ⊢; omega
    · rcases List.mem_cons.1 hz with rfl | hz
      · exact hk
      · exact kc z hz
  · exact td.other (LRest.setR (ns := ns') (x := x) h0 (by rw [hr.len]; exact h1)) fun z hz hm => by simp at hm; subst hm; exact n4 (by simp [hz])
theorem split_left (hs : Rise ns (a ++ i :: b)) (h0 : 0 ≤ i) (h1 : i < (ns.length : Int)) (ta : Tr ns (ndAt ns i).l a) (tb : Tr ns (ndAt ns i).r b) (pa : ∀ y ∈ a, prT ns i < prT ns y) (pb : ∀ y ∈ b, prT ns i ≤ prT ns y)
    (hk : key < (ndAt ns i).k) {x y : Int} (h : SplitOk ns a key ns' x y) : SplitOk ns (a ++ i :: b) key (setL ns' i y) x i := by
  obtain ⟨c, d, rfl, kc, kd, tc, td, hr⟩ := h
  have hn := rise_nodup hs
  obtain ⟨n1, n2, n3⟩ := List.nodup_append.1 hn
  obtain ⟨n4, n5⟩ := List.nodup_cons.1 n2
  obtain ⟨s1, s2, s3, s4⟩ := rise_split hs
  obtain ⟨t, hall⟩ := tr_setL (a' := d) (x := y) h0 h1 td tb hr (fun hm => n3 i hm i (by simp) rfl) (fun hm => n3 i (by simp [hm]) i (by simp) rfl) n4 (fun z hz hm => n3 z hm z (by simp [hz]) rfl) (fun z hz => pa z (by simp [hz])) pb
  refine ⟨c, d ++ i :: b, by simp, kc, fun z hz => ?_, ?_, t, hall.sub (fun z hz => by simp at hz ⊢; rcases hz with h | h | h <;> simp [h])⟩
  · rcases List.mem_append.1 hz with hz | hz
    · exact kd z hz
    · rcases List.mem_cons.1 hz with rfl | hz
      · exact hk
      · have := s2 z hz; unfold keyT at this ⊢; omega
  · exact tc.other (LRest.setL (ns := ns') (x := y) h0 (by rw [hr.len]; exact h1)) fun z hz hm => by simp at hm; subst hm; exact n3 z (by simp [hz]) z (by simp) rfl
theorem join_left {x y : Int} {c : List Int} (hs : Rise ns ((a ++ x :: b) ++ c)) (h0 : 0 ≤ x) (h1 : x < (ns.length : Int)) (ta : Tr ns (ndAt ns x).l a) (pa : ∀ z ∈ a, prT ns x < prT ns z) (pb : ∀ z ∈ b, prT ns x ≤ prT ns z) (tc : Tr ns y c) (hy : y ≠ -1)
    (hab : aboveN (ndAt ns x) (ndAt ns y) = true) {r : Int} (h : JoinOk ns (b ++ c) ns' r) : JoinOk ns ((a ++ x :: b) ++ c) (setR ns' x r) x := by
  obtain ⟨t, hr⟩ := h
  obtain ⟨c1, c2, rfl, _, _, _, _, pc1, pc2⟩ := tc.cases hy
  rw [List.append_assoc, List.cons_append] at hs ⊢
  have hn := rise_nodup hs
  obtain ⟨n1, n2, n3⟩ := List.nodup_append.1 hn
  obtain ⟨n4, n5⟩ := List.nodup_cons.1 n2
  have hxy : prT ns x ≤ prT ns y := by rw [aboveN_iff] at hab; unfold prT; omega
  obtain ⟨t2, hall⟩ := tr_setR (x := r) h0 h1 ta t hr n4 (fun hm => n3 x hm x (by simp) rfl) n4 (fun z hz hm => n3 z hz z (by simp at hm ⊢; right; exact hm) rfl) pa (fun z hz => by
    rcases List.mem_append.1 hz with hz | hz
    · exact pb z hz
    · rcases List.mem_append.1 hz with hz | hz
      · have := pc1 z hz; omega
      · rcases List.mem_cons.1 hz with rfl | hz
        · exact hxy
        · have := pc2 z hz; omega)
  exact ⟨t2, hall.sub (fun z hz => by simp at hz ⊢; rcases hz with h | h | h | h | h <;> simp [h])⟩
theorem join_right {x y : Int} {c : List Int} (hs : Rise ns (c ++ (a ++ y :: b))) (h0 : 0 ≤ y) (h1 : y < (ns.length : Int)) (tb : Tr ns (ndAt ns y).r b) (pa : ∀ z ∈ a, prT ns y < prT ns z) (pb : ∀ z ∈ b, prT ns y ≤ prT ns z) (tc : Tr ns x c) (hx : x ≠ -1)
    (hab : aboveN (ndAt ns x) (ndAt ns y) = false) {r : Int} (h : JoinOk ns (c ++ a) ns' r) : JoinOk ns (c ++ (a ++ y :: b)) (setL ns' y r) y := by
  obtain ⟨t, hr⟩ := h
  obtain ⟨c1, c2, rfl, _, _, _, _, pc1, pc2⟩ := tc.cases hx
  have hkk : keyT ns x < keyT ns y := (List.pairwise_append.1 hs).2.2 x (by simp) y (by simp)
  have hxy : prT ns y < prT ns x := by
    rw [Bool.eq_false_iff, ne_eq, aboveN_iff] at hab
    unfold prT; unfold keyT at hkk; omega
  generalize hc : c1 ++ x :: c2 = c at *
  rw [← List.append_assoc] at hs ⊢
  have hn := rise_nodup hs
  obtain ⟨n1, n2, n3⟩ := List.nodup_append.1 hn
  obtain ⟨n4, n5⟩ := List.nodup_cons.1 n2
  obtain ⟨t2, hall⟩ := tr_setL (x := r) h0 h1 t tb hr (fun hm => n3 y hm y (by simp) rfl) (fun hm => n3 y hm y (by simp) rfl) n4 (fun z hz hm => n3 z hm z (by simp [hz]) rfl) (fun z hz => by
    rcases List.mem_append.1 hz with hz | hz
    · rw [← hc] at hz
      rcases List.mem_append.1 hz with hz | hz
      · have := pc1 z hz; omega
      · rcases List.mem_cons.1 hz with rfl | hz
        · exact hxy
        · have := pc2 z hz; omega
    · exact pa z hz) pb
  exact ⟨t2, hall.sub (fun z hz => by simp at hz ⊢; rcases hz with h | h | h <;> simp [h])⟩
/-- who comes is above all of a tree. -/
theorem with_top {l : List Int} {i pl x y : Int} (ht : Tr ns i l) (hs : Rise ns l) (hpl : pl ∉ l) (h0 : 0 ≤ pl) (h1 : pl < (ns.length : Int)) (hab : i = -1 ∨ aboveN (ndAt ns pl) (ndAt ns i) = true)
    (h : SplitOk ns l (keyT ns pl) ns' x y) : WithOk ns l pl (setR (setL ns' pl x) pl y) pl := by
  obtain ⟨a, b, rfl, ka, kb, ta, tb, hr⟩ := h
  have hpa : ∀ z ∈ a ++ b, prT ns pl ≤ prT ns z ∧ (keyT ns z < keyT ns pl → prT ns pl < prT ns z) := by
    intro z hz
    rcases hab with e | hab
    · subst e; have := ht.nil_root; rw [this] at hz; simp at hz
    · by_cases e : i = -1
      · subst e; have := ht.nil_root; rw [this] at hz; simp at hz
      · obtain ⟨c, d, he, _, _, _, _, pc, pd⟩ := ht.cases e
        rw [he] at hz hs
        obtain ⟨s1, s2, _, _⟩ := rise_split hs
        rw [aboveN_iff] at hab
        rcases List.mem_append.1 hz with hz | hz
        · have h2 := pc z hz; have h3 := s1 z hz; unfold prT keyT at *; omega
        · rcases List.mem_cons.1 hz with rfl | hz
          · unfold prT keyT at *; omega
          · have h2 := pd z hz; have h3 := s2 z hz; unfold prT keyT at *; omega
  have hl1 : pl < (ns'.length : Int) := by rw [hr.len]; exact h1
  have e1 : ndAt ns' pl = ndAt ns pl := hr.out pl h0 h1 hpl
  have q1 := LRest.setL (ns := ns') (x := x) h0 hl1
  have hl2 : pl < ((setL ns' pl x).length : Int) := by rw [setL_len]; exact hl1
  have q2 := LRest.setR (ns := setL ns' pl x) (x := y) h0 hl2
  have hq := q1.trans q2 (l := [pl]) (fun _ h => h) (fun _ h => h)
  have hall : LRest ns (setR (setL ns' pl x) pl y) (pl :: (a ++ b)) := hr.trans hq (fun z hz => by simp at hz ⊢; right; exact hz) (fun z hz => by simp at hz; simp [hz])
  refine ⟨a, b, rfl, ka, kb, Tr.node h0 (by rw [setR_len]; exact hl2) ?_ ?_ (fun z hz => ?_) (fun z hz => ?_), hall⟩
  · have e2 : (ndAt (setR (setL ns' pl x) pl y) pl).l = x := by rw [ndAt_setR h0 h0 hl2, if_pos rfl]; show (ndAt (setL ns' pl x) pl).l = x; rw [ndAt_setL h0 h0 hl1, if_pos rfl]
    rw [e2]
    exact ta.other hq fun z hz hm => by simp at hm; subst hm; exact hpl (by simp [hz])
  · have e2 : (ndAt (setR (setL ns' pl x) pl y) pl).r = y := by rw [ndAt_setR h0 h0 hl2, if_pos rfl]
    rw [e2]
    exact tb.other hq fun z hz hm => by simp at hm; subst hm; exact hpl (by simp [hz])
  · have hz' := ta.inN z hz; rw [hr.len] at hz'
    rw [prT_rest hall h0 h1, prT_rest hall hz'.1 hz'.2]
    exact (hpa z (by simp [hz])).2 (ka z hz)
  · have hz' := tb.inN z hz; rw [hr.len] at hz'
    rw [prT_rest hall h0 h1, prT_rest hall hz'.1 hz'.2]
    exact (hpa z (by simp [hz])).1
theorem with_left {pl x : Int} (hs : Rise ns (a ++ i :: b)) (hpl : pl ∉ a ++ i :: b) (h0 : 0 ≤ i) (h1 : i < (ns.length : Int)) (tb : Tr ns (ndAt ns i).r b) (pa : ∀ y ∈ a, prT ns i < prT ns y) (pb : ∀ y ∈ b, prT ns i ≤ prT ns y)
    (hk : (ndAt ns pl).k < (ndAt ns i).k) (hab : aboveN (ndAt ns pl) (ndAt ns i) = false) (h : WithOk ns a pl ns' x) : WithOk ns (a ++ i :: b) pl (setL ns' i x) i := by
  obtain ⟨c, d, rfl, kc, kd, t, hr⟩ := h
  have hn := rise_nodup hs
  obtain ⟨n1, n2, n3⟩ := List.nodup_append.1 hn
  obtain ⟨n4, n5⟩ := List.nodup_cons.1 n2
  obtain ⟨s1, s2, s3, s4⟩ := rise_split hs
  simp only [List.mem_append, List.mem_cons, not_or] at hpl
  obtain ⟨⟨p1, p2⟩, p3, p4⟩ := hpl
  have hpp : prT ns i < prT ns pl := by rw [Bool.eq_false_iff, ne_eq, aboveN_iff] at hab; unfold prT; omega
  obtain ⟨t2, hall⟩ := tr_setL (a' := c ++ pl :: d) (x := x) h0 h1 t tb hr (fun hm => by
      rcases List.mem_cons.1 hm with e | hm
      · exact p3 e.symm
      · exact n3 i hm i (by simp) rfl) (fun hm => by
      simp only [List.mem_append, List.mem_cons] at hm
      rcases hm with hm | e | hm
      · exact n3 i (by simp [hm]) i (by simp) rfl
      · exact p3 e.symm
      · exact n3 i (by simp [hm]) i (by simp) rfl) n4 (fun z hz hm => by
      rcases List.mem_cons.1 hm with e | hm
      · subst e; exact p4 hz
      · exact n3 z hm z (by simp [hz]) rfl) (fun z hz => by
      simp only [List.mem_append, List.mem_cons] at hz
      rcases hz with hz | e | hz
      · exact pa z (by simp [hz])
      · subst e; exact hpp
      · exact pa z (by simp [hz])) pb
  refine ⟨c, d ++ i :: b, by simp, kc, fun z hz => ?_, by simpa using t2, hall.sub (fun z hz => by simp at hz ⊢; rcases hz with h | h | h | h <;> simp [h])⟩
  rcases List.mem_append.1 hz with hz | hz
  · exact kd z hz
  · rcases List.mem_cons.1 hz with rfl | hz
    · exact hk
    · have := s2 z hz; unfold keyT at this ⊢; omega
theorem with_right {pl x : Int} (hs : Rise ns (a ++ i :: b)) (hpl : pl ∉ a ++ i :: b) (h0 : 0 ≤ i) (h1 : i < (ns.length : Int)) (ta : Tr ns (ndAt ns i).l a) (pa : ∀ y ∈ a, prT ns i < prT ns y) (pb : ∀ y ∈ b, prT ns i ≤ prT ns y)
    (hk : (ndAt ns i).k < (ndAt ns pl).k) (hab : aboveN (ndAt ns pl) (ndAt ns i) = false) (h : WithOk ns b pl ns' x) : WithOk ns (a ++ i :: b) pl (setR ns' i x) i := by
  obtain ⟨c, d, rfl, kc, kd, t, hr⟩ := h
  have hn := rise_nodup hs
  obtain ⟨n1, n2, n3⟩ := List.nodup_append.1 hn
  obtain ⟨n4, n5⟩ := List.nodup_cons.1 n2
  obtain ⟨s1, s2, s3, s4⟩ := rise_split hs
  simp only [List.mem_append, List.mem_cons, not_or] at hpl
  obtain ⟨p1, p3, p2, p4⟩ := hpl
  have hpp : prT ns i ≤ prT ns pl := by rw [Bool.eq_false_iff, ne_eq, aboveN_iff] at hab; unfold prT; omega
  obtain ⟨t2, hall⟩ := tr_setR (b' := c ++ pl :: d) (x := x) h0 h1 ta t hr (fun hm => by
      rcases List.mem_cons.1 hm with e | hm
      · exact p3 e.symm
      · exact n4 hm) (fun hm => n3 i hm i (by simp) rfl) (fun hm => by
      simp only [List.mem_append, List.mem_cons] at hm
      rcases hm with hm | e | hm
      · exact n4 (by simp [hm])
      · exact p3 e.symm
      · exact n4 (by simp [hm])) (fun z hz hm => by
      rcases List.mem_cons.1 hm with e | hm
      · subst e; exact p1 hz
      · exact n3 z hz z (by simp at hm ⊢; right; exact hm) rfl) pa (fun z hz => by
      simp only [List.mem_append, List.mem_cons] at hz
      rcases hz with hz | e | hz
      · exact pb z (by simp [hz])
      · subst e; exact hpp
      · exact pb z (by simp [hz]))
  refine ⟨a ++ i :: c, d, by simp, fun z hz => ?_, kd, by simpa using t2, hall.sub (fun z hz => by simp at hz ⊢; rcases hz with h | h | h | h <;> simp [h])⟩
  rcases List.mem_append.1 hz with hz | hz
  · have := s1 z hz; unfold keyT at this ⊢; omega
  · rcases List.mem_cons.1 hz with rfl | hz
    · exact hk
    · exact kc z hz
theorem without_top {r : Int} (h : JoinOk ns (a ++ b) ns' r) : WithoutOk ns (a ++ i :: b) i ns' r :=
  ⟨a, b, rfl, h.1, h.2.sub (fun z hz => by simp at hz ⊢; rcases hz with h | h <;> simp [h])⟩
theorem without_left {pl x : Int} (hs : Rise ns (a ++ i :: b)) (h0 : 0 ≤ i) (h1 : i < (ns.length : Int)) (tb : Tr ns (ndAt ns i).r b) (pa : ∀ y ∈ a, prT ns i < prT ns y) (pb : ∀ y ∈ b, prT ns i ≤ prT ns y)
    (h : WithoutOk ns a pl ns' x) : WithoutOk ns (a ++ i :: b) pl (setL ns' i x) i := by
  obtain ⟨c, d, rfl, t, hr⟩ := h
  have hn := rise_nodup hs
  obtain ⟨n1, n2, n3⟩ := List.nodup_append.1 hn
  obtain ⟨n4, n5⟩ := List.nodup_cons.1 n2
  obtain ⟨t2, hall⟩ := tr_setL (a' := c ++ d) (x := x) h0 h1 t tb hr (fun hm => n3 i hm i (by simp) rfl) (fun hm => n3 i (by simp at hm ⊢; rcases hm with h | h <;> simp [h]) i (by simp) rfl) n4 (fun z hz hm => n3 z hm z (by simp [hz]) rfl) (fun z hz => pa z (by simp at hz ⊢; rcases hz with h | h <;> simp [h])) pb
  exact ⟨c, d ++ i :: b, by simp, by simpa using t2, hall.sub (fun z hz => by simp at hz ⊢; rcases hz with h | h | h | h <;> simp [h])⟩
theorem without_right {pl x : Int} (hs : Rise ns (a ++ i :: b)) (h0 : 0 ≤ i) (h1 : i < (ns.length : Int)) (ta : Tr ns (ndAt ns i).l a) (pa : ∀ y ∈ a, prT ns i < prT ns y) (pb : ∀ y ∈ b, prT ns i ≤ prT ns y)
    (h : WithoutOk ns b pl ns' x) : WithoutOk ns (a ++ i :: b) pl (setR ns' i x) i := by
  obtain ⟨c, d, rfl, t, hr⟩ := h
  have hn := rise_nodup hs
  obtain ⟨n1, n2, n3⟩ := List.nodup_append.1 hn
  obtain ⟨n4, n5⟩ := List.nodup_cons.1 n2
  obtain ⟨t2, hall⟩ := tr_setR (b' := c ++ d) (x := x) h0 h1 ta t hr n4 (fun hm => n3 i hm i (by simp) rfl) (fun hm => n4 (by simp at hm ⊢; rcases hm with h | h <;> simp [h])) (fun z hz hm => n3 z hz z (by simp at hm ⊢; right; exact hm) rfl) pa (fun z hz => pb z (by simp at hz ⊢; rcases hz with h | h <;> simp [h]))
  exact ⟨a ++ i :: c, d, by simp, by simpa using t2, hall.sub (fun z hz => by simp at hz ⊢; rcases hz with h | h | h | h <;> simp [h])⟩
end
theorem sorted_of {p : Trp} {l : List Int} (h1 : Rise p.1 l) (h2 : ∀ x, x ∈ l ↔ x ∈ sortT p) : sortT p = l :=
  (rise_one h1 sortK_weak sortK_nodup h2).symm
/-- a key more: what with leaves is what the document lays. -/
theorem ins_done {p : Trp} {i key prio r : Int} {fl' l : List Int} {ns2 : List Nd} (h : TOk p (i :: fl') l) (hk : 0 ≤ key) (hnew : ∀ x ∈ l, keyT p.1 x ≠ key) (hw : WithOk (putIn p key prio).1 l i ns2 r) :
    insT p key prio = ((ns2, r, (ndAt p.1 i).l), i, 0) := by
  rcases ins_ok (prio := prio) h hk hnew with ⟨e, _⟩ | ⟨i', fl2, q, e, hil, g0, g1, hp⟩
  · cases e
  · injection e with e1 e2; subst e1; subst e2
    have hfr : p.2.2 = i := h.chain.1
    obtain ⟨a, b, rfl, ka, kb, t, hr⟩ := hw
    have hlen : (putIn p key prio).1.length = p.1.length := by simp [putIn]
    have hnd : ∀ j : Int, 0 ≤ j → ndAt (putIn p key prio).1 j = if j = i then newN key prio else ndAt p.1 j := fun j h0 => by
      show ndAt (p.1.set p.2.2.toNat (newN key prio)) j = _
      rw [hfr, ndAt_set g0 h0 g1]
    have hrs : Rise (putIn p key prio).1 (a ++ b) := List.Pairwise.imp_of_mem (fun {x y} hx hy hlt => by
      have hx0 := (h.inN x hx).1; have hy0 := (h.inN y hy).1
      unfold keyT
      rw [hnd x hx0, hnd y hy0, if_neg (fun e : x = i => hil (e ▸ hx)), if_neg (fun e : y = i => hil (e ▸ hy))]; exact hlt) h.rise
    obtain ⟨q1, q2, q3⟩ := List.pairwise_append.1 hrs
    have hrise : Rise (putIn p key prio).1 (a ++ i :: b) := List.pairwise_append.2 ⟨q1, List.pairwise_cons.2 ⟨fun y hy => kb y hy, q2⟩, fun x hx y hy => by
      rcases List.mem_cons.1 hy with rfl | hy
      · exact ka x hx
      · exact q3 x hx y hy⟩
    have hs : sortT (putIn p key prio) = a ++ i :: b := sorted_of hrise fun x => by
      rw [hp.mem]; simp only [List.mem_append, List.mem_cons]
      constructor
      · rintro (h | h | h) <;> simp [h]
      · rintro (h | h | h) <;> simp [h]
    have hq : q = laidP (putIn p key prio) := by
      have := hp.eq
      unfold insT at this
      rw [if_neg (by rw [h.right]; simp; omega), if_neg (by rw [h.place_none hnew]; omega), if_neg (by omega)] at this
      injection this with this _
      exact this.symm
    rw [hp.eq, hq]
    unfold laidP
    rw [hs, laid_one (t) (Nat.le_refl _) (rise_nodup hrise) (hr.sub fun x hx => by simp at hx ⊢; rcases hx with h | h | h <;> simp [h])]
    show ((ns2, r, (ndAt p.1 p.2.2).l), i, (0 : Int)) = _
    rw [hfr]
/-- a key fewer: what without and release leave is what the document lays. -/
theorem del_done {p : Trp} {x key r : Int} {fl l : List Int} {ns1 : List Nd} (h : TOk p fl l) (hx : x ∈ l) (hkx : keyT p.1 x = key) (hq : (ndAt p.1 x).h = -1 ∧ (ndAt p.1 x).t = -1) (hw : WithoutOk p.1 l x ns1 r) :
    delT p key = ((ns1.set x.toNat (empN p.2.2), r, x), 0) := by
  obtain ⟨q, hg⟩ := del_ok h hx hq
  have he := hg.eq
  rw [hkx] at he
  rw [he, hg.is]
  have hb := h.inN x hx
  obtain ⟨a, b, rfl, t, hr⟩ := hw
  have hnd := fun j (hj : 0 ≤ j) => @ndAt_out p x hb.1 hb.2 j hj
  have hl1 : x < (ns1.length : Int) := by rw [hr.len]; exact hb.2
  have hnd2 : ∀ j : Int, 0 ≤ j → ndAt (ns1.set x.toNat (empN p.2.2)) j = if j = x then empN p.2.2 else ndAt ns1 j := fun j h0 => ndAt_set hb.1 h0 hl1
  have hlen : (takeOut p x).1.length = p.1.length := by simp [takeOut]
  have hn := rise_nodup h.rise
  obtain ⟨n1, n2, n3⟩ := List.nodup_append.1 hn
  obtain ⟨n4, n5⟩ := List.nodup_cons.1 n2
  have hxab : ∀ y ∈ a ++ b, y ≠ x := fun y hy e => by
    rcases List.mem_append.1 hy with hy | hy
    · exact n3 y hy x (by simp) e
    · exact n4 (e ▸ hy)
  have hrise : Rise (takeOut p x).1 (a ++ b) := by
    have h1 : Rise p.1 (a ++ b) := by
      obtain ⟨q1, q2, q3⟩ := List.pairwise_append.1 h.rise
      exact List.pairwise_append.2 ⟨q1, (List.pairwise_cons.1 q2).2, fun y hy z hz => q3 y hy z (by simp [hz])⟩
    refine List.Pairwise.imp_of_mem (fun {y z} hy hz hlt => ?_) h1
    have hy0 := (h.inN y (by simp at hy ⊢; rcases hy with h | h <;> simp [h])).1
    have hz0 := (h.inN z (by simp at hz ⊢; rcases hz with h | h <;> simp [h])).1
    unfold keyT
    rw [hnd y hy0, hnd z hz0, if_neg (hxab y hy), if_neg (hxab z hz)]; exact hlt
  have hs : sortT (takeOut p x) = a ++ b := sorted_of hrise fun y => by
    rw [hg.mem]
    constructor
    · intro hy; exact ⟨by simp at hy ⊢; rcases hy with h | h <;> simp [h], hxab y hy⟩
    · rintro ⟨hy, hne⟩
      simp only [List.mem_append, List.mem_cons] at hy ⊢
      rcases hy with hy | hy | hy
      · exact Or.inl hy
      · exact absurd hy hne
      · exact Or.inr hy
  have ht : Tr (ns1.set x.toNat (empN p.2.2)) r (a ++ b) := t.same (by simp) fun y hy => by rw [hnd2 y (t.inN y hy).1, if_neg (hxab y hy)]
  have hrest : LRest (takeOut p x).1 (ns1.set x.toNat (empN p.2.2)) (a ++ b) := by
    refine ⟨by rw [hlen]; simp [hr.len], fun j h0 hj => ?_, fun j h0 hj hm => ?_⟩
    · rw [hlen] at hj
      rw [hnd j h0, hnd2 j h0]
      split
      · exact ⟨rfl, rfl, rfl, rfl⟩
      · exact hr.same j h0 hj
    · rw [hlen] at hj
      rw [hnd j h0, hnd2 j h0]
      split
      · rfl
      · rename_i hne
        exact hr.out j h0 hj fun hm2 => by
          simp only [List.mem_append, List.mem_cons] at hm2 hm
          rcases hm2 with h | h | h
          · exact hm (Or.inl h)
          · exact hne h
          · exact hm (Or.inr h)
  unfold laidP
  rw [hs, laid_one ht (Nat.le_refl _) (rise_nodup hrise) hrest]
  rfl
end Go.Proofs.Ytfgfohomgomidaa
