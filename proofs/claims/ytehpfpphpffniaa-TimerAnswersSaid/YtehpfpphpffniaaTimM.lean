/- Plain mathematics of layer 12: what is put right up and down is a heap of the same timers; they come in turn; no condition but those in each theorem. -/
import Derived.Test.YtehpfpphpffniaaTimA
namespace Go.Proofs.Ytehpfpphpffniaa
set_option linter.unusedVariables false
set_option linter.unusedSimpArgs false
open Go.RowKit

theorem befT_irr (a : Tm) : ¬ befT a a := by unfold befT; omega
theorem befT_trans {a b c : Tm} (h : befT a b) (g : befT b c) : befT a c := by unfold befT at *; omega
theorem nbef_trans {a b c : Tm} (h : ¬ befT b a) (g : ¬ befT c b) : ¬ befT c a := by unfold befT at *; omega
theorem bef_nbef {a b c : Tm} (h : befT a b) (g : ¬ befT c b) : befT a c := by unfold befT at *; omega
theorem befT_tri {a b : Tm} (h : a ≠ b) : befT a b ∨ befT b a := by
  have : a.1 ≠ b.1 ∨ a.2 ≠ b.2 := by
    refine Classical.byContradiction fun hn => h (Prod.ext ?_ ?_)
    · omega
    · omega
  unfold befT; omega
theorem befT_asym {a b : Tm} (h : befT a b) : ¬ befT b a := by unfold befT at *; omega
theorem tmAt_get {h : List Tm} {i : Nat} (hi : i < h.length) : tmAt h i = h[i] := by unfold tmAt; rw [List.getD_eq_getElem?_getD, List.getElem?_eq_getElem hi]; rfl
theorem tmAt_mem {h : List Tm} {i : Nat} (hi : i < h.length) : tmAt h i ∈ h := by rw [tmAt_get hi]; exact List.getElem_mem hi
theorem mem_tmAt {h : List Tm} {x : Tm} (hx : x ∈ h) : ∃ i, i < h.length ∧ tmAt h i = x := by
  obtain ⟨i, hi, e⟩ := List.mem_iff_getElem.1 hx
  exact ⟨i, hi, by rw [tmAt_get hi]; exact e⟩
theorem tmAt_set {h : List Tm} {i j : Nat} {x : Tm} (hi : i < h.length) : tmAt (h.set i x) j = if j = i then x else tmAt h j := by
  unfold tmAt
  by_cases e : j = i
  · subst e; rw [if_pos rfl, List.getD_eq_getElem?_getD, List.getElem?_set_self hi]; rfl
  · rw [if_neg e, List.getD_eq_getElem?_getD, List.getD_eq_getElem?_getD, List.getElem?_set_ne (Ne.symm e)]
theorem tms_ext {a b : List Tm} (hl : a.length = b.length) (h : ∀ j : Nat, j < a.length → tmAt a j = tmAt b j) : a = b := by
  apply List.ext_getElem hl
  intro j h1 h2
  have := h j h1
  rwa [tmAt_get h1, tmAt_get h2] at this
theorem swapT_len (h : List Tm) (i p : Nat) : (swapT h i p).length = h.length := by simp [swapT]
theorem swapT_at {h : List Tm} {i p : Nat} (hi : i < h.length) (hp : p < h.length) (j : Nat) : tmAt (swapT h i p) j = if j = p then tmAt h i else if j = i then tmAt h p else tmAt h j := by
  unfold swapT
  rw [tmAt_set (by simpa using hp), tmAt_set hi]
/-- the same timers, whose tasks are unlike. -/
structure Sm (h h' : List Tm) : Prop where
  len : h'.length = h.length
  mem : ∀ x, x ∈ h' ↔ x ∈ h
/-- tasks are unlike. -/
def Un (h : List Tm) : Prop := ∀ i j : Nat, i < h.length → j < h.length → (tmAt h i).2 = (tmAt h j).2 → i = j
theorem Sm.refl (h : List Tm) : Sm h h := ⟨rfl, fun _ => Iff.rfl⟩
theorem Sm.trans {a b c : List Tm} (h : Sm a b) (g : Sm b c) : Sm a c := ⟨g.len.trans h.len, fun x => (g.mem x).trans (h.mem x)⟩
theorem swap_sm {h : List Tm} {i p : Nat} (hi : i < h.length) (hp : p < h.length) : Sm h (swapT h i p) := by
  refine ⟨swapT_len _ _ _, fun x => ⟨fun hx => ?_, fun hx => ?_⟩⟩
  · obtain ⟨j, hj, e⟩ := mem_tmAt hx
    rw [swapT_len] at hj
    rw [swapT_at hi hp] at e
    subst e
    split
    · exact tmAt_mem hi
    · split
      · exact tmAt_mem hp
      · exact tmAt_mem hj
  · obtain ⟨j, hj, e⟩ := mem_tmAt hx
    subst e
    by_cases e1 : j = i
    · have := tmAt_mem (h := swapT h i p) (i := p) (by rw [swapT_len]; exact hp)
      rw [swapT_at hi hp, if_pos rfl] at this
      rw [e1]; exact this
    · by_cases e2 : j = p
      · have := tmAt_mem (h := swapT h i p) (i := i) (by rw [swapT_len]; exact hi)
        rw [swapT_at hi hp] at this
        by_cases e3 : i = p
        · rw [e2, ← e3] at e1; exact absurd rfl e1
        · rw [if_neg e3, if_pos rfl] at this
          rw [e2]; exact this
      · have := tmAt_mem (h := swapT h i p) (i := j) (by rw [swapT_len]; exact hj)
        rw [swapT_at hi hp, if_neg e2, if_neg e1] at this
        exact this
theorem swap_un {h : List Tm} {i p : Nat} (hi : i < h.length) (hp : p < h.length) (hu : Un h) : Un (swapT h i p) := by
  have key : ∀ j : Nat, j < h.length → ∃ k : Nat, k < h.length ∧ tmAt (swapT h i p) j = tmAt h k ∧ k = (if j = p then i else if j = i then p else j) := by
    intro j hj
    rw [swapT_at hi hp]
    by_cases e1 : j = p
    · exact ⟨i, hi, by rw [if_pos e1], by rw [if_pos e1]⟩
    · by_cases e2 : j = i
      · exact ⟨p, hp, by rw [if_neg e1, if_pos e2], by rw [if_neg e1, if_pos e2]⟩
      · exact ⟨j, hj, by rw [if_neg e1, if_neg e2], by rw [if_neg e1, if_neg e2]⟩
  intro a b ha hb e
  rw [swapT_len] at ha hb
  obtain ⟨k, hk, ek, dk⟩ := key a ha
  obtain ⟨l, hl, el, dl⟩ := key b hb
  rw [ek, el] at e
  have hkl := hu k l hk hl e
  rw [dk, dl] at hkl
  split at hkl <;> split at hkl <;> (try split at hkl) <;> (try split at hkl) <;> omega
/-- a heap, but at a place and its parent. -/
structure HUp (h : List Tm) (i : Nat) : Prop where
  rest : ∀ j : Nat, 0 < j → j < h.length → j ≠ i → ¬ befT (tmAt h j) (tmAt h ((j - 1) / 4))
  over : ∀ c : Nat, 0 < c → c < h.length → (c - 1) / 4 = i → 0 < i → ¬ befT (tmAt h c) (tmAt h ((i - 1) / 4))
def Heap (h : List Tm) : Prop := ∀ j : Nat, 0 < j → j < h.length → ¬ befT (tmAt h j) (tmAt h ((j - 1) / 4))
theorem up_ok : ∀ {f : Nat} {h : List Tm} {i : Nat}, i < f → i < h.length → HUp h i → Un h → Heap (upT f h i) ∧ Sm h (upT f h i) ∧ Un (upT f h i)
  | 0, _, _, hf, _, _, _ => by omega
  | f + 1, h, i, hf, hi, hh, hu => by
    unfold upT
    by_cases hc : 0 < i ∧ befT (tmAt h i) (tmAt h ((i - 1) / 4))
    · rw [if_pos hc]
      obtain ⟨h0, hb⟩ := hc
      obtain ⟨p, hp⟩ : ∃ p, (i - 1) / 4 = p := ⟨_, rfl⟩
      rw [hp] at hb ⊢
      have hpi : p < i := by omega
      have hpl : p < h.length := by omega
      have hat := swapT_at hi hpl
      have hrec : HUp (swapT h i p) p := by
        refine ⟨fun j j0 jl jp => ?_, fun c c0 cl cp p0 => ?_⟩
        · rw [swapT_len] at jl
          rw [hat, hat, if_neg jp]
          by_cases e1 : j = i
          · subst e1; rw [if_pos rfl, if_pos hp]; exact befT_asym hb
          · rw [if_neg e1]
            have hr := hh.rest j j0 jl e1
            by_cases e2 : (j - 1) / 4 = p
            · rw [if_pos e2]; rw [e2] at hr
              intro hx; exact hr (befT_trans hx hb)
            · rw [if_neg e2]
              by_cases e3 : (j - 1) / 4 = i
              · rw [if_pos e3]
                have := hh.over j j0 jl e3 h0
                rwa [hp] at this
              · rw [if_neg e3]; exact hr
        · rw [swapT_len] at cl
          have e5 : (p - 1) / 4 ≠ p := by omega
          have e6 : (p - 1) / 4 ≠ i := by omega
          have e7 : c ≠ p := by omega
          rw [hat, hat, if_neg e5, if_neg e6, if_neg e7]
          have hpp := hh.rest p p0 hpl (by omega)
          by_cases e1 : c = i
          · rw [if_pos e1]; exact hpp
          · rw [if_neg e1]
            have hr := hh.rest c c0 cl e1
            rw [cp] at hr
            exact nbef_trans hpp hr
      obtain ⟨g1, g2, g3⟩ := @up_ok f (swapT h i p) p (by omega) (by rw [swapT_len]; exact hpl) hrec (swap_un hi hpl hu)
      exact ⟨g1, (swap_sm hi hpl).trans g2, g3⟩
    · rw [if_neg hc]
      refine ⟨fun j j0 jl => ?_, Sm.refl _, hu⟩
      by_cases e : j = i
      · subst e; exact fun hb => hc ⟨j0, hb⟩
      · exact hh.rest j j0 jl e
theorem bestC_ok (h : List Tm) (b : Nat) (hb : b < h.length) : ∀ m : Nat, b ≤ bestC h b m ∧ bestC h b m ≤ b + m ∧ bestC h b m < h.length ∧ ∀ k : Nat, b ≤ k → k ≤ b + m → k < h.length → ¬ befT (tmAt h k) (tmAt h (bestC h b m))
  | 0 => ⟨Nat.le_refl _, Nat.le_refl _, hb, fun k k0 k1 _ => by
      have : k = b := by omega
      subst this; exact befT_irr _⟩
  | m + 1 => by
    obtain ⟨g1, g2, g3, g4⟩ := bestC_ok h b hb m
    unfold bestC
    by_cases hc : b + m + 1 < h.length ∧ befT (tmAt h (b + m + 1)) (tmAt h (bestC h b m))
    · rw [if_pos hc]
      refine ⟨by omega, by omega, hc.1, fun k k0 k1 kl => ?_⟩
      by_cases e : k = b + m + 1
      · subst e; exact befT_irr _
      · have := g4 k k0 (by omega) kl
        intro hx; exact this (befT_trans hx hc.2)
    · rw [if_neg hc]
      refine ⟨g1, by omega, g3, fun k k0 k1 kl => ?_⟩
      by_cases e : k = b + m + 1
      · subst e; exact fun hb2 => hc ⟨kl, hb2⟩
      · exact g4 k k0 (by omega) kl
/-- a heap, but at a place, with its parent and its children. -/
structure HDn (h : List Tm) (i : Nat) : Prop where
  rest : ∀ j : Nat, 0 < j → j < h.length → j ≠ i → (j - 1) / 4 ≠ i → ¬ befT (tmAt h j) (tmAt h ((j - 1) / 4))
  over : ∀ c : Nat, 0 < c → c < h.length → (c - 1) / 4 = i → 0 < i → ¬ befT (tmAt h c) (tmAt h ((i - 1) / 4))
/-- down: all is right but at the place and its parent, and there as it was, if nothing moved. -/
theorem down_ok : ∀ {f : Nat} {h : List Tm} {i : Nat}, h.length ≤ f + i → i < h.length → HDn h i → Un h →
    Sm h (downT f h i) ∧ Un (downT f h i) ∧ (downT f h i).length = h.length ∧ (∀ j : Nat, j < i → tmAt (downT f h i) j = tmAt h j) ∧
      (∀ j : Nat, 0 < j → j < h.length → j ≠ i → ¬ befT (tmAt (downT f h i) j) (tmAt (downT f h i) ((j - 1) / 4))) ∧
      (downT f h i = h ∨ ∃ c : Nat, 0 < c ∧ c < h.length ∧ (c - 1) / 4 = i ∧ tmAt (downT f h i) i = tmAt h c)
  | 0, h, i, hf, hi, _, _ => by omega
  | f + 1, h, i, hf, hi, hh, hu => by
    unfold downT
    by_cases hc : 4 * i + 1 < h.length
    · rw [if_pos hc]
      obtain ⟨b1, b2, b3, b4⟩ := bestC_ok h (4 * i + 1) hc 3
      generalize bestC h (4 * i + 1) 3 = b at *
      have hbp : (b - 1) / 4 = i := by omega
      by_cases hb : befT (tmAt h b) (tmAt h i)
      · rw [if_pos hb]
        have hat := swapT_at hi b3
        have hrec : HDn (swapT h i b) b := by
          refine ⟨fun j j0 jl jb jp => ?_, fun c c0 cl cp p0 => ?_⟩
          · rw [swapT_len] at jl
            rw [hat, hat, if_neg jb, if_neg jp]
            by_cases e1 : j = i
            · subst e1
              rw [if_pos rfl, if_neg (by omega)]
              exact hh.over b (by omega) b3 hbp j0
            · rw [if_neg e1]
              by_cases e2 : (j - 1) / 4 = i
              · rw [if_pos e2]; exact b4 j (by omega) (by omega) jl
              · rw [if_neg e2]; exact hh.rest j j0 jl e1 e2
          · rw [swapT_len] at cl
            rw [hbp, hat, hat, if_neg (by omega), if_neg (by omega), if_neg (by omega), if_pos rfl]
            have := hh.rest c c0 cl (by omega) (by omega)
            rwa [cp] at this
        obtain ⟨g1, g2, g3, g4, g5, g6⟩ := @down_ok f (swapT h i b) b (by rw [swapT_len]; omega) (by rw [swapT_len]; exact b3) hrec (swap_un hi b3 hu)
        rw [swapT_len] at g3 g5 g6
        have hti : tmAt (downT f (swapT h i b) b) i = tmAt h b := by rw [g4 i (by omega), hat, if_neg (by omega), if_pos rfl]
        refine ⟨(swap_sm hi b3).trans g1, g2, g3, fun j hj => ?_, fun j j0 jl ji => ?_, Or.inr ⟨b, by omega, b3, hbp, hti⟩⟩
        · rw [g4 j (by omega), hat, if_neg (by omega), if_neg (by omega)]
        · by_cases e : j = b
          · subst e
            rw [hbp, hti]
            rcases g6 with h7 | ⟨c, c0, cl, cp, h7⟩
            · rw [h7, hat, if_pos rfl]; exact befT_asym hb
            · rw [h7, hat, if_neg (by omega), if_neg (by omega)]
              have := hh.rest c c0 cl (by omega) (by omega)
              rwa [cp] at this
          · exact g5 j j0 jl e
      · rw [if_neg hb]
        refine ⟨Sm.refl _, hu, rfl, fun _ _ => rfl, fun j j0 jl ji => ?_, Or.inl rfl⟩
        by_cases e2 : (j - 1) / 4 = i
        · rw [e2]
          exact nbef_trans hb (b4 j (by omega) (by omega) jl)
        · exact hh.rest j j0 jl ji e2
    · rw [if_neg hc]
      refine ⟨Sm.refl _, hu, rfl, fun _ _ => rfl, fun j j0 jl ji => ?_, Or.inl rfl⟩
      exact hh.rest j j0 jl ji (by omega)
/-- the one on top is before all others. -/
theorem heap_min {h : List Tm} (hh : Heap h) : ∀ (j : Nat), j < h.length → ¬ befT (tmAt h j) (tmAt h 0)
  | 0, _ => befT_irr _
  | j + 1, hj => by
    have h1 := hh (j + 1) (by omega) hj
    have h2 := heap_min hh ((j + 1 - 1) / 4) (by omega)
    exact nbef_trans h2 h1
termination_by j => j
decreasing_by omega
theorem right_iff12 {h : List Tm} : rightH h = true ↔ h.length ≤ 12 ∧ Heap h ∧ Un h ∧ ∀ x ∈ h, 0 ≤ x.1 ∧ 0 ≤ x.2 := by
  unfold rightH
  rw [decide_eq_true_iff]
  constructor
  · rintro ⟨h1, h2⟩
    refine ⟨h1, fun j j0 jl => (h2 j jl).2.2.1 j0, fun i j hi hj e => ?_, fun x hx => ?_⟩
    · rcases Nat.lt_trichotomy i j with h3 | h3 | h3
      · exact absurd e ((h2 j hj).2.2.2 i h3)
      · exact h3
      · exact absurd e.symm ((h2 i hi).2.2.2 j h3)
    · obtain ⟨i, hi, rfl⟩ := mem_tmAt hx
      exact ⟨(h2 i hi).1, (h2 i hi).2.1⟩
  · rintro ⟨h1, h2, h3, h4⟩
    refine ⟨h1, fun i hi => ⟨(h4 _ (tmAt_mem hi)).1, (h4 _ (tmAt_mem hi)).2, fun i0 => h2 i i0 hi, fun k hk e => ?_⟩⟩
    have := h3 k i (by omega) hi e
    omega
end Go.Proofs.Ytehpfpphpffniaa
