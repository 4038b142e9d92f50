/- Plain mathematics of layer 9: places by their keys, the free list, which treap may be; keys that come and go; no condition but those in each theorem. -/
import Derived.Test.YtfgfohomgomidaaTreM
namespace Go.Proofs.Ytfgfohomgomidaa
set_option linter.unusedVariables false
set_option linter.unusedSimpArgs false
open Go.RowKit

/-- a free list, from a place on. -/
def FCh (ns : List Nd) : Int → List Int → Prop
  | at_, [] => at_ = -1
  | at_, x :: l => at_ = x ∧ 0 ≤ x ∧ x < (ns.length : Int) ∧ ndAt ns x = empN (ndAt ns x).l ∧ FCh ns (ndAt ns x).l l
theorem not_badT {ns : List Nd} {out : List Int} {at_ : Int} (h : ¬ badT ns out at_) : 0 ≤ at_ ∧ at_ < (ns.length : Int) ∧ at_ ∉ out ∧ ndAt ns at_ = empN (ndAt ns at_).l := by
  unfold badT at h
  simp only [not_or, Int.not_lt, Int.not_le, ne_eq, Decidable.not_not] at h
  exact h
theorem walkT_end {ns : List Nd} {f : Nat} {at_ : Int} {out : List Int} (hf : 0 < f) (h : at_ = -1) : walkT ns f at_ out = some out := by
  obtain ⟨g, rfl⟩ : ∃ g, f = g + 1 := ⟨f - 1, by omega⟩
  unfold walkT; rw [if_pos h]
theorem walkT_bad {ns : List Nd} {f : Nat} {at_ : Int} {out : List Int} (h0 : at_ ≠ -1) (h : badT ns out at_) : walkT ns f at_ out = none := by
  cases f with
  | zero => rfl
  | succ f => unfold walkT; rw [if_neg h0, if_pos h]
theorem walkT_step {ns : List Nd} {f : Nat} {at_ : Int} {out : List Int} (hf : 0 < f) (h0 : at_ ≠ -1) (h : ¬ badT ns out at_) : walkT ns f at_ out = walkT ns (f - 1) (ndAt ns at_).l (out ++ [at_]) := by
  obtain ⟨g, rfl⟩ : ∃ g, f = g + 1 := ⟨f - 1, by omega⟩
  conv => lhs; unfold walkT
  rw [if_neg h0, if_neg h]; rfl
theorem walkT_chain {ns : List Nd} : ∀ {f : Nat} {at_ : Int} {out r : List Int}, walkT ns f at_ out = some r → ∃ l, r = out ++ l ∧ FCh ns at_ l ∧ (∀ x ∈ l, x ∉ out) ∧ l.Nodup
  | 0, _, _, _, h => by cases h
  | f + 1, at_, out, r, h => by
    unfold walkT at h
    split at h
    · rename_i h1
      injection h with h; subst h
      exact ⟨[], by simp, h1, by simp, List.nodup_nil⟩
    · split at h
      · cases h
      · rename_i h1 hb
        obtain ⟨g0, g1, g2, g3⟩ := not_badT hb
        obtain ⟨l, e, hc, hn, hd⟩ := walkT_chain h
        refine ⟨at_ :: l, by rw [e]; simp, ⟨rfl, g0, g1, g3, hc⟩, ?_, List.nodup_cons.2 ⟨fun hm => hn at_ hm (by simp), hd⟩⟩
        intro x hx
        rcases List.mem_cons.1 hx with rfl | hx
        · exact g2
        · exact fun ho => hn x hx (List.mem_append_left _ ho)
theorem chain_walkT {ns : List Nd} : ∀ {l : List Int} {f : Nat} {at_ : Int} {out : List Int}, FCh ns at_ l → l.Nodup → (∀ x ∈ l, x ∉ out) → l.length < f → walkT ns f at_ out = some (out ++ l)
  | [], f, at_, out, h, _, _, hf => by rw [walkT_end (by simp at hf; omega) h]; simp
  | x :: l, f, at_, out, h, hn, ho, hf => by
    obtain ⟨rfl, g0, g1, g2, hc⟩ := h
    have hb : ¬ badT ns out at_ := by
      unfold badT
      simp only [not_or, Int.not_lt, Int.not_le, ne_eq, Decidable.not_not]
      exact ⟨g0, g1, ho at_ (by simp), g2⟩
    rw [walkT_step (by omega) (by omega) hb, chain_walkT hc (List.nodup_cons.1 hn).2 (fun y hy hm => by
      rcases List.mem_append.1 hm with hm | hm
      · exact ho y (by simp [hy]) hm
      · simp at hm; subst hm; exact (List.nodup_cons.1 hn).1 hy) (by simp at hf; omega)]
    simp
theorem fch_in {ns : List Nd} : ∀ {l : List Int} {at_ : Int}, FCh ns at_ l → InN ns.length l
  | [], _, _, x, h => by simp at h
  | y :: l, _, h, x, hx => by
    rcases List.mem_cons.1 hx with rfl | hx
    · exact ⟨h.2.1, h.2.2.1⟩
    · exact fch_in h.2.2.2.2 x hx
theorem fch_emp {ns : List Nd} : ∀ {l : List Int} {at_ : Int}, FCh ns at_ l → ∀ x ∈ l, ndAt ns x = empN (ndAt ns x).l
  | [], _, _, x, h => by simp at h
  | y :: l, _, h, x, hx => by
    rcases List.mem_cons.1 hx with rfl | hx
    · exact h.2.2.2.1
    · exact fch_emp h.2.2.2.2 x hx
theorem fch_same {ns ns' : List Nd} (hl : ns'.length = ns.length) : ∀ {l : List Int} {at_ : Int}, FCh ns at_ l → (∀ x ∈ l, ndAt ns' x = ndAt ns x) → FCh ns' at_ l
  | [], _, h, _ => h
  | x :: l, _, h, he => by
    obtain ⟨e, g0, g1, g2, hc⟩ := h
    have hx := he x (by simp)
    exact ⟨e, g0, by rw [hl]; exact g1, by rw [hx]; exact g2, by rw [hx]; exact fch_same hl hc fun y hy => he y (by simp [hy])⟩
/-- no more places, each once, than there are. -/
theorem places_len : ∀ {n : Nat} {l : List Int}, l.Nodup → InN n l → l.length ≤ n
  | 0, l, _, h => by
    cases l with
    | nil => simp
    | cons x l => have := h x (by simp); omega
  | n + 1, l, hn, h => by
    by_cases hm : (n : Int) ∈ l
    · have := places_len (n := n) (hn.erase (n : Int)) (fun x hx => by
        have h1 := (List.Nodup.mem_erase_iff hn).1 hx
        have h3 := h x h1.2
        exact ⟨h3.1, by have := h1.1; omega⟩)
      rw [List.length_erase_of_mem hm] at this
      omega
    · have := places_len (n := n) hn (fun x hx => by
        have h3 := h x hx
        have : x ≠ (n : Int) := fun e => hm (e ▸ hx)
        exact ⟨h3.1, by omega⟩)
      omega
theorem insK_mem {ns : List Nd} {x y : Int} : ∀ {l : List Int}, y ∈ insK ns x l ↔ y = x ∨ y ∈ l
  | [] => by simp [insK]
  | z :: l => by
    unfold insK
    split
    · simp only [List.mem_cons, insK_mem]
      constructor
      · rintro (h | h | h) <;> simp [h]
      · rintro (h | h | h) <;> simp [h]
    · simp
theorem insK_len {ns : List Nd} {x : Int} : ∀ {l : List Int}, (insK ns x l).length = l.length + 1
  | [] => rfl
  | z :: l => by unfold insK; split <;> simp [insK_len]
theorem insK_nodup {ns : List Nd} {x : Int} : ∀ {l : List Int}, l.Nodup → x ∉ l → (insK ns x l).Nodup
  | [], _, _ => by simp [insK]
  | z :: l, h, hx => by
    simp only [List.mem_cons, not_or] at hx
    obtain ⟨h1, h2⟩ := List.nodup_cons.1 h
    unfold insK
    split
    · exact List.nodup_cons.2 ⟨fun hm => by rcases insK_mem.1 hm with e | hm; exact hx.1 e.symm; exact h1 hm, insK_nodup h2 hx.2⟩
    · exact List.nodup_cons.2 ⟨by simp only [List.mem_cons, not_or]; exact hx, h⟩
/-- keys don't fall; keys rise. -/
def Weak (ns : List Nd) (l : List Int) : Prop := l.Pairwise fun a b => keyT ns a ≤ keyT ns b
def Rise (ns : List Nd) (l : List Int) : Prop := l.Pairwise fun a b => keyT ns a < keyT ns b
theorem insK_weak {ns : List Nd} {x : Int} : ∀ {l : List Int}, Weak ns l → Weak ns (insK ns x l)
  | [], _ => by simp [insK, Weak]
  | z :: l, h => by
    obtain ⟨h1, h2⟩ := List.pairwise_cons.1 h
    unfold insK
    split
    · rename_i hlt
      refine List.pairwise_cons.2 ⟨fun y hy => ?_, insK_weak h2⟩
      rcases insK_mem.1 hy with rfl | hy
      · omega
      · exact h1 y hy
    · rename_i hlt
      refine List.pairwise_cons.2 ⟨fun y hy => ?_, h⟩
      rcases List.mem_cons.1 hy with rfl | hy
      · omega
      · have := h1 y hy; omega
theorem sortK_mem {ns : List Nd} {fl : List Int} {x : Int} : ∀ {k : Nat}, x ∈ sortK ns fl k ↔ 0 ≤ x ∧ x < (k : Int) ∧ x ∉ fl
  | 0 => by simp [sortK]; omega
  | k + 1 => by
    unfold sortK
    split
    · rename_i h
      rw [sortK_mem]
      constructor
      · rintro ⟨a, b, c⟩; exact ⟨a, by omega, c⟩
      · rintro ⟨a, b, c⟩
        by_cases e : x = k
        · exact absurd (e ▸ h) c
        · exact ⟨a, by omega, c⟩
    · rename_i h
      rw [insK_mem, sortK_mem]
      constructor
      · rintro (rfl | ⟨a, b, c⟩)
        · exact ⟨by omega, by omega, h⟩
        · exact ⟨a, by omega, c⟩
      · rintro ⟨a, b, c⟩
        by_cases e : x = k
        · exact Or.inl e
        · exact Or.inr ⟨a, by omega, c⟩
theorem sortK_nodup {ns : List Nd} {fl : List Int} : ∀ {k : Nat}, (sortK ns fl k).Nodup
  | 0 => List.nodup_nil
  | k + 1 => by
    unfold sortK
    split
    · exact sortK_nodup
    · exact insK_nodup sortK_nodup fun hm => by have := (sortK_mem.1 hm).2.1; omega
theorem sortK_weak {ns : List Nd} {fl : List Int} : ∀ {k : Nat}, Weak ns (sortK ns fl k)
  | 0 => List.Pairwise.nil
  | k + 1 => by
    unfold sortK
    split
    · exact sortK_weak
    · exact insK_weak sortK_weak
theorem sortK_len {ns : List Nd} {fl : List Int} {k : Nat} : (sortK ns fl k).length ≤ k := places_len sortK_nodup fun x hx => ⟨(sortK_mem.1 hx).1, (sortK_mem.1 hx).2.1⟩
/-- of places there is one list in which keys rise. -/
theorem rise_one {ns : List Nd} : ∀ {l m : List Int}, Rise ns l → Weak ns m → m.Nodup → (∀ x, x ∈ l ↔ x ∈ m) → l = m
  | [], [], _, _, _, _ => rfl
  | [], y :: m, _, _, _, h => by have := (h y).2 (by simp); simp at this
  | x :: l, [], _, _, _, h => by have := (h x).1 (by simp); simp at this
  | x :: l, y :: m, hl, hm, hn, h => by
    obtain ⟨l1, l2⟩ := List.pairwise_cons.1 hl
    obtain ⟨m1, m2⟩ := List.pairwise_cons.1 hm
    obtain ⟨n1, n2⟩ := List.nodup_cons.1 hn
    have hxy : x = y := by
      rcases List.mem_cons.1 ((h x).1 (by simp)) with e | hx
      · exact e
      · rcases List.mem_cons.1 ((h y).2 (by simp)) with e | hy
        · exact e.symm
        · have := m1 x hx; have := l1 y hy; omega
    subst hxy
    have hxl : x ∉ l := fun hm => by have := l1 x hm; omega
    rw [rise_one l2 m2 n2 fun z => ?_]
    constructor
    · intro hz
      rcases List.mem_cons.1 ((h z).1 (by simp [hz])) with e | hz2
      · subst e; exact absurd hz hxl
      · exact hz2
    · intro hz
      rcases List.mem_cons.1 ((h z).2 (by simp [hz])) with e | hz2
      · subst e; exact absurd hz n1
      · exact hz2
theorem rise_nodup {ns : List Nd} {l : List Int} (h : Rise ns l) : l.Nodup := List.Pairwise.imp (fun h e => by subst e; omega) h
theorem rise_weak {ns : List Nd} {l : List Int} (h : Rise ns l) : Weak ns l := List.Pairwise.imp (fun h => by omega) h
/-- keys that don't fall, of which no two neighbours are equal, rise. -/
theorem rise_of {ns : List Nd} : ∀ {l : List Int}, Weak ns l → (∀ i : Nat, i + 1 < l.length → keyT ns (l.getD i 0) ≠ keyT ns (l.getD (i + 1) 0)) → Rise ns l
  | [], _, _ => List.Pairwise.nil
  | [x], _, _ => by simp [Rise]
  | x :: y :: l, h, hne => by
    obtain ⟨h1, h2⟩ := List.pairwise_cons.1 h
    have ih : Rise ns (y :: l) := rise_of h2 fun i hi => by
      have := hne (i + 1) (by simpa using hi)
      simpa using this
    have hxy : keyT ns x < keyT ns y := by
      have a := h1 y (by simp); have b := hne 0 (by simp); simp at b; omega
    refine List.pairwise_cons.2 ⟨fun z hz => ?_, ih⟩
    rcases List.mem_cons.1 hz with rfl | hz
    · exact hxy
    · have := (List.pairwise_cons.1 ih).1 z hz; omega
theorem rise_at {ns : List Nd} {l : List Int} (h : Rise ns l) {i : Nat} (hi : i + 1 < l.length) : keyT ns (l.getD i 0) < keyT ns (l.getD (i + 1) 0) := by
  have := List.pairwise_iff_getElem.1 h i (i + 1) (by omega) hi (by omega)
  simpa [List.getD, show i < l.length by omega, hi] using this
/-- all that is to be known of a treap that may be. -/
structure TOk (p : Trp) (fl l : List Int) : Prop where
  size : p.1.length ≤ 64
  chain : FCh p.1 p.2.2 fl
  fnodup : fl.Nodup
  tree : Tr p.1 p.2.1 l
  cover : ∀ x, x ∈ l ↔ 0 ≤ x ∧ x < (p.1.length : Int) ∧ x ∉ fl
  rise : Rise p.1 l
  pos : ∀ x ∈ l, 0 ≤ keyT p.1 x
theorem TOk.free {p : Trp} {fl l : List Int} (h : TOk p fl l) : freeW p = some fl := by
  unfold freeW
  rw [chain_walkT (out := []) h.chain h.fnodup (by simp) (by have := places_len h.fnodup (fch_in h.chain); omega)]
  simp
theorem TOk.frees {p : Trp} {fl l : List Int} (h : TOk p fl l) : freeT p = fl := by unfold freeT; rw [h.free]; rfl
theorem TOk.sorted {p : Trp} {fl l : List Int} (h : TOk p fl l) : sortT p = l := by
  unfold sortT
  rw [h.frees]
  exact (rise_one h.rise sortK_weak sortK_nodup fun x => by rw [h.cover, sortK_mem]).symm
theorem TOk.nodup {p : Trp} {fl l : List Int} (h : TOk p fl l) : l.Nodup := rise_nodup h.rise
theorem TOk.inN {p : Trp} {fl l : List Int} (h : TOk p fl l) : InN p.1.length l := fun x hx => ⟨((h.cover x).1 hx).1, ((h.cover x).1 hx).2.1⟩
theorem TOk.len {p : Trp} {fl l : List Int} (h : TOk p fl l) : l.length ≤ p.1.length := places_len h.nodup h.inN
theorem TOk.right {p : Trp} {fl l : List Int} (h : TOk p fl l) : rightT p = true := by
  unfold rightT
  refine decide_eq_true ⟨h.size, by rw [h.free]; rfl, ?_, ?_⟩
  · rw [h.sorted]
    intro i hi
    refine ⟨h.pos _ (by simp [List.getD, hi]), fun h0 => ?_⟩
    obtain ⟨j, rfl⟩ : ∃ j, i = j + 1 := ⟨i - 1, by omega⟩
    have := rise_at h.rise hi
    simp only [Nat.add_sub_cancel]; omega
  · unfold laidP
    rw [h.sorted, laid_one h.tree (Nat.le_refl _) h.nodup (LRest.refl _ _)]
theorem TOk.of {p : Trp} (h : rightT p = true) : ∃ fl l, TOk p fl l := by
  obtain ⟨h1, h2, h3, h4⟩ := of_decide_eq_true h
  obtain ⟨fl, hfl⟩ := Option.isSome_iff_exists.1 h2
  have hft : freeT p = fl := by unfold freeT; rw [hfl]; rfl
  obtain ⟨fl', e, hc, _, hd⟩ := walkT_chain hfl
  simp only [List.nil_append] at e
  subst e
  have hst : sortT p = sortK p.1 fl p.1.length := by unfold sortT; rw [hft]
  have hmem : ∀ x, x ∈ sortT p ↔ 0 ≤ x ∧ x < (p.1.length : Int) ∧ x ∉ fl := fun x => by rw [hst, sortK_mem]
  have hnd : (sortT p).Nodup := by rw [hst]; exact sortK_nodup
  refine ⟨fl, sortT p, h1, hc, hd, ?_, hmem, ?_, fun x hx => ?_⟩
  · have ht := (laid_tree (ns := p.1) (Nat.le_refl (sortT p).length) hnd fun x hx => ⟨((hmem x).1 hx).1, ((hmem x).1 hx).2.1⟩).2
    have e1 : (laidT (sortT p).length p.1 (sortT p)).1 = p.1 := congrArg (fun q : Trp => q.1) h4
    have e2 : (laidT (sortT p).length p.1 (sortT p)).2 = p.2.1 := congrArg (fun q : Trp => q.2.1) h4
    rw [e1, e2] at ht; exact ht
  · refine rise_of (by rw [hst]; exact sortK_weak) fun i hi => ?_
    have := (h3 (i + 1) hi).2 (by omega)
    simpa using this
  · obtain ⟨j, hj, rfl⟩ := List.mem_iff_getElem.1 hx
    have := (h3 j hj).1
    simpa [List.getD, hj] using this
theorem key_one {ns : List Nd} {l : List Int} (h : Rise ns l) {x y : Int} (hx : x ∈ l) (hy : y ∈ l) (e : keyT ns x = keyT ns y) : x = y := by
  obtain ⟨i, hi, rfl⟩ := List.mem_iff_getElem.1 hx
  obtain ⟨j, hj, rfl⟩ := List.mem_iff_getElem.1 hy
  rcases Nat.lt_trichotomy i j with h1 | h1 | h1
  · have := List.pairwise_iff_getElem.1 h i j hi hj h1; omega
  · subst h1; rfl
  · have := List.pairwise_iff_getElem.1 h j i hj hi h1; omega
theorem TOk.key {p : Trp} {fl l : List Int} (h : TOk p fl l) {x : Int} (h0 : 0 ≤ x) (h1 : x < (p.1.length : Int)) (hk : 0 ≤ (ndAt p.1 x).k) : x ∈ l := by
  refine (h.cover x).2 ⟨h0, h1, fun hm => ?_⟩
  have := fch_emp h.chain x hm
  rw [this] at hk
  simp [empN] at hk
theorem placeN_some {ns : List Nd} {key : Int} {x : Nat} (hx : (ndAt ns x).k = key) (hk : 0 ≤ key) (hf : ∀ y : Nat, y < x → (ndAt ns y).k ≠ key) : ∀ {f i : Nat}, i ≤ x → x < i + f → placeN ns key f i = x
  | 0, i, h1, h2 => by omega
  | f + 1, i, h1, h2 => by
    unfold placeN
    by_cases e : i = x
    · subst e; rw [if_pos ⟨hx, hk⟩]
    · rw [if_neg (fun h => hf i (by omega) h.1)]
      exact placeN_some hx hk hf (by omega) (by omega)
theorem placeN_none {ns : List Nd} {key : Int} : ∀ {f i : Nat}, (∀ y : Nat, i ≤ y → y < i + f → ¬ ((ndAt ns y).k = key ∧ 0 ≤ key)) → placeN ns key f i = -1
  | 0, _, _ => rfl
  | f + 1, i, h => by
    unfold placeN
    rw [if_neg (h i (Nat.le_refl _) (by omega))]
    exact placeN_none fun y h1 h2 => h y (by omega) (by omega)
theorem TOk.place_some {p : Trp} {fl l : List Int} (h : TOk p fl l) {x key : Int} (hx : x ∈ l) (hk : keyT p.1 x = key) : placeT p.1 key = x := by
  have hb := h.inN x hx
  have hp := h.pos x hx
  obtain ⟨i, rfl⟩ : ∃ i : Nat, x = i := ⟨x.toNat, by omega⟩
  refine placeN_some hk (by omega) (fun y hy he => ?_) (by omega) (by omega)
  have hy2 : (y : Int) ∈ l := h.key (by omega) (by omega) (by rw [he]; omega)
  have := key_one h.rise hy2 hx (by unfold keyT; rw [he]; exact hk.symm)
  omega
theorem TOk.place_none {p : Trp} {fl l : List Int} (h : TOk p fl l) {key : Int} (hk : ∀ x ∈ l, keyT p.1 x ≠ key) : placeT p.1 key = -1 := by
  refine placeN_none fun y _ hy hh => ?_
  exact hk y (h.key (by omega) (by omega) (by rw [hh.1]; exact hh.2)) hh.1
theorem rise_split {ns : List Nd} {a b : List Int} {x : Int} (h : Rise ns (a ++ x :: b)) : (∀ y ∈ a, keyT ns y < keyT ns x) ∧ (∀ y ∈ b, keyT ns x < keyT ns y) ∧ Rise ns a ∧ Rise ns b := by
  obtain ⟨h1, h2, h3⟩ := List.pairwise_append.1 h
  obtain ⟨h4, h5⟩ := List.pairwise_cons.1 h2
  exact ⟨fun y hy => h3 y hy x (by simp), h4, h1, h5⟩
/-- who looks from a tree's top on. -/
theorem find_tree {ns : List Nd} {key : Int} : ∀ {f : Nat} {r looks : Int} {l : List Int}, Tr ns r l → Rise ns l → l.length < f →
    (∃ x, x ∈ l ∧ keyT ns x = key ∧ ∃ c : Nat, 1 ≤ c ∧ c ≤ l.length ∧ findN ns key f r looks = (x, looks + c, true)) ∨ ((∀ x ∈ l, keyT ns x ≠ key) ∧ ∃ c : Nat, c ≤ l.length ∧ findN ns key f r looks = (0, looks + c, false))
  | 0, _, _, _, _, _, hf => by omega
  | f + 1, r, looks, l, ht, hs, hf => by
    unfold findN
    by_cases hr : r = -1
    · rw [if_pos hr]
      subst hr
      have := ht.nil_root; subst this
      exact Or.inr ⟨by simp, 0, by simp, by simp⟩
    · rw [if_neg hr]
      obtain ⟨a, b, rfl, h0, h1, ta, tb, _, _⟩ := ht.cases hr
      obtain ⟨s1, s2, s3, s4⟩ := rise_split hs
      simp only [List.length_append, List.length_cons] at hf ⊢
      by_cases hk : (ndAt ns r).k = key
      · rw [if_pos hk]
        exact Or.inl ⟨r, by simp, hk, 1, by omega, by omega, by simp⟩
      · rw [if_neg hk]
        by_cases hlt : key < (ndAt ns r).k
        · rw [if_pos hlt]
          rcases find_tree (f := f) (key := key) (looks := looks + 1) ta s3 (by omega) with ⟨x, hx, hkx, c, c1, c2, he⟩ | ⟨hn, c, c2, he⟩
          · exact Or.inl ⟨x, by simp [hx], hkx, c + 1, by omega, by omega, by rw [he, show looks + 1 + (c : Int) = looks + ((c + 1 : Nat) : Int) by omega]⟩
          · refine Or.inr ⟨fun x hx => ?_, c + 1, Nat.le_trans (Nat.succ_le_succ c2) (by omega), by rw [he, show looks + 1 + (c : Int) = looks + ((c + 1 : Nat) : Int) by omega]⟩
            rcases List.mem_append.1 hx with hx | hx
            · exact hn x hx
            · rcases List.mem_cons.1 hx with rfl | hx
              · exact hk
              · have h2 := s2 x hx; unfold keyT at h2 ⊢; omega
        · rw [if_neg hlt]
          rcases find_tree (f := f) (key := key) (looks := looks + 1) tb s4 (by omega) with ⟨x, hx, hkx, c, c1, c2, he⟩ | ⟨hn, c, c2, he⟩
          · exact Or.inl ⟨x, by simp [hx], hkx, c + 1, by omega, by omega, by rw [he, show looks + 1 + (c : Int) = looks + ((c + 1 : Nat) : Int) by omega]⟩
          · refine Or.inr ⟨fun x hx => ?_, c + 1, Nat.le_trans (Nat.succ_le_succ c2) (by omega), by rw [he, show looks + 1 + (c : Int) = looks + ((c + 1 : Nat) : Int) by omega]⟩
            rcases List.mem_append.1 hx with hx | hx
            · have h2 := s1 x hx; unfold keyT at h2 ⊢; omega
            · rcases List.mem_cons.1 hx with rfl | hx
              · exact hk
              · exact hn x hx
theorem TOk.find {p : Trp} {fl l : List Int} (h : TOk p fl l) (key : Int) :
    (∃ x, x ∈ l ∧ keyT p.1 x = key ∧ ∃ c : Nat, 1 ≤ c ∧ c ≤ l.length ∧ findT p key = (x, (c : Int), true)) ∨ ((∀ x ∈ l, keyT p.1 x ≠ key) ∧ ∃ c : Nat, c ≤ l.length ∧ findT p key = (0, (c : Int), false)) := by
  unfold findT
  rw [if_pos h.right]
  have := find_tree (key := key) (looks := 0) (f := p.1.length + 1) h.tree h.rise (by have := h.len; omega)
  simpa using this
end Go.Proofs.Ytfgfohomgomidaa
