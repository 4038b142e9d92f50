/- Plain mathematics of layer 7: the free list as a chain; what is taken and given back; what is made; no condition but those in each theorem. -/
import Derived.Test.YtombfempdfdeoaaAreA
namespace Go.Proofs.Ytombfempdfdeoaa
set_option linter.unusedVariables false
set_option linter.unusedSimpArgs false
open Go.RowKit

/-- a free list, from a place on. -/
def Chain (rs : List Rec3) : Int → List Int → Prop
  | at_, [] => at_ = -1
  | at_, x :: l => at_ = x ∧ 0 ≤ x ∧ x < (rs.length : Int) ∧ (recAt rs x).1 = -1 ∧ (recAt rs x).2.1 = -1 ∧ Chain rs (recAt rs x).2.2 l
theorem walk_chain {rs : List Rec3} : ∀ {f : Nat} {at_ : Int} {out r : List Int}, walkF rs f at_ out = some r → ∃ l, r = out ++ l ∧ Chain rs at_ l ∧ (∀ x ∈ l, x ∉ out) ∧ l.Nodup
  | 0, _, _, _, h => by cases h
  | f + 1, at_, out, r, h => by
    unfold walkF at h
    split at h
    · rename_i h1
      injection h with h; subst h
      exact ⟨[], by simp, h1, by simp, List.nodup_nil⟩
    · split at h
      · cases h
      · rename_i h1 hb
        obtain ⟨g0, g1, g2, g3, g4⟩ := not_bad hb
        obtain ⟨l, rfl, hc, hn, hd⟩ := walk_chain h
        refine ⟨at_ :: l, by simp, ⟨rfl, g0, g1, g3, g4, hc⟩, ?_, ?_⟩
        · intro x hx
          rcases List.mem_cons.1 hx with rfl | hx
          · exact g2
          · exact fun ho => hn x hx (List.mem_append_left _ ho)
        · exact List.nodup_cons.2 ⟨fun hm => hn at_ hm (by simp), hd⟩
theorem chain_walk {rs : List Rec3} : ∀ {l : List Int} {f : Nat} {at_ : Int} {out : List Int}, Chain rs at_ l → l.Nodup → (∀ x ∈ l, x ∉ out) → l.length < f → walkF rs f at_ out = some (out ++ l)
  | [], f, at_, out, h, _, _, hf => by
    obtain ⟨g, rfl⟩ : ∃ g, f = g + 1 := ⟨f - 1, by simp at hf; omega⟩
    unfold walkF; rw [if_pos (show at_ = -1 from h)]; simp
  | x :: l, f, at_, out, h, hn, ho, hf => by
    obtain ⟨g, rfl⟩ : ∃ g, f = g + 1 := ⟨f - 1, by simp at hf; omega⟩
    obtain ⟨rfl, g0, g1, g2, g3, hc⟩ := h
    have hbad : ¬ badAt rs out at_ := by
      unfold badAt
      simp only [not_or, Int.not_lt, Int.not_le, ne_eq, Decidable.not_not]
      exact ⟨g0, g1, ho at_ (by simp), g2, g3⟩
    unfold walkF
    rw [if_neg (by omega), if_neg hbad, chain_walk hc (List.nodup_cons.1 hn).2 (fun y hy hm => by
      rcases List.mem_append.1 hm with hm | hm
      · exact ho y (by simp [hy]) hm
      · simp at hm; subst hm; exact (List.nodup_cons.1 hn).1 hy) (by simp at hf; omega)]
    simp
theorem chain_places {rs : List Rec3} : ∀ {l : List Int} {at_ : Int}, Chain rs at_ l → ∀ x ∈ l, 0 ≤ x ∧ x < (rs.length : Int)
  | [], _, _, x, h => by simp at h
  | y :: l, _, h, x, hx => by
    obtain ⟨_, g0, g1, _, _, hc⟩ := h
    rcases List.mem_cons.1 hx with rfl | hx
    · exact ⟨g0, g1⟩
    · exact chain_places hc x hx
theorem walkL_iff {p : Aren} {l : List Int} : walkL p = some l ↔ Chain p.1 p.2 l ∧ l.Nodup := by
  constructor
  · intro h
    obtain ⟨l', rfl, hc, _, hn⟩ := walk_chain h
    simpa using ⟨hc, hn⟩
  · rintro ⟨hc, hn⟩
    have hl := Places.len (n := p.1.length) ⟨hn, chain_places hc⟩
    have := chain_walk (out := []) hc hn (by simp) (show l.length < p.1.length + 1 by omega)
    simpa [walkL] using this
/-- what may be. -/
theorem right_iff {p : Aren} : rightS p = true ↔ p.1.length ≤ 64 ∧ ∃ l, Chain p.1 p.2 l ∧ l.Nodup ∧ okAll p.1 l p.1.length := by
  rw [rightS_iff]
  constructor
  · rintro ⟨h, l, hl, ho⟩
    obtain ⟨hc, hn⟩ := walkL_iff.1 hl
    exact ⟨h, l, hc, hn, ho⟩
  · rintro ⟨h, l, hc, hn, ho⟩
    exact ⟨h, l, walkL_iff.2 ⟨hc, hn⟩, ho⟩
/-- all that is to be known of one that may be. -/
structure Ok (p : Aren) (l : List Int) : Prop where
  size : p.1.length ≤ 64
  chain : Chain p.1 p.2 l
  nodup : l.Nodup
  all : okAll p.1 l p.1.length
theorem Ok.right {p : Aren} {l : List Int} (h : Ok p l) : rightS p = true := right_iff.2 ⟨h.size, l, h.chain, h.nodup, h.all⟩
theorem Ok.of {p : Aren} (h : rightS p = true) : ∃ l, Ok p l := by
  obtain ⟨a, l, b, c, d⟩ := right_iff.1 h
  exact ⟨l, a, b, c, d⟩
theorem Ok.free {p : Aren} {l : List Int} (h : Ok p l) : freeS p = l := freeS_right h.right (walkL_iff.2 ⟨h.chain, h.nodup⟩)
theorem Ok.live {p : Aren} {l : List Int} (h : Ok p l) (i : Int) : liveS p i = true ↔ 0 ≤ i ∧ i < (p.1.length : Int) ∧ i ∉ l := by unfold liveS; rw [h.free, decide_eq_true_iff]
theorem Ok.recs {p : Aren} {l : List Int} (h : Ok p l) {i : Int} (hi : liveS p i = true) : okRec p.1.length l (recAt p.1 i) := by
  obtain ⟨h0, h1, h2⟩ := (h.live i).1 hi
  obtain ⟨k, rfl⟩ : ∃ k : Nat, i = k := ⟨i.toNat, by omega⟩
  rcases h.all k (by omega) with h3 | h3
  · exact absurd h3 h2
  · exact h3
theorem recAt_set {rs : List Rec3} {i : Nat} {r : Rec3} {j : Int} (hj : 0 ≤ j) : recAt (rs.set i r) j = if j = (i : Int) ∧ i < rs.length then r else recAt rs j := by
  unfold recAt
  by_cases h : j = (i : Int)
  · subst h
    rw [Int.toNat_natCast]
    by_cases hl : i < rs.length
    · rw [if_pos ⟨rfl, hl⟩]; simp [List.getD, hl]
    · rw [if_neg (fun h => hl h.2)]; simp [List.getD, List.getElem?_set, hl]
  · rw [if_neg (fun h2 => h h2.1)]
    have : j.toNat ≠ i := by omega
    simp [List.getD, List.getElem?_set, Ne.symm this]
theorem chain_set {rs : List Rec3} {i : Nat} {r : Rec3} : ∀ {l : List Int} {at_ : Int}, Chain rs at_ l → (i : Int) ∉ l → Chain (rs.set i r) at_ l
  | [], _, h, _ => h
  | x :: l, at_, h, hi => by
    obtain ⟨e, g0, g1, g2, g3, hc⟩ := h
    have hx : x ≠ (i : Int) := fun e => hi (by simp [e])
    have he : recAt (rs.set i r) x = recAt rs x := by rw [recAt_set g0, if_neg (fun h => hx h.1)]
    exact ⟨e, g0, by rw [List.length_set]; exact g1, by rw [he]; exact g2, by rw [he]; exact g3, by rw [he]; exact chain_set hc (fun h => hi (by simp [h]))⟩
/-- one that is taken. -/
theorem take_ok {p : Aren} {l : List Int} {key task : Int} (h : Ok p l) (hk : 0 ≤ key) (ht : 0 ≤ task) :
    (l = [] ∧ arTake p key task = (p, 0, 6)) ∨
    ∃ (i : Nat) (l' : List Int), l = (i : Int) :: l' ∧ i < p.1.length ∧ (recAt p.1 i).1 = -1 ∧ (recAt p.1 i).2.1 = -1 ∧ p.2 = i ∧
      arTake p key task = ((p.1.set i (key, task, -1), (recAt p.1 i).2.2), (i : Int), 0) ∧ Ok (p.1.set i (key, task, -1), (recAt p.1 i).2.2) l' := by
  have hr := h.right
  cases l with
  | nil =>
    have h2 : p.2 = -1 := h.chain
    left
    refine ⟨rfl, ?_⟩
    unfold arTake
    rw [if_neg (by simp [hr]; omega), if_pos h2]
  | cons x l' =>
    obtain ⟨e, g0, g1, g2, g3, hc⟩ := h.chain
    obtain ⟨i, rfl⟩ : ∃ k : Nat, x = k := ⟨x.toNat, by omega⟩
    have hn := List.nodup_cons.1 h.nodup
    right
    refine ⟨i, l', rfl, by omega, g2, g3, e, ?_, ?_⟩
    · unfold arTake
      rw [if_neg (by simp [hr]; omega), if_neg (by omega), e, Int.toNat_natCast]
    · refine ⟨by rw [List.length_set]; exact h.size, chain_set hc hn.1, hn.2, ?_⟩
      intro j hj
      rw [List.length_set] at hj ⊢
      by_cases hji : j = i
      · subst hji
        right
        rw [recAt_set (by omega), if_pos ⟨rfl, hj⟩]
        refine ⟨hk, ht, ?_, ?_, fun hm => ?_⟩
        · show (-1 : Int) ≤ -1; omega
        · show (-1 : Int) < (p.1.length : Int); omega
        · have := chain_places hc _ hm; simp only at this; omega
      · rw [recAt_set (by omega), if_neg (by omega)]
        rcases h.all j hj with h3 | h3
        · rcases List.mem_cons.1 h3 with h3 | h3
          · omega
          · exact Or.inl h3
        · right
          exact ⟨h3.1, h3.2.1, h3.2.2.1, h3.2.2.2.1, fun hm => h3.2.2.2.2 (by simp [hm])⟩
/-- one that is given back, to which none leads. -/
theorem give_ok {p : Aren} {l : List Int} {i : Nat} (h : Ok p l) (hi : liveS p i = true) (hl : ¬ leadsTo p i p.1.length) :
    arGive p i = ((p.1.set i (-1, -1, p.2), (i : Int)), 0) ∧ Ok (p.1.set i (-1, -1, p.2), (i : Int)) ((i : Int) :: l) := by
  obtain ⟨h0, h1, h2⟩ := (h.live i).1 hi
  refine ⟨?_, ?_⟩
  · unfold arGive
    rw [if_neg (by simp [h.right]), if_neg (by simp [hi]), if_neg (fun h2 => hl (leadsB_iff.1 h2)), Int.toNat_natCast]
  · refine ⟨by rw [List.length_set]; exact h.size, ?_, List.nodup_cons.2 ⟨h2, h.nodup⟩, ?_⟩
    · have he : recAt (p.1.set i (-1, -1, p.2)) (i : Int) = (-1, -1, p.2) := by rw [recAt_set h0, if_pos ⟨rfl, by omega⟩]
      exact ⟨rfl, h0, by rw [List.length_set]; exact h1, by rw [he], by rw [he], by rw [he]; exact chain_set h.chain h2⟩
    · intro j hj
      rw [List.length_set] at hj ⊢
      by_cases hji : j = i
      · subst hji; left; simp
      · rw [recAt_set (by omega), if_neg (by omega)]
        rcases h.all j hj with h3 | h3
        · left; simp [h3]
        · by_cases hm : (j : Int) ∈ l
          · left; simp [hm]
          · right
            refine ⟨h3.1, h3.2.1, h3.2.2.1, h3.2.2.2.1, fun hm2 => ?_⟩
            rcases List.mem_cons.1 hm2 with hm2 | hm2
            · exact hl ⟨j, hj, (h.live j).2 ⟨by omega, by omega, hm⟩, hm2⟩
            · exact h3.2.2.2.2 hm2
/-- what is taken and given back. -/
theorem take_back {p : Aren} {l' : List Int} {i : Nat} {key task : Int} (h : Ok p ((i : Int) :: l')) (hi : i < p.1.length) (h1 : (recAt p.1 i).1 = -1) (h2 : (recAt p.1 i).2.1 = -1) (he : p.2 = i)
    (hx : Ok (p.1.set i (key, task, -1), (recAt p.1 i).2.2) l') :
    arGive (p.1.set i (key, task, -1), (recAt p.1 i).2.2) i = (p, 0) ∧ arGive p i = (p, 7) := by
  have hn := List.nodup_cons.1 h.nodup
  have hlive : liveS (p.1.set i (key, task, -1), (recAt p.1 i).2.2) i = true := (hx.live i).2 ⟨by omega, by simp; omega, hn.1⟩
  have hno : ¬ leadsTo (p.1.set i (key, task, -1), (recAt p.1 i).2.2) i (p.1.set i (key, task, -1), (recAt p.1 i).2.2).1.length := by
    rintro ⟨j, hj, hjl, hjn⟩
    simp only [List.length_set] at hj
    simp only at hjn
    rw [recAt_set (by omega)] at hjn
    by_cases hji : j = i
    · subst hji
      rw [if_pos ⟨rfl, hj⟩] at hjn
      simp only at hjn; omega
    · rw [if_neg (by omega)] at hjn
      have hjl2 := (hx.live j).1 hjl
      have hpl : liveS p j = true := (h.live j).2 ⟨by omega, by omega, fun hm => by
        rcases List.mem_cons.1 hm with hm | hm
        · omega
        · exact hjl2.2.2 hm⟩
      exact (h.recs hpl).2.2.2.2 (by rw [hjn]; simp)
  refine ⟨?_, ?_⟩
  · rw [(give_ok hx hlive hno).1]
    have e : (p.1.set i (key, task, -1)).set i (-1, -1, (recAt p.1 i).2.2) = p.1 := by
      rw [List.set_set]
      apply List.ext_getElem?
      intro j
      by_cases hj : j = i
      · subst hj
        have hg : p.1[j]? = some (recAt p.1 j) := by unfold recAt; rw [Int.toNat_natCast]; simp [List.getD, hi]
        rw [List.getElem?_set_self (by simpa using hi), hg]
        congr 1
        exact Prod.ext h1.symm (Prod.ext h2.symm rfl)
      · rw [List.getElem?_set_ne (Ne.symm hj)]
    simp only
    rw [e]
    congr 1
    exact Prod.ext rfl he.symm
  · have hl : liveS p i = false := by
      cases hq : liveS p i with
      | false => rfl
      | true => exact absurd ((h.live i).1 hq).2.2 (by simp)
    unfold arGive
    rw [if_neg (by simp [h.right]), if_pos hl]
end Go.Proofs.Ytombfempdfdeoaa
