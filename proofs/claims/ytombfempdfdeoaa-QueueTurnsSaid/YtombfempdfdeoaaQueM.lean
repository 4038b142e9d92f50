/- Plain mathematics of layer 8: rows as links; what is pushed, popped and dropped; no condition but those in each theorem. -/
import Derived.Test.YtombfempdfdeoaaQueA
namespace Go.Proofs.Ytombfempdfdeoaa
set_option linter.unusedVariables false
set_option linter.unusedSimpArgs false
open Go.RowKit

/-- a row's links, from a place on. -/
def Link (rs : List Rec3) : Int → List Int → Prop
  | at_, [] => at_ = -1
  | at_, x :: l => at_ = x ∧ Link rs (recAt rs x).2.2 l
theorem link_head {rs : List Rec3} : ∀ {l : List Int} {at_ : Int}, Link rs at_ l → at_ = headD' l
  | [], _, h => h
  | x :: l, _, h => h.1
theorem link_of {rs : List Rec3} {l : List Int} (h : ∃ at_, Link rs at_ l) : Link rs (headD' l) l := by
  obtain ⟨a, h⟩ := h
  rw [← link_head h]; exact h
theorem live_ge {p : Aren} {x : Int} (h : liveS p x = true) : 0 ≤ x := (live_bounds h).1
theorem qWalk_link {p : Aren} : ∀ {f : Nat} {at_ : Int} {out r : List Int}, qWalk p f at_ out = some r → ∃ l, r = out ++ l ∧ Link p.1 at_ l ∧ (∀ x ∈ l, liveS p x = true) ∧ (∀ x ∈ l, x ∉ out) ∧ l.Nodup
  | 0, _, _, _, h => by cases h
  | f + 1, at_, out, r, h => by
    unfold qWalk at h
    split at h
    · rename_i h1
      injection h with h; subst h
      exact ⟨[], by simp, h1, by simp, by simp, List.nodup_nil⟩
    · split at h
      · cases h
      · rename_i h1 hb
        obtain ⟨gl, g0, g1, g2⟩ := not_badQ hb
        obtain ⟨l, rfl, hc, hv, hn, hd⟩ := qWalk_link h
        refine ⟨at_ :: l, by simp, ⟨rfl, hc⟩, ?_, ?_, List.nodup_cons.2 ⟨fun hm => hn at_ hm (by simp), hd⟩⟩
        · intro x hx
          rcases List.mem_cons.1 hx with rfl | hx
          · exact gl
          · exact hv x hx
        · intro x hx
          rcases List.mem_cons.1 hx with rfl | hx
          · exact g2
          · exact fun ho => hn x hx (List.mem_append_left _ ho)
theorem link_qWalk {p : Aren} : ∀ {l : List Int} {f : Nat} {at_ : Int} {out : List Int}, Link p.1 at_ l → (∀ x ∈ l, liveS p x = true) → l.Nodup → (∀ x ∈ l, x ∉ out) → l.length < f → qWalk p f at_ out = some (out ++ l)
  | [], f, at_, out, h, _, _, _, hf => by rw [qWalk_end (by simp at hf; omega) h]; simp
  | x :: l, f, at_, out, h, hv, hn, ho, hf => by
    obtain ⟨rfl, hc⟩ := h
    have hl := hv at_ (by simp)
    have h0 : at_ ≠ -1 := by have := live_ge hl; omega
    have hb : ¬ badQ p out at_ := by
      unfold badQ
      simp only [not_or, Bool.not_eq_false]
      exact ⟨hl, ho at_ (by simp)⟩
    rw [qWalk_step (by omega) h0 hb, link_qWalk hc (fun y hy => hv y (by simp [hy])) (List.nodup_cons.1 hn).2 (fun y hy hm => by
      rcases List.mem_append.1 hm with hm | hm
      · exact ho y (by simp [hy]) hm
      · simp at hm; subst hm; exact (List.nodup_cons.1 hn).1 hy) (by simp at hf; omega)]
    simp
/-- all that is to be known of a row that may be. -/
structure Row (p : Aren) (q : Qu) (l : List Int) : Prop where
  link : Link p.1 q.1 l
  live : ∀ x ∈ l, liveS p x = true
  nodup : l.Nodup
  last : q.2 = lastD l
theorem Row.places {p : Aren} {q : Qu} {l : List Int} (h : Row p q l) : Places p.1.length l := ⟨h.nodup, fun x hx => live_bounds (h.live x hx)⟩
theorem Row.pl {p : Aren} {q : Qu} {l : List Int} (h : Row p q l) (hr : rightS p = true) : qPl p q = (l, true) := by
  unfold qPl
  rw [if_neg (by simp [hr]), link_qWalk (out := []) h.link h.live h.nodup (by simp) (by have := h.places.len; omega)]
  simp [h.last]
theorem Row.right {p : Aren} {q : Qu} {l : List Int} (h : Row p q l) (hr : rightS p = true) : qRight p q = true := by unfold qRight; rw [h.pl hr]
theorem Row.eq {p : Aren} {q : Qu} {l : List Int} (h : Row p q l) (hr : rightS p = true) : qPlaces p q = l := by rw [qPlaces_right (h.right hr), h.pl hr]
theorem Row.tasks {p : Aren} {q : Qu} {l : List Int} (h : Row p q l) (hr : rightS p = true) : qTasks p q = l.map fun i => (recAt p.1 i).2.1 := by unfold qTasks; rw [h.eq hr]
theorem Row.of {p : Aren} {q : Qu} (h : qRight p q = true) : rightS p = true ∧ Row p q (qPlaces p q) := by
  rw [qPlaces_right h]
  unfold qRight at h
  unfold qPl at h ⊢
  split at h
  · cases h
  · rename_i hr
    refine ⟨by simpa using hr, ?_⟩
    split at h
    · cases h
    · rename_i l hw
      rw [if_neg hr]
      simp only [hw]
      obtain ⟨l', e, hk, hv, _, hn⟩ := qWalk_link hw
      simp only [List.nil_append] at e
      subst e
      exact ⟨hk, hv, hn, by simpa using (beq_iff_eq.1 h).symm⟩
theorem Row.laidQ {p : Aren} {q : Qu} {l : List Int} (h : Row p q l) : q = laidQ l := Prod.ext (link_head h.link) h.last

theorem recAt_setN {rs : List Rec3} {i x j : Int} (hi : 0 ≤ i) (hj : 0 ≤ j) (hl : i < (rs.length : Int)) : recAt (setN rs i x) j = if j = i then ((recAt rs i).1, (recAt rs i).2.1, x) else recAt rs j := by
  unfold setN
  rw [recAt_set hj]
  by_cases h : j = i
  · subst h; rw [if_pos rfl, if_pos ⟨by omega, by omega⟩]
  · rw [if_neg h, if_neg (fun h2 => h (by omega))]
theorem setN_same {rs : List Rec3} {i : Int} (hi : 0 ≤ i) : setN rs i (recAt rs i).2.2 = rs := by
  unfold setN
  apply List.ext_getElem?
  intro j
  by_cases hj : j = i.toNat
  · subst hj
    rcases Nat.lt_or_ge i.toNat rs.length with h1 | h1
    · rw [List.getElem?_set_self h1, List.getElem?_eq_getElem h1]
      congr 1
      unfold recAt
      simp [List.getD, h1]
    · rw [List.getElem?_eq_none (by simpa using h1), List.getElem?_eq_none h1]
  · rw [List.getElem?_set_ne (Ne.symm hj)]
theorem laidR_notin : ∀ {l : List Int} {rs : List Rec3} {j : Int}, (∀ x ∈ l, 0 ≤ x ∧ x < (rs.length : Int)) → 0 ≤ j → j ∉ l → recAt (laidR rs l) j = recAt rs j
  | [], _, _, _, _, _ => rfl
  | x :: l, rs, j, hb, hj, hn => by
    simp only [List.mem_cons, not_or] at hn
    have hx := hb x (by simp)
    show recAt (laidR (setN rs x (headD' l)) l) j = _
    rw [laidR_notin (fun y hy => by rw [setN_len]; exact hb y (by simp [hy])) hj hn.2, recAt_setN hx.1 hj hx.2, if_neg hn.1]
theorem laidR_data : ∀ {l : List Int} {rs : List Rec3} {j : Int}, (∀ x ∈ l, 0 ≤ x ∧ x < (rs.length : Int)) → 0 ≤ j → (recAt (laidR rs l) j).1 = (recAt rs j).1 ∧ (recAt (laidR rs l) j).2.1 = (recAt rs j).2.1
  | [], _, _, _, _ => ⟨rfl, rfl⟩
  | x :: l, rs, j, hb, hj => by
    have hx := hb x (by simp)
    obtain ⟨h1, h2⟩ := laidR_data (l := l) (rs := setN rs x (headD' l)) (j := j) (fun y hy => by rw [setN_len]; exact hb y (by simp [hy])) hj
    show (recAt (laidR (setN rs x (headD' l)) l) j).1 = _ ∧ (recAt (laidR (setN rs x (headD' l)) l) j).2.1 = _
    rw [h1, h2, recAt_setN hx.1 hj hx.2]
    by_cases e : j = x
    · subst e; rw [if_pos rfl]; exact ⟨rfl, rfl⟩
    · rw [if_neg e]; exact ⟨rfl, rfl⟩
/-- the links are laid. -/
theorem laidR_link : ∀ {l : List Int} {rs : List Rec3}, (∀ x ∈ l, 0 ≤ x ∧ x < (rs.length : Int)) → l.Nodup → Link (laidR rs l) (headD' l) l
  | [], _, _, _ => rfl
  | x :: l, rs, hb, hn => by
    have hx := hb x (by simp)
    have hn2 := List.nodup_cons.1 hn
    have hb2 : ∀ y ∈ l, 0 ≤ y ∧ y < ((setN rs x (headD' l)).length : Int) := fun y hy => by rw [setN_len]; exact hb y (by simp [hy])
    refine ⟨rfl, ?_⟩
    show Link (laidR (setN rs x (headD' l)) l) (recAt (laidR (setN rs x (headD' l)) l) x).2.2 l
    rw [laidR_notin hb2 hx.1 hn2.1, recAt_setN hx.1 hx.1 hx.2, if_pos rfl]
    exact laidR_link hb2 hn2.2
/-- links that stand are laid for nothing. -/
theorem laidR_same : ∀ {l : List Int} {rs : List Rec3} {at_ : Int}, (∀ x ∈ l, 0 ≤ x ∧ x < (rs.length : Int)) → Link rs at_ l → laidR rs l = rs
  | [], _, _, _, _ => rfl
  | x :: l, rs, at_, hb, h => by
    have hx := hb x (by simp)
    have e := link_head h.2
    show laidR (setN rs x (headD' l)) l = rs
    rw [← e, setN_same hx.1]
    exact laidR_same (fun y hy => hb y (by simp [hy])) h.2
theorem link_next {rs : List Rec3} : ∀ {l : List Int} {at_ : Int}, Link rs at_ l → ∀ x ∈ l, (recAt rs x).2.2 = -1 ∨ (recAt rs x).2.2 ∈ l
  | [], _, _, x, h => by simp at h
  | y :: l, _, h, x, hx => by
    rcases List.mem_cons.1 hx with rfl | hx
    · cases l with
      | nil => exact Or.inl h.2
      | cons z l => right; rw [h.2.1]; simp
    · rcases link_next h.2 x hx with h2 | h2
      · exact Or.inl h2
      · right; simp [h2]
/-- nobody of a row leads to its first one; and nobody to itself. -/
theorem link_nohead {rs : List Rec3} : ∀ {l : List Int} {at_ y : Int}, Link rs at_ l → y ∉ l → 0 ≤ y → ∀ x ∈ l, (recAt rs x).2.2 ≠ y
  | l, at_, y, h, hy, h0, x, hx, e => by
    rcases link_next h x hx with h2 | h2
    · omega
    · rw [e] at h2; exact hy h2
theorem link_noself {rs : List Rec3} : ∀ {l : List Int} {at_ : Int}, Link rs at_ l → l.Nodup → (∀ x ∈ l, 0 ≤ x) → ∀ x ∈ l, (recAt rs x).2.2 ≠ x
  | [], _, _, _, _, x, hx, _ => by simp at hx
  | y :: l, _, h, hn, h0, x, hx, e => by
    have hn2 := List.nodup_cons.1 hn
    rcases List.mem_cons.1 hx with rfl | hx
    · have := link_head h.2
      rw [e] at this
      cases l with
      | nil => have h1 : x = -1 := this; have := h0 x (by simp); omega
      | cons z l => have h1 : x = z := this; subst h1; exact hn2.1 (by simp)
    · exact link_noself h.2 hn2.2 (fun z hz => h0 z (by simp [hz])) x hx e
theorem link_set {rs rs' : List Rec3} : ∀ {l : List Int} {at_ : Int}, Link rs at_ l → (∀ x ∈ l, (recAt rs' x).2.2 = (recAt rs x).2.2) → Link rs' at_ l
  | [], _, h, _ => h
  | x :: l, _, h, he => ⟨h.1, by rw [he x (by simp)]; exact link_set h.2 fun y hy => he y (by simp [hy])⟩
theorem chain_same {rs rs' : List Rec3} (hl : rs'.length = rs.length) : ∀ {l : List Int} {at_ : Int}, Chain rs at_ l → (∀ x ∈ l, recAt rs' x = recAt rs x) → Chain rs' at_ l
  | [], _, h, _ => h
  | x :: l, _, h, he => by
    obtain ⟨e, g0, g1, g2, g3, hc⟩ := h
    have hx := he x (by simp)
    exact ⟨e, g0, by rw [hl]; exact g1, by rw [hx]; exact g2, by rw [hx]; exact g3, by rw [hx]; exact chain_same hl hc fun y hy => he y (by simp [hy])⟩
/-- links that are laid over live records: the arena may be still. -/
theorem laid_ok {p : Aren} {fl l : List Int} (h : Ok p fl) (hv : ∀ x ∈ l, liveS p x = true) (hn : l.Nodup) : Ok (laidR p.1 l, p.2) fl := by
  have hb : ∀ x ∈ l, 0 ≤ x ∧ x < (p.1.length : Int) := fun x hx => live_bounds (hv x hx)
  have hlk := laidR_link hb hn
  refine ⟨by rw [laidR_len]; exact h.size, ?_, h.nodup, ?_⟩
  · refine chain_same (laidR_len l p.1) h.chain fun x hx => ?_
    exact laidR_notin hb (chain_places h.chain x hx).1 fun hm => ((h.live x).1 (hv x hm)).2.2 hx
  · intro j hj
    simp only [laidR_len] at hj ⊢
    by_cases hm : (j : Int) ∈ l
    · right
      have hr := h.recs (hv _ hm)
      have hd := laidR_data (j := (j : Int)) hb (by omega)
      refine ⟨by rw [hd.1]; exact hr.1, by rw [hd.2]; exact hr.2.1, ?_⟩
      rcases link_next hlk _ hm with h2 | h2
      · rw [h2]; exact ⟨by omega, by omega, fun hm2 => by have := (chain_places h.chain _ hm2).1; omega⟩
      · have h3 := (h.live _).1 (hv _ h2)
        exact ⟨by omega, h3.2.1, h3.2.2⟩
    · rcases h.all j hj with h3 | h3
      · exact Or.inl h3
      · right
        rw [laidR_notin hb (by omega) hm]; exact h3
theorem Ok.live_eq {p p' : Aren} {fl : List Int} (h : Ok p fl) (h' : Ok p' fl) (hl : p'.1.length = p.1.length) (x : Int) : liveS p' x = liveS p x := by
  have a := h.live x; have b := h'.live x
  rw [hl] at b
  cases h1 : liveS p x <;> cases h2 : liveS p' x <;> simp_all
theorem laid_row {p : Aren} {fl l : List Int} (h : Ok p fl) (hv : ∀ x ∈ l, liveS p x = true) (hn : l.Nodup) : Row (laidR p.1 l, p.2) (laidQ l) l := by
  have hb : ∀ x ∈ l, 0 ≤ x ∧ x < (p.1.length : Int) := fun x hx => live_bounds (hv x hx)
  have ho := laid_ok h hv hn
  exact ⟨laidR_link hb hn, fun x hx => by rw [Ok.live_eq h ho (laidR_len _ _)]; exact hv x hx, hn, rfl⟩
end Go.Proofs.Ytombfempdfdeoaa
