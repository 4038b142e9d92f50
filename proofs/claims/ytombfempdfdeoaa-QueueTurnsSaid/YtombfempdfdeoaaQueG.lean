/- Plain mathematics of layer 8's landed program: the row that it goes along, the links that it lays; no condition but those in each theorem. -/
import Derived.Test.YtombfempdfdeoaaQueN
import Derived.Test.YtombfempdfdeoaaAreOA
namespace Go.Proofs.Ytombfempdfdeoaa
set_option linter.unusedVariables false
set_option linter.unusedSimpArgs false
open Go.RowKit

/-- is there such a record, with a key from 0 on? -/
def keyedS (rs : List Rec3) (i : Int) : Bool := decide (0 ≤ i) && decide (i < (rs.length : Int)) && decide (0 ≤ (recAt rs i).1)
theorem keyedS_iff {rs : List Rec3} {i : Int} : keyedS rs i = true ↔ 0 ≤ i ∧ i < (rs.length : Int) ∧ 0 ≤ (recAt rs i).1 := by
  unfold keyedS; simp only [Bool.and_eq_true, decide_eq_true_iff]; omega
theorem live_keyed {rs : List Rec3} {fr : Int} (hr : rightS (rs, fr) = true) (i : Int) : keyedS rs i = liveS (rs, fr) i := by
  obtain ⟨l, hok⟩ := Ok.of hr
  cases hl : liveS (rs, fr) i with
  | true =>
    have h1 := (hok.live i).1 hl
    have h2 := hok.recs hl
    exact keyedS_iff.2 ⟨h1.1, h1.2.1, h2.1⟩
  | false =>
    cases ht : keyedS rs i with
    | false => rfl
    | true =>
      obtain ⟨t0, t1, t2⟩ := keyedS_iff.1 ht
      have : liveS (rs, fr) i = true := (hok.live i).2 ⟨t0, t1, fun hm => by have := (chain_empty hok.chain _ hm).1; simp only at this; omega⟩
      rw [hl] at this; cases this
/-- the row that the program goes along. -/
def walkQ (rs : List Rec3) : Nat → Int → List Int → Option (List Int)
  | 0, at_, out => if at_ = -1 then some out else none
  | f + 1, at_, out => if at_ = -1 then some out else if keyedS rs at_ = false then none else walkQ rs f (recAt rs at_).2.2 (out ++ [at_])
theorem walkQ_end {rs : List Rec3} {f : Nat} {at_ : Int} {out : List Int} (h : at_ = -1) : walkQ rs f at_ out = some out := by
  cases f with
  | zero => unfold walkQ; rw [if_pos h]
  | succ f => unfold walkQ; rw [if_pos h]
theorem walkQ_bad {rs : List Rec3} {f : Nat} {at_ : Int} {out : List Int} (h0 : at_ ≠ -1) (h : keyedS rs at_ = false) : walkQ rs f at_ out = none := by
  cases f with
  | zero => unfold walkQ; rw [if_neg h0]
  | succ f => unfold walkQ; rw [if_neg h0, if_pos h]
theorem walkQ_full {rs : List Rec3} {at_ : Int} {out : List Int} (h0 : at_ ≠ -1) : walkQ rs 0 at_ out = none := by unfold walkQ; rw [if_neg h0]
theorem walkQ_step {rs : List Rec3} {f g : Nat} {at_ : Int} {out : List Int} (hf : f = g + 1) (h0 : at_ ≠ -1) (h : keyedS rs at_ = true) : walkQ rs f at_ out = walkQ rs g (recAt rs at_).2.2 (out ++ [at_]) := by
  subst hf
  conv => lhs; unfold walkQ
  rw [if_neg h0, if_neg (by simp [h])]
theorem walkQ_link {rs : List Rec3} : ∀ {f : Nat} {at_ : Int} {out r : List Int}, walkQ rs f at_ out = some r → ∃ l, r = out ++ l ∧ Link rs at_ l ∧ (∀ x ∈ l, keyedS rs x = true) ∧ l.length ≤ f
  | 0, at_, out, r, h => by
    unfold walkQ at h
    split at h
    · rename_i h1; injection h with h; subst h; exact ⟨[], by simp, h1, by simp, by simp⟩
    · cases h
  | f + 1, at_, out, r, h => by
    unfold walkQ at h
    split at h
    · rename_i h1; injection h with h; subst h; exact ⟨[], by simp, h1, by simp, by simp⟩
    · split at h
      · cases h
      · rename_i hb
        simp only [Bool.not_eq_false] at hb
        obtain ⟨l, rfl, hc, hv, hl⟩ := walkQ_link h
        refine ⟨at_ :: l, by simp, ⟨rfl, hc⟩, ?_, by simp; omega⟩
        intro x hx
        rcases List.mem_cons.1 hx with rfl | hx
        · exact hb
        · exact hv x hx
theorem link_walkQ {rs : List Rec3} : ∀ {l : List Int} {f : Nat} {at_ : Int} {out : List Int}, Link rs at_ l → (∀ x ∈ l, keyedS rs x = true) → l.length ≤ f → walkQ rs f at_ out = some (out ++ l)
  | [], f, at_, out, h, _, _ => by rw [walkQ_end h]; simp
  | x :: l, f, at_, out, h, hv, hf => by
    obtain ⟨g, rfl⟩ : ∃ g, f = g + 1 := ⟨f - 1, by simp at hf; omega⟩
    obtain ⟨rfl, hc⟩ := h
    have hk := hv at_ (by simp)
    rw [walkQ_step rfl (by have := (keyedS_iff.1 hk).1; omega) hk, link_walkQ hc (fun y hy => hv y (by simp [hy])) (by simp at hf; omega)]
    simp
/-- there is one row from a place on. -/
theorem link_one {rs : List Rec3} : ∀ {l m : List Int} {at_ : Int}, Link rs at_ l → Link rs at_ m → (∀ x ∈ l, 0 ≤ x) → (∀ x ∈ m, 0 ≤ x) → l = m
  | [], [], _, _, _, _, _ => rfl
  | [], y :: m, at_, h, h', _, h0 => by
    have h : at_ = -1 := h; have := h0 y (by simp); have := h'.1; omega
  | x :: l, [], at_, h', h, h0, _ => by
    have h : at_ = -1 := h; have := h0 x (by simp); have := h'.1; omega
  | x :: l, y :: m, at_, h, h', h0, h1 => by
    obtain ⟨rfl, hc⟩ := h
    obtain ⟨rfl, hc'⟩ := h'
    rw [link_one hc hc' (fun z hz => h0 z (by simp [hz])) (fun z hz => h1 z (by simp [hz]))]
theorem link_at {rs : List Rec3} : ∀ {l : List Int} {at_ x : Int}, Link rs at_ l → x ∈ l → ∃ m, Link rs x m ∧ m.length ≤ l.length ∧ ∀ y ∈ m, y ∈ l
  | [], _, _, _, h => by simp at h
  | y :: l, at_, x, h, hx => by
    rcases List.mem_cons.1 hx with rfl | hx
    · have e := h.1; subst e; exact ⟨_, h, Nat.le_refl _, fun _ h => h⟩
    · obtain ⟨m, hm, hl, hs⟩ := link_at h.2 hx
      exact ⟨m, hm, by simp; omega, fun y hy => by simp [hs y hy]⟩
theorem link_nodup {rs : List Rec3} : ∀ {l : List Int} {at_ : Int}, Link rs at_ l → (∀ x ∈ l, 0 ≤ x) → l.Nodup
  | [], _, _, _ => List.nodup_nil
  | x :: l, at_, h, h0 => by
    have hc := h.2
    have h1 : ∀ y ∈ l, 0 ≤ y := fun y hy => h0 y (by simp [hy])
    refine List.nodup_cons.2 ⟨fun hx => ?_, link_nodup hc h1⟩
    obtain ⟨m, hm, hl, hs⟩ := link_at hc hx
    have e := h.1
    subst e
    have := link_one h hm h0 (fun y hy => h1 y (hs y hy))
    subst this
    simp at hl; omega
theorem walkQ_qWalk {rs : List Rec3} {fr : Int} (hr : rightS (rs, fr) = true) (hd : Int) : walkQ rs rs.length hd [] = qWalk (rs, fr) (rs.length + 1) hd [] := by
  cases h : walkQ rs rs.length hd [] with
  | some r =>
    obtain ⟨l, e, hc, hv, hl⟩ := walkQ_link h
    rw [e]
    have h0 : ∀ x ∈ l, 0 ≤ x := fun x hx => (keyedS_iff.1 (hv x hx)).1
    exact (link_qWalk (p := (rs, fr)) (out := []) hc (fun x hx => by rw [← live_keyed hr]; exact hv x hx) (link_nodup hc h0) (by simp) (by omega)).symm
  | none =>
    cases h2 : qWalk (rs, fr) (rs.length + 1) hd [] with
    | none => rfl
    | some r =>
      obtain ⟨l, e, hc, hv, _, hn⟩ := qWalk_link h2
      have hp : Places rs.length l := ⟨hn, fun x hx => live_bounds (p := (rs, fr)) (hv x hx)⟩
      have := link_walkQ (out := []) hc (fun x hx => by rw [live_keyed hr]; exact hv x hx) hp.len
      rw [h] at this; cases this
/-- a row's places, none if it may not be, and whether it may be. -/
def rowS (p : Aren) (q : Qu) : List Int × Bool := (qPlaces p q, qRight p q)
theorem rowS_not {p : Aren} {q : Qu} (h : qRight p q = false) : rowS p q = ([], false) := by unfold rowS; rw [h, qPlaces_wrong h]
theorem rowS_wrong {p : Aren} {q : Qu} (h : rightS p = false) : rowS p q = ([], false) := rowS_not (by unfold qRight qPl; rw [if_pos h])
theorem rowS_none {rs : List Rec3} {fr hd tl : Int} (hr : rightS (rs, fr) = true) (h : walkQ rs rs.length hd [] = none) : rowS (rs, fr) (hd, tl) = ([], false) := by
  rw [walkQ_qWalk hr] at h
  refine rowS_not ?_
  unfold qRight qPl
  rw [if_neg (by simp [hr])]
  simp only [h]
theorem rowS_bad {rs : List Rec3} {fr hd tl : Int} {l : List Int} (hr : rightS (rs, fr) = true) (h : walkQ rs rs.length hd [] = some l) (ht : lastD l ≠ tl) : rowS (rs, fr) (hd, tl) = ([], false) := by
  rw [walkQ_qWalk hr] at h
  refine rowS_not ?_
  unfold qRight qPl
  rw [if_neg (by simp [hr])]
  simp only [h]
  simpa using ht
theorem rowS_some {rs : List Rec3} {fr hd tl : Int} {l : List Int} (hr : rightS (rs, fr) = true) (h : walkQ rs rs.length hd [] = some l) (ht : lastD l = tl) : rowS (rs, fr) (hd, tl) = (l, true) := by
  rw [walkQ_qWalk hr] at h
  have hq : qPl (rs, fr) (hd, tl) = (l, true) := by
    unfold qPl
    rw [if_neg (by simp [hr])]
    simp only [h]
    simpa using ht
  have h1 : qRight (rs, fr) (hd, tl) = true := by unfold qRight; rw [hq]
  unfold rowS
  rw [h1, qPlaces_right h1, hq]
/-- links that stand ahead of a place, and behind it: one is laid. -/
theorem laid_join {rs : List Rec3} {y : Int} {m m0 : List Int} : ∀ {l1 : List Int} {a : Int}, (∀ x ∈ l1 ++ y :: m, 0 ≤ x ∧ x < (rs.length : Int)) → Link rs a (l1 ++ y :: m0) → Link rs (headD' m) m → y ∉ m → laidR rs (l1 ++ y :: m) = setN rs y (headD' m)
  | [], a, hb, _, hm, hy => by
    show laidR (setN rs y (headD' m)) m = _
    have hy2 := hb y (by simp)
    refine laidR_same (fun x hx => by rw [setN_len]; exact hb x (by simp [hx])) (link_set hm fun x hx => ?_)
    rw [recAt_setN hy2.1 (hb x (by simp [hx])).1 hy2.2, if_neg (fun e : x = y => hy (e ▸ hx))]
  | x :: l1, a, hb, hl, hm, hy => by
    show laidR (setN rs x (headD' (l1 ++ y :: m))) (l1 ++ y :: m) = _
    have e : headD' (l1 ++ y :: m) = (recAt rs x).2.2 := by rw [link_head hl.2]; cases l1 <;> rfl
    rw [e, setN_same (hb x (by simp)).1]
    exact laid_join (fun z hz => hb z (by simp only [List.cons_append, List.mem_cons]; exact Or.inr hz)) hl.2 hm hy
theorem set_ok {p : Aren} {i x : Int} (hr : rightS p = true) (hi : liveS p i = true) (hx : x = -1 ∨ liveS p x = true) : arSet p i x = ((setN p.1 i x, p.2), 0) := by
  unfold arSet setN
  rw [if_neg (by simp [hr]), if_neg (by simp [hi]), if_neg]
  rintro ⟨h1, h2⟩
  rcases hx with hx | hx
  · exact h1 hx
  · rw [hx] at h2; cases h2
theorem headD_notin {l : List Int} (h : l ≠ []) : headD' l ∈ l := by
  cases l with
  | nil => exact absurd rfl h
  | cons x l => simp [headD']
theorem lastD_mem {l : List Int} (h : l ≠ []) : lastD l ∈ l := by
  unfold lastD
  rw [List.getLastD_eq_getLast?, List.getLast?_eq_some_getLast h]
  exact List.getLast_mem h
theorem split_last {l : List Int} (h : l ≠ []) : ∃ l1, l = l1 ++ [lastD l] := by
  refine ⟨l.dropLast, ?_⟩
  unfold lastD
  rw [List.getLastD_eq_getLast?, List.getLast?_eq_some_getLast h]
  exact (List.dropLast_concat_getLast h).symm
/-- a push, as the program does it. -/
theorem push_prog {p : Aren} {q : Qu} {key task : Int} {front : Bool} (hr : qRight p q = true) :
    ((arTake p key task).2.2 ≠ 0 → (arTake p key task).1 = p ∧ qPush p q key task front = (p, q, (arTake p key task).2.2)) ∧
    ((arTake p key task).2.2 = 0 → q.1 = -1 → qPush p q key task front = ((arTake p key task).1, ((arTake p key task).2.1, (arTake p key task).2.1), 0)) ∧
    ((arTake p key task).2.2 = 0 → q.1 ≠ -1 → front = true → qPush p q key task front = ((arSet (arTake p key task).1 (arTake p key task).2.1 q.1).1, ((arTake p key task).2.1, q.2), (arSet (arTake p key task).1 (arTake p key task).2.1 q.1).2)) ∧
    ((arTake p key task).2.2 = 0 → q.1 ≠ -1 → front = false → qPush p q key task front = ((arSet (arTake p key task).1 q.2 (arTake p key task).2.1).1, (q.1, (arTake p key task).2.1), (arSet (arTake p key task).1 q.2 (arTake p key task).2.1).2)) := by
  obtain ⟨hrs, hq⟩ := Row.of hr
  obtain ⟨fl, h⟩ := Ok.of hrs
  generalize qPlaces p q = l at hq
  by_cases hkt : key < 0 ∨ task < 0
  · have hT : arTake p key task = (p, 0, 1) := by unfold arTake; rw [if_pos (Or.inr hkt)]
    have hP : qPush p q key task front = (p, q, 1) := by unfold qPush; rw [if_neg (by simp [hr]), hT, if_pos (by simp)]
    rw [hT]
    exact ⟨fun _ => ⟨rfl, hP⟩, fun h => by simp at h, fun h => by simp at h, fun h => by simp at h⟩
  · have hk : 0 ≤ key := by omega
    have ht : 0 ≤ task := by omega
    rcases take_ok h hk ht with ⟨rfl, hT⟩ | ⟨i, fl', hfl, hi, h1, h2, hp, hT, hx⟩
    · have hP : qPush p q key task front = (p, q, 6) := by unfold qPush; rw [if_neg (by simp [hr]), hT, if_pos (by simp)]
      rw [hT]
      exact ⟨fun _ => ⟨rfl, hP⟩, fun h => by simp at h, fun h => by simp at h, fun h => by simp at h⟩
    · rcases push_ok h hq hk ht front with ⟨he, _⟩ | ⟨i', fl'', p2, hfl', _, hpu⟩
      · rw [he] at hfl; cases hfl
      · rw [hfl] at hfl'
        injection hfl' with e1 e2
        have e3 : i' = i := by omega
        subst e3; subst e2
        rw [hT]
        simp only
        have hil : (i' : Int) ∉ l := fun hm => ((h.live _).1 (hq.live _ hm)).2.2 (by rw [hfl]; simp)
        have hlv : ∀ x, liveS (p.1.set i' (key, task, -1), (recAt p.1 i').2.2) x = true ↔ liveS p x = true ∨ x = i' := by
          intro x
          have hn := List.nodup_cons.1 (hfl ▸ h.nodup)
          rw [hx.live, h.live, hfl]
          simp only [List.length_set, List.mem_cons, not_or]
          constructor
          · rintro ⟨a, b, c⟩
            by_cases e : x = i'
            · exact Or.inr e
            · exact Or.inl ⟨a, b, e, c⟩
          · rintro (⟨a, b, c, d⟩ | rfl)
            · exact ⟨a, b, d⟩
            · exact ⟨by omega, by omega, hn.1⟩
        have hlen : (p.1.set i' (key, task, -1)).length = p.1.length := by simp
        have hri : recAt (p.1.set i' (key, task, -1)) i' = (key, task, -1) := by rw [recAt_set (by omega), if_pos ⟨rfl, hi⟩]
        have hlk : Link (p.1.set i' (key, task, -1)) q.1 l := link_set hq.link fun x hm => by
          rw [recAt_set (live_ge (hq.live x hm)), if_neg (fun h2 : x = (i' : Int) ∧ _ => hil (h2.1 ▸ hm))]
        have hbl : ∀ x ∈ l, 0 ≤ x ∧ x < ((p.1.set i' (key, task, -1)).length : Int) := fun x hm => by rw [hlen]; exact live_bounds (hq.live x hm)
        have hbi : (0 : Int) ≤ (i' : Int) ∧ (i' : Int) < ((p.1.set i' (key, task, -1)).length : Int) := by rw [hlen]; omega
        have hsame : setN (p.1.set i' (key, task, -1)) i' (-1) = p.1.set i' (key, task, -1) := by
          have := setN_same (rs := p.1.set i' (key, task, -1)) (i := (i' : Int)) (by omega)
          rw [hri] at this; exact this
        refine ⟨fun h => by simp at h, fun _ hq1 => ?_, fun _ hq1 hf => ?_, fun _ hq1 hf => ?_⟩
        · have hl : l = [] := by
            cases l with
            | nil => rfl
            | cons x l => have := hq.link.1; have := live_ge (hq.live x (by simp)); omega
          subst hl
          rw [hpu.eq, hpu.recs]
          have e : pushL [] (i' : Int) front = [(i' : Int)] := by unfold pushL; cases front <;> rfl
          rw [e]
          show ((laidR (setN (p.1.set i' (key, task, -1)) i' (-1)) [], _), _, _) = _
          rw [hsame]; rfl
        · subst hf
          have hl : l ≠ [] := fun e => by subst e; exact hq1 hq.link
          have hhd : q.1 = headD' l := link_head hq.link
          rw [set_ok hx.right ((hlv _).2 (Or.inr rfl)) (Or.inr ((hlv _).2 (Or.inl (by rw [hhd]; exact hq.live _ (headD_notin hl)))))]
          rw [hpu.eq, hpu.recs]
          show ((laidR (setN (p.1.set i' (key, task, -1)) i' (headD' l)) l, _), laidQ ((i' : Int) :: l), _) = _
          rw [laidR_same (at_ := q.1) (fun x hm => by rw [setN_len]; exact hbl x hm) (link_set hlk fun x hm => by rw [recAt_setN hbi.1 (hbl x hm).1 hbi.2, if_neg (fun e : x = (i' : Int) => hil (e ▸ hm))]), ← hhd]
          have e : laidQ ((i' : Int) :: l) = ((i' : Int), q.2) := by
            rw [hq.last]
            unfold laidQ
            cases l with
            | nil => exact absurd rfl hl
            | cons x l => rfl
          rw [e]
        · subst hf
          have hl : l ≠ [] := fun e => by subst e; exact hq1 hq.link
          have hlm := lastD_mem hl
          rw [set_ok hx.right ((hlv _).2 (Or.inl (by rw [hq.last]; exact hq.live _ hlm))) (Or.inr ((hlv _).2 (Or.inr rfl)))]
          rw [hpu.eq, hpu.recs]
          obtain ⟨l1, hl1⟩ := split_last hl
          have ej := laid_join (rs := p.1.set i' (key, task, -1)) (y := lastD l) (m := [(i' : Int)]) (m0 := []) (l1 := l1) (a := q.1)
            (fun x hm => by
              have : x ∈ l ∨ x = i' := by
                rw [hl1]
                simp only [List.mem_append, List.mem_cons, List.not_mem_nil, or_false] at hm ⊢
                rcases hm with hm | hm | hm
                · exact Or.inl (Or.inl hm)
                · exact Or.inl (Or.inr hm)
                · exact Or.inr hm
              rcases this with hm | rfl
              · exact hbl x hm
              · exact hbi)
            (by rw [← hl1]; exact hlk) ⟨rfl, by rw [hri]; rfl⟩ (fun hm => by simp at hm; exact hil (hm ▸ hlm))
          have e1 : pushL l (i' : Int) false = l1 ++ lastD l :: [(i' : Int)] := by
            show l ++ [(i' : Int)] = _
            conv => lhs; rw [hl1]
            simp
          rw [e1, ej, hq.last]
          have e2 : laidQ (l1 ++ lastD l :: [(i' : Int)]) = (q.1, (i' : Int)) := by
            unfold laidQ
            refine Prod.ext ?_ ?_
            · rw [link_head hq.link]
              show headD' (l1 ++ lastD l :: [(i' : Int)]) = headD' l
              conv => rhs; rw [hl1]
              cases l1 <;> rfl
            · show lastD (l1 ++ lastD l :: [(i' : Int)]) = _
              rw [show l1 ++ lastD l :: [(i' : Int)] = (l1 ++ [lastD l]) ++ [(i' : Int)] by simp, lastD_app]
          rw [e2]
          rfl
/-- a record goes out of a row, as the program does it: the arena with the link laid. -/
def butA (p : Aren) (l : List Int) (k : Nat) : Aren := if k = 0 then p else (arSet p (l.getD (k - 1) 0) (recAt p.1 (l.getD k 0)).2.2).1
def butH (l : List Int) (k : Nat) : Int := if k = 0 then -1 else l.getD (k - 1) 0
theorem but_prog {p : Aren} {q : Qu} {k : Nat} (hr : qRight p q = true) (hk : k < (qPlaces p q).length) :
    qBut p q k = if (arGive (butA p (qPlaces p q) k) ((qPlaces p q).getD k 0)).2 ≠ 0 then (p, q, (arGive (butA p (qPlaces p q) k) ((qPlaces p q).getD k 0)).2)
      else ((arGive (butA p (qPlaces p q) k) ((qPlaces p q).getD k 0)).1,
        ((if k = 0 then (recAt p.1 ((qPlaces p q).getD k 0)).2.2 else q.1), (if (recAt p.1 ((qPlaces p q).getD k 0)).2.2 = -1 then butH (qPlaces p q) k else q.2)), 0) := by
  obtain ⟨hrs, hq⟩ := Row.of hr
  obtain ⟨fl, h⟩ := Ok.of hrs
  unfold qBut
  generalize qPlaces p q = l at hq hk
  have hb : ∀ x ∈ l, 0 ≤ x ∧ x < (p.1.length : Int) := fun x hm => live_bounds (hq.live x hm)
  have hgx : l.getD k 0 = l[k] := by simp [List.getD, hk]
  have hsp : l = l.take k ++ l[k] :: l.drop (k + 1) := by rw [← List.drop_eq_getElem_cons hk, List.take_append_drop]
  generalize hX : l.getD k 0 = X at *
  rw [← hgx] at hsp
  have hlink_drop : ∀ (l1 : List Int) (a : Int) (l2 : List Int), Link p.1 a (l1 ++ l2) → ∃ b, Link p.1 b l2 := by
    intro l1
    induction l1 with
    | nil => intro a l2 h; exact ⟨a, h⟩
    | cons x l1 ih => intro a l2 h; exact ih _ l2 h.2
  have hXl : Link p.1 X (X :: l.drop (k + 1)) := by
    obtain ⟨b, hb2⟩ := hlink_drop (l.take k) q.1 (X :: l.drop (k + 1)) (hsp ▸ hq.link)
    have := hb2.1; subst this; exact hb2
  have hnx : (recAt p.1 X).2.2 = headD' (l.drop (k + 1)) := link_head hXl.2
  have hlk2 : Link p.1 (headD' (l.drop (k + 1))) (l.drop (k + 1)) := hnx ▸ hXl.2
  have hXm : X ∈ l := by rw [hsp]; simp
  have hlast : q.2 = if l.drop (k + 1) = [] then X else lastD (l.drop (k + 1)) := by
    rw [hq.last]
    conv => lhs; rw [hsp]
    split
    · rename_i e; rw [e]; exact lastD_app _ _
    · rename_i e
      obtain ⟨l1, hl1⟩ := split_last e
      conv => lhs; rw [hl1]
      rw [show l.take k ++ X :: (l1 ++ [lastD (l.drop (k + 1))]) = (l.take k ++ X :: l1) ++ [lastD (l.drop (k + 1))] by simp, lastD_app]
  have hnil : (recAt p.1 X).2.2 = -1 ↔ l.drop (k + 1) = [] := by
    rw [hnx]
    constructor
    · intro e
      cases hd : l.drop (k + 1) with
      | nil => rfl
      | cons y m =>
        rw [hd] at e
        have h1 : y = -1 := e
        have h2 := (hb y (List.mem_of_mem_drop (i := k + 1) (by rw [hd]; simp))).1
        omega
    · intro e; rw [e]; rfl
  by_cases hk0 : k = 0
  · subst hk0
    have e1 : butL l 0 = l.drop 1 := by unfold butL; simp
    have e2 : laidR p.1 (l.drop 1) = p.1 := laidR_same (fun x hm => hb x (List.mem_of_mem_drop hm)) hlk2
    have e3 : butA p l 0 = p := rfl
    rw [e1, e2, e3]
    simp only [if_true]
    have e4 : laidQ (l.drop 1) = ((recAt p.1 X).2.2, if (recAt p.1 X).2.2 = -1 then butH l 0 else q.2) := by
      unfold laidQ
      refine Prod.ext hnx.symm ?_
      show lastD (l.drop 1) = if (recAt p.1 X).2.2 = -1 then butH l 0 else q.2
      by_cases e : l.drop 1 = []
      · rw [if_pos (hnil.2 e), e]; rfl
      · rw [if_neg (fun h => e (hnil.1 h)), hlast, if_neg e]
    rw [e4]
  · obtain ⟨j, rfl⟩ : ∃ j, k = j + 1 := ⟨k - 1, by omega⟩
    have hj : j < l.length := by omega
    have hgY : l.getD j 0 = l[j] := by simp [List.getD, hj]
    generalize hY : l.getD j 0 = Y at *
    have htk : l.take (j + 1) = l.take j ++ [Y] := by rw [hgY, List.take_append_getElem hj]
    have hYm : Y ∈ l := by rw [hgY]; exact List.getElem_mem hj
    have e1 : butL l (j + 1) = l.take j ++ Y :: l.drop (j + 1 + 1) := by unfold butL; rw [htk]; simp
    have hsp2 : l = l.take j ++ Y :: X :: l.drop (j + 1 + 1) := by
      conv => lhs; rw [hsp, htk]
      simp
    have hnd : (l.take j ++ Y :: X :: l.drop (j + 1 + 1)).Nodup := hsp2 ▸ hq.nodup
    have hYn : Y ∉ l.drop (j + 1 + 1) := fun hm => (List.nodup_cons.1 (List.nodup_append.1 hnd).2.1).1 (by simp [hm])
    have e2 : laidR p.1 (l.take j ++ Y :: l.drop (j + 1 + 1)) = setN p.1 Y (headD' (l.drop (j + 1 + 1))) := by
      refine laid_join (m0 := X :: l.drop (j + 1 + 1)) (a := q.1) (fun x hm => hb x ?_) (hsp2 ▸ hq.link) hlk2 hYn
      rw [hsp2]
      simp only [List.mem_append, List.mem_cons] at hm ⊢
      rcases hm with hm | hm | hm
      · exact Or.inl hm
      · exact Or.inr (Or.inl hm)
      · exact Or.inr (Or.inr (Or.inr hm))
    have hlv : (recAt p.1 X).2.2 = -1 ∨ liveS p (recAt p.1 X).2.2 = true := by
      rcases link_next hq.link X hXm with h2 | h2
      · exact Or.inl h2
      · exact Or.inr (hq.live _ h2)
    have e3 : butA p l (j + 1) = (setN p.1 Y (headD' (l.drop (j + 1 + 1))), p.2) := by
      unfold butA
      rw [if_neg hk0, Nat.add_sub_cancel, hY, hX, set_ok hrs (hq.live _ hYm) hlv, hnx]
    have e5 : butH l (j + 1) = Y := by unfold butH; rw [if_neg hk0, Nat.add_sub_cancel, hY]
    rw [e1, e2, e3, e5]
    simp only [if_neg hk0]
    have e4 : laidQ (l.take j ++ Y :: l.drop (j + 1 + 1)) = (q.1, if (recAt p.1 X).2.2 = -1 then Y else q.2) := by
      unfold laidQ
      refine Prod.ext ?_ ?_
      · show headD' (l.take j ++ Y :: l.drop (j + 1 + 1)) = q.1
        rw [link_head hq.link]
        conv => rhs; rw [hsp2]
        cases l.take j <;> rfl
      · show lastD (l.take j ++ Y :: l.drop (j + 1 + 1)) = _
        by_cases e : l.drop (j + 1 + 1) = []
        · rw [if_pos (hnil.2 e), e]; exact lastD_app _ _
        · rw [if_neg (fun h => e (hnil.1 h)), hlast, if_neg e]
          obtain ⟨l1, hl1⟩ := split_last e
          conv => lhs; rw [hl1]
          rw [show l.take j ++ Y :: (l1 ++ [lastD (l.drop (j + 1 + 1))]) = (l.take j ++ Y :: l1) ++ [lastD (l.drop (j + 1 + 1))] by simp, lastD_app]
    rw [e4]
end Go.Proofs.Ytombfempdfdeoaa
