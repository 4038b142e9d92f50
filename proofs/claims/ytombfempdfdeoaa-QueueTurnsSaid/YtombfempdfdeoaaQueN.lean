/- Plain mathematics of layer 8: a task more, a task fewer; whoever is pushed, popped and dropped; no condition but those in each theorem. -/
import Derived.Test.YtombfempdfdeoaaQueM
import Derived.Test.YtombfempdfdeoaaAreN
namespace Go.Proofs.Ytombfempdfdeoaa
set_option linter.unusedVariables false
set_option linter.unusedSimpArgs false
open Go.RowKit

theorem recs_ext {rs rs' : List Rec3} (hl : rs.length = rs'.length) (h : ∀ j : Nat, j < rs.length → recAt rs (j : Int) = recAt rs' (j : Int)) : rs = rs' := by
  apply List.ext_getElem hl
  intro j h1 h2
  have := h j h1
  unfold recAt at this
  rw [Int.toNat_natCast] at this
  simpa [List.getD, h1, h2] using this
theorem link_det {rs rs' : List Rec3} : ∀ {l : List Int} {a b : Int}, Link rs a l → Link rs' b l → ∀ x ∈ l, (recAt rs x).2.2 = (recAt rs' x).2.2
  | [], _, _, _, _, x, hx => by simp at hx
  | y :: l, _, _, h, h', x, hx => by
    rcases List.mem_cons.1 hx with rfl | hx
    · rw [link_head h.2, link_head h'.2]
    · exact link_det h.2 h'.2 x hx
/-- the row behind a push. -/
def pushL (l : List Int) (i : Int) (front : Bool) : List Int := if front = true then i :: l else l ++ [i]
theorem pushL_mem {l : List Int} {i x : Int} {front : Bool} : x ∈ pushL l i front ↔ x = i ∨ x ∈ l := by
  unfold pushL
  cases front <;> simp [or_comm]
theorem pushL_nodup {l : List Int} {i : Int} {front : Bool} (h : l.Nodup) (hi : i ∉ l) : (pushL l i front).Nodup := by
  unfold pushL
  cases front
  · exact List.nodup_append.2 ⟨h, by simp, fun a ha b hb e => by simp at hb; subst hb; subst e; exact hi ha⟩
  · exact List.nodup_cons.2 ⟨hi, h⟩
theorem pushL_map {l : List Int} {i : Int} {front : Bool} (f : Int → Int) : (pushL l i front).map f = pushL (l.map f) (f i) front := by
  unfold pushL
  cases front <;> simp
structure Pushed (p : Aren) (q : Qu) (l : List Int) (key task : Int) (front : Bool) (i : Nat) (fl' : List Int) (p2 : Aren) : Prop where
  eq : qPush p q key task front = (p2, laidQ (pushL l i front), 0)
  ok : Ok p2 fl'
  row : Row p2 (laidQ (pushL l i front)) (pushL l i front)
  tasks : qTasks p2 (laidQ (pushL l i front)) = pushL (qTasks p q) task front
  live : ∀ x, liveS p2 x = true ↔ liveS p x = true ∨ x = i
  len : p2.1.length = p.1.length
  recs : p2 = (laidR (p.1.set i (key, task, -1)) (pushL l i front), (recAt p.1 i).2.2)
  rest : ∀ x : Int, 0 ≤ x → x ∉ l → x ≠ i → recAt p2.1 x = recAt p.1 x
theorem push_ok {p : Aren} {q : Qu} {fl l : List Int} (h : Ok p fl) (hq : Row p q l) {key task : Int} (hk : 0 ≤ key) (ht : 0 ≤ task) (front : Bool) :
    (fl = [] ∧ qPush p q key task front = (p, q, 6)) ∨ ∃ (i : Nat) (fl' : List Int) (p2 : Aren), fl = (i : Int) :: fl' ∧ i < p.1.length ∧ Pushed p q l key task front i fl' p2 := by
  have hr := h.right
  have hqr := hq.right hr
  rcases take_ok h hk ht with ⟨rfl, he⟩ | ⟨i, fl', rfl, hi, h1, h2, hp, he, hx⟩
  · left
    refine ⟨rfl, ?_⟩
    unfold qPush
    rw [if_neg (by simp [hqr]), he, if_pos (by simp)]
  · right
    have hn := List.nodup_cons.1 h.nodup
    have hil : (i : Int) ∉ l := fun hm => ((h.live _).1 (hq.live _ hm)).2.2 (by simp)
    have hlive : ∀ x, liveS (p.1.set i (key, task, -1), (recAt p.1 i).2.2) x = true ↔ liveS p x = true ∨ x = i := by
      intro x
      rw [hx.live, h.live]
      simp only [List.length_set, List.mem_cons, not_or]
      constructor
      · rintro ⟨a, b, c⟩
        by_cases e : x = i
        · exact Or.inr e
        · exact Or.inl ⟨a, b, e, c⟩
      · rintro (⟨a, b, c, d⟩ | rfl)
        · exact ⟨a, b, d⟩
        · exact ⟨by omega, by omega, hn.1⟩
    have hv : ∀ x ∈ pushL l i front, liveS (p.1.set i (key, task, -1), (recAt p.1 i).2.2) x = true := by
      intro x hm
      rw [hlive]
      rcases pushL_mem.1 hm with rfl | hm
      · exact Or.inr rfl
      · exact Or.inl (hq.live x hm)
    have hnd := pushL_nodup (front := front) hq.nodup hil
    have ho := laid_ok hx hv hnd
    have hrow := laid_row hx hv hnd
    have hb : ∀ x ∈ pushL l i front, 0 ≤ x ∧ x < ((p.1.set i (key, task, -1)).length : Int) := fun x hm => live_bounds (hv x hm)
    refine ⟨i, fl', _, rfl, hi, ⟨?_, ho, hrow, ?_, fun x => ?_, ?_, rfl, fun x h0 hxl hxi => ?_⟩⟩
    · unfold qPush
      rw [if_neg (by simp [hqr]), he, if_neg (by simp), hq.eq hr]
      rfl
    · rw [hrow.tasks ho.right, hq.tasks hr]
      have : (pushL l i front).map (fun x => (recAt (laidR (p.1.set i (key, task, -1)) (pushL l i front)) x).2.1) = (pushL l i front).map (fun x => if x = (i : Int) then task else (recAt p.1 x).2.1) := by
        apply List.map_congr_left
        intro x hm
        have hx0 := (hb x hm).1
        rw [(laidR_data hb hx0).2, recAt_set hx0]
        by_cases e : x = (i : Int)
        · rw [if_pos ⟨e, hi⟩, if_pos e]
        · rw [if_neg (fun h => e h.1), if_neg e]
      simp only
      rw [this, pushL_map]
      rw [if_pos rfl]
      congr 1
      apply List.map_congr_left
      intro x hm
      rw [if_neg (fun e : x = (i : Int) => hil (e ▸ hm))]
    · rw [Ok.live_eq hx ho (laidR_len _ _), hlive]
    · simp [laidR_len]
    · simp only
      rw [laidR_notin hb h0 (fun hm => (pushL_mem.1 hm).elim hxi hxl), recAt_set h0, if_neg (fun h => hxi h.1)]
theorem push_no {p : Aren} {q : Qu} {key task : Int} {front : Bool} (h : qRight p q = true) (hk : key < 0 ∨ task < 0) : qPush p q key task front = (p, q, 1) := by
  have : arTake p key task = (p, 0, 1) := by unfold arTake; rw [if_pos (by omega)]
  unfold qPush
  rw [if_neg (by simp [h]), this, if_pos (by simp)]
theorem push_err {p : Aren} {q : Qu} {key task : Int} {front : Bool} (h : (qPush p q key task front).2.2 ≠ 0) : (qPush p q key task front).1 = p ∧ (qPush p q key task front).2.1 = q := by
  unfold qPush at h ⊢
  split
  · exact ⟨rfl, rfl⟩
  · rename_i h1
    rw [if_neg h1] at h
    split
    · exact ⟨rfl, rfl⟩
    · rename_i h2; rw [if_neg h2] at h; exact absurd rfl h
/-- a push that goes. -/
theorem push_good {p : Aren} {q : Qu} {key task : Int} {front : Bool} (h : (qPush p q key task front).2.2 = 0) :
    ∃ (fl : List Int) (l : List Int) (i : Nat) (fl' : List Int) (p2 : Aren), Ok p fl ∧ Row p q l ∧ fl = (i : Int) :: fl' ∧ i < p.1.length ∧ 0 ≤ key ∧ 0 ≤ task ∧ Pushed p q l key task front i fl' p2 := by
  cases hq : qRight p q with
  | false => unfold qPush at h; rw [if_pos hq] at h; cases h
  | true =>
    obtain ⟨hr, hrow⟩ := Row.of hq
    obtain ⟨fl, hok⟩ := Ok.of hr
    by_cases hk : key < 0 ∨ task < 0
    · rw [push_no hq hk] at h; cases h
    · rcases push_ok hok hrow (key := key) (task := task) (by omega) (by omega) front with ⟨_, he⟩ | ⟨i, fl', p2, e, hi, hp⟩
      · rw [he] at h; cases h
      · exact ⟨fl, _, i, fl', p2, hok, hrow, e, hi, by omega, by omega, hp⟩

theorem butN_mem {l : List Int} {k : Nat} (hn : l.Nodup) (hk : k < l.length) {x : Int} : x ∈ butL l k ↔ x ∈ l ∧ x ≠ l.getD k 0 := by
  have hg : l.getD k 0 = l[k] := by simp [List.getD, hk]
  have e : l = l.take k ++ l[k] :: l.drop (k + 1) := by rw [← List.drop_eq_getElem_cons hk, List.take_append_drop]
  rw [hg]
  obtain ⟨v, hv⟩ : ∃ v, l[k] = v := ⟨_, rfl⟩
  rw [hv] at e ⊢
  have hn2 : (l.take k ++ v :: l.drop (k + 1)).Nodup := e ▸ hn
  obtain ⟨_, h2, h3⟩ := List.nodup_append.1 hn2
  have h4 := List.nodup_cons.1 h2
  have hmm : x ∈ l ↔ x ∈ l.take k ++ v :: l.drop (k + 1) := by rw [← e]
  unfold butL
  constructor
  · intro hx
    rcases List.mem_append.1 hx with hx | hx
    · exact ⟨List.mem_of_mem_take hx, h3 _ hx _ (by simp)⟩
    · exact ⟨List.mem_of_mem_drop hx, fun e2 => h4.1 (e2 ▸ hx)⟩
  · rintro ⟨hx, hne⟩
    rw [hmm] at hx
    rcases List.mem_append.1 hx with hx | hx
    · exact List.mem_append_left _ hx
    · rcases List.mem_cons.1 hx with hx | hx
      · exact absurd hx hne
      · exact List.mem_append_right _ hx
theorem butL_nodup {l : List Int} {k : Nat} (hn : l.Nodup) : (butL l k).Nodup := by
  unfold butL
  refine List.nodup_append.2 ⟨hn.sublist (List.take_sublist _ _), hn.sublist (List.drop_sublist _ _), fun a ha b hb e => ?_⟩
  subst e
  rw [← List.take_append_drop k l] at hn
  have h3 := (List.nodup_append.1 hn).2.2
  refine h3 a ha a ?_ rfl
  rw [show k + 1 = k + 1 from rfl, ← List.drop_drop] at hb
  exact List.mem_of_mem_drop hb
theorem butN_len {l : List Int} {k : Nat} (hk : k < l.length) : (butL l k).length + 1 = l.length := by unfold butL; simp; omega
theorem butL_map {l : List Int} {k : Nat} (f : Int → Int) : (butL l k).map f = butL (l.map f) k := by unfold butL; simp [List.map_take, List.map_drop]
structure Butted (p : Aren) (q : Qu) (l : List Int) (k : Nat) (fl : List Int) (p2 : Aren) : Prop where
  eq : qBut p q k = (p2, laidQ (butL l k), 0)
  ok : Ok p2 (l.getD k 0 :: fl)
  row : Row p2 (laidQ (butL l k)) (butL l k)
  tasks : qTasks p2 (laidQ (butL l k)) = butL (qTasks p q) k
  live : ∀ x, liveS p2 x = true ↔ liveS p x = true ∧ x ≠ l.getD k 0
  len : p2.1.length = p.1.length
/-- a record of a row goes out, if none that isn't of the row leads to it. -/
theorem but_ok {p : Aren} {q : Qu} {fl l : List Int} (h : Ok p fl) (hq : Row p q l) {k : Nat} (hk : k < l.length) (hno : ∀ y : Int, liveS p y = true → y ∉ l → (recAt p.1 y).2.2 ≠ l.getD k 0) :
    ∃ p2, Butted p q l k fl p2 := by
  have hr := h.right
  have hg : l.getD k 0 = l[k] := by simp [List.getD, hk]
  have hx : l.getD k 0 ∈ l := by rw [hg]; exact List.getElem_mem hk
  obtain ⟨x, hxe⟩ : ∃ x, l.getD k 0 = x := ⟨_, rfl⟩
  have hm := @butN_mem l k hq.nodup hk
  rw [hxe] at hx hno hm
  have hxl := hq.live x hx
  have hxb := live_bounds hxl
  have hv : ∀ y ∈ butL l k, liveS p y = true := fun y hy => hq.live y (hm.1 hy).1
  have hnd := butL_nodup (k := k) hq.nodup
  have ho := laid_ok h hv hnd
  have hrow := laid_row h hv hnd
  have hb : ∀ y ∈ butL l k, 0 ≤ y ∧ y < (p.1.length : Int) := fun y hy => live_bounds (hv y hy)
  have hle := Ok.live_eq h ho (laidR_len _ _)
  obtain ⟨i, rfl⟩ : ∃ i : Nat, x = i := ⟨x.toNat, by omega⟩
  have hnl : ¬ leadsTo (laidR p.1 (butL l k), p.2) i (laidR p.1 (butL l k)).length := by
    rintro ⟨j, hj, hjl, hjn⟩
    rw [hle] at hjl
    by_cases hjm : (j : Int) ∈ butL l k
    · refine link_nohead hrow.link (fun hc => (hm.1 hc).2 rfl) (by omega) _ hjm hjn
    · simp only at hjn
      rw [laidR_notin hb (by omega) hjm] at hjn
      by_cases hji : (j : Int) = i
      · rw [hji] at hjn
        exact link_noself hq.link hq.nodup (fun y hy => live_ge (hq.live y hy)) _ hx hjn
      · exact hno j hjl (fun hc => hjm (hm.2 ⟨hc, hji⟩)) hjn
  have hgv := give_ok ho (by rw [hle]; exact hxl) hnl
  have hout : (i : Int) ∉ butL l k := fun hc => (hm.1 hc).2 rfl
  have hok2 : Ok ((laidR p.1 (butL l k)).set i (-1, -1, p.2), (i : Int)) ((i : Int) :: fl) := hgv.2
  have hlen2 : (((laidR p.1 (butL l k)).set i (-1, -1, p.2), (i : Int)) : Aren).1.length = p.1.length := by simp [laidR_len]
  have hlive : ∀ y, liveS ((laidR p.1 (butL l k)).set i (-1, -1, p.2), (i : Int)) y = true ↔ liveS p y = true ∧ y ≠ i := by
    intro y
    rw [hok2.live, h.live, hlen2]
    simp only [List.mem_cons, not_or]
    constructor
    · rintro ⟨a, b, c, d⟩; exact ⟨⟨a, b, d⟩, c⟩
    · rintro ⟨⟨a, b, d⟩, c⟩; exact ⟨a, b, c, d⟩
  have hrow2 : Row ((laidR p.1 (butL l k)).set i (-1, -1, p.2), (i : Int)) (laidQ (butL l k)) (butL l k) := by
    refine ⟨link_set hrow.link fun y hy => ?_, fun y hy => (hlive y).2 ⟨hv y hy, fun e => hout (e ▸ hy)⟩, hnd, rfl⟩
    simp only
    rw [recAt_set (hb y hy).1, if_neg (fun h2 : y = (i : Int) ∧ _ => hout (h2.1 ▸ hy))]
  refine ⟨((laidR p.1 (butL l k)).set i (-1, -1, p.2), (i : Int)), ⟨?_, by rw [hxe]; exact hok2, hrow2, ?_, by rw [hxe]; exact hlive, hlen2⟩⟩
  · unfold qBut
    rw [hq.eq hr, hxe, hgv.1, if_neg (by simp)]
  · rw [hrow2.tasks hok2.right, hq.tasks hr, ← butL_map]
    apply List.map_congr_left
    intro y hy
    simp only
    rw [recAt_set (hb y hy).1, if_neg (fun h2 : y = (i : Int) ∧ _ => hout (h2.1 ▸ hy)), (laidR_data hb (hb y hy).1).2]
/-- what is pushed to the front is popped at once, and leaves all as it was. -/
theorem push_pop {p p2 : Aren} {q : Qu} {fl' l : List Int} {i : Nat} {key task : Int} (h : Ok p ((i : Int) :: fl')) (hq : Row p q l) (hi : i < p.1.length) (hp : Pushed p q l key task true i fl' p2) :
    qPop p2 (laidQ (pushL l i true)) = (p, q, task, 0) := by
  have hn := List.nodup_cons.1 h.nodup
  have hr2 := hp.ok.right
  have hrow := hp.row
  have htk := hp.tasks
  have hq2 := hrow.right hr2
  have hil : (i : Int) ∉ l := fun hm => ((h.live _).1 (hq.live _ hm)).2.2 (by simp)
  have hlk : Link p2.1 (headD' l) l := link_of ⟨_, hrow.link.2⟩
  have hb : ∀ x ∈ l, 0 ≤ x ∧ x < (p2.1.length : Int) := fun x hm => live_bounds (hrow.live x (List.mem_cons_of_mem _ hm))
  have hc := chain_places h.chain i (by simp)
  have he := h.chain.2.2.2
  have hlive : liveS p2 i = true := (hp.live i).2 (Or.inr rfl)
  have hnl : ¬ leadsTo p2 i p2.1.length := by
    rintro ⟨j, hj, hjl, hjn⟩
    by_cases hjm : (j : Int) ∈ pushL l i true
    · rcases List.mem_cons.1 hjm with e | hm
      · have := link_head hrow.link.2
        rw [← e, hjn] at this
        cases l with
        | nil => have h1 : (i : Int) = -1 := this; omega
        | cons z l => have h1 : (i : Int) = z := this; exact hil (by rw [h1]; simp)
      · exact link_nohead hlk hil (by omega) _ hm hjn
    · have hji : (j : Int) ≠ i := fun e => hjm (by rw [e]; exact pushL_mem.2 (Or.inl rfl))
      have hjl2 : (j : Int) ∉ l := fun hm => hjm (pushL_mem.2 (Or.inr hm))
      rw [hp.rest j (by omega) hjl2 hji] at hjn
      have hjp : liveS p j = true := ((hp.live j).1 hjl).resolve_right hji
      exact (h.recs hjp).2.2.2.2 (by rw [hjn]; simp)
  have hgv := (give_ok hp.ok hlive hnl).1
  have hbk : qBut p2 (laidQ (pushL l i true)) 0 = (p, q, 0) := by
    unfold qBut
    rw [hrow.eq hr2]
    have e1 : butL (pushL l i true) 0 = l := rfl
    have e2 : (pushL l i true).getD 0 0 = (i : Int) := rfl
    rw [e1, e2, laidR_same hb hlk, show ((p2.1, p2.2) : Aren) = p2 from rfl, hgv, if_neg (by simp)]
    congr 1
    · refine Prod.ext ?_ ?_
      · refine recs_ext (by simp [hp.len]) fun j hj => ?_
        simp only [List.length_set] at hj
        rw [recAt_set (by omega)]
        by_cases hji : (j : Int) = i
        · rw [if_pos ⟨hji, by rw [hp.len]; exact hi⟩, hji]
          refine Prod.ext he.1.symm (Prod.ext he.2.1.symm ?_)
          simp only
          rw [hp.recs]
        · rw [if_neg (fun h2 => hji h2.1)]
          by_cases hjm : (j : Int) ∈ l
          · have hnx := link_det hlk hq.link _ hjm
            have hdt : (recAt p2.1 j).1 = (recAt p.1 j).1 ∧ (recAt p2.1 j).2.1 = (recAt p.1 j).2.1 := by
              rw [hp.recs]
              have hbb : ∀ x ∈ pushL l i true, 0 ≤ x ∧ x < ((p.1.set i (key, task, -1)).length : Int) := by
                intro x hm
                rw [List.length_set]
                rcases pushL_mem.1 hm with rfl | hm
                · omega
                · exact live_bounds (hq.live x hm)
              have := laidR_data (j := (j : Int)) hbb (by omega)
              rw [recAt_set (by omega), if_neg (fun h2 => hji h2.1)] at this
              exact this
            exact Prod.ext hdt.1 (Prod.ext hdt.2 hnx)
          · exact hp.rest j (by omega) hjm hji
      · exact h.chain.1.symm
    · rw [← hq.laidQ]
  unfold qPop
  rw [if_neg (by simp [hq2]), htk, hbk]
  show (if task :: qTasks p q = [] then _ else _) = _
  rw [if_neg (by simp)]
  simp [pushL]
end Go.Proofs.Ytombfempdfdeoaa
