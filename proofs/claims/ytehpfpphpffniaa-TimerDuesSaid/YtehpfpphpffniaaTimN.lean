/- Plain mathematics of layer 12, on: pushed, popped and dropped; in turn; who is due; no condition but those in each theorem. -/
import Derived.Test.YtehpfpphpffniaaTimM
namespace Go.Proofs.Ytehpfpphpffniaa
set_option linter.unusedVariables false
set_option linter.unusedSimpArgs false
open Go.RowKit

/-- a heap that may be. -/
structure Rt (h : List Tm) : Prop where
  len : h.length ≤ 12
  hp : Heap h
  un : Un h
  pos : ∀ x ∈ h, 0 ≤ x.1 ∧ 0 ≤ x.2
theorem rt_iff {h : List Tm} : rightH h = true ↔ Rt h := right_iff12.trans ⟨fun ⟨a, b, c, d⟩ => ⟨a, b, c, d⟩, fun ⟨a, b, c, d⟩ => ⟨a, b, c, d⟩⟩
theorem Un.eq {h : List Tm} (hu : Un h) {x y : Tm} (hx : x ∈ h) (hy : y ∈ h) (e : x.2 = y.2) : x = y := by
  obtain ⟨i, hi, rfl⟩ := mem_tmAt hx
  obtain ⟨j, hj, rfl⟩ := mem_tmAt hy
  rw [hu i j hi hj e]
theorem tmAt_take {h : List Tm} {m j : Nat} (hj : j < m) : tmAt (h.take m) j = tmAt h j := by
  unfold tmAt
  rw [List.getD_eq_getElem?_getD, List.getD_eq_getElem?_getD, List.getElem?_take_of_lt hj]
theorem tmAt_app {h : List Tm} {x : Tm} {j : Nat} (hj : j ≤ h.length) : tmAt (h ++ [x]) j = if j = h.length then x else tmAt h j := by
  unfold tmAt
  by_cases e : j = h.length
  · subst e; rw [if_pos rfl, List.getD_eq_getElem?_getD]; simp
  · rw [if_neg e, List.getD_eq_getElem?_getD, List.getD_eq_getElem?_getD, List.getElem?_append_left (by omega)]
/-- what a place is taken of: heap, members, unlike. -/
theorem wio_ok {h : List Tm} {i : Nat} (hh : Heap h) (hu : Un h) (hi : i < h.length) :
    Heap (wioT h i) ∧ Un (wioT h i) ∧ (wioT h i).length = h.length - 1 ∧ ∀ x, x ∈ wioT h i ↔ x ∈ h ∧ x ≠ tmAt h i := by
  obtain ⟨m, hm⟩ : ∃ m, h.length - 1 = m := ⟨_, rfl⟩
  have hml : m < h.length := by omega
  have htl : (h.take m).length = m := by rw [List.length_take]; omega
  unfold wioT
  rw [hm]
  by_cases e : i = m
  · rw [if_pos e]
    subst e
    refine ⟨fun j j0 jl => ?_, fun a b ha hb e => ?_, htl, fun x => ⟨fun hx => ?_, fun ⟨hx, hn⟩ => ?_⟩⟩
    · rw [htl] at jl
      rw [tmAt_take jl, tmAt_take (by omega)]
      exact hh j j0 (by omega)
    · rw [htl] at ha hb
      rw [tmAt_take ha, tmAt_take hb] at e
      exact hu a b (by omega) (by omega) e
    · obtain ⟨k, hk, rfl⟩ := mem_tmAt hx
      rw [htl] at hk
      rw [tmAt_take hk]
      refine ⟨tmAt_mem (by omega), fun e => ?_⟩
      have := hu k i (by omega) hi (by rw [e])
      omega
    · obtain ⟨k, hk, rfl⟩ := mem_tmAt hx
      have hki : k ≠ i := fun e => hn (by rw [e])
      have := tmAt_mem (h := h.take i) (i := k) (by rw [htl]; omega)
      rwa [tmAt_take (by omega)] at this
  · rw [if_neg e]
    have him : i < m := by omega
    obtain ⟨g, hg⟩ : ∃ g, (h.take m).set i (tmAt h m) = g := ⟨_, rfl⟩
    have hgl : g.length = m := by rw [← hg, List.length_set]; exact htl
    have hga : ∀ j : Nat, j < m → tmAt g j = if j = i then tmAt h m else tmAt h j := by
      intro j hj
      rw [← hg, tmAt_set (by rw [htl]; exact him), tmAt_take hj]
    rw [hg]
    have hgu : Un g := by
      intro a b ha hb e2
      rw [hgl] at ha hb
      rw [hga a ha, hga b hb] at e2
      by_cases a1 : a = i
      · by_cases b1 : b = i
        · omega
        · rw [if_pos a1, if_neg b1] at e2
          have := hu m b hml (by omega) e2
          omega
      · by_cases b1 : b = i
        · rw [if_neg a1, if_pos b1] at e2
          have := hu a m (by omega) hml e2
          omega
        · rw [if_neg a1, if_neg b1] at e2
          exact hu a b (by omega) (by omega) e2
    have hd : HDn g i := by
      refine ⟨fun j j0 jl ji jp => ?_, fun c c0 cl cp i0 => ?_⟩
      · rw [hgl] at jl
        rw [hga j jl, hga _ (by omega), if_neg ji, if_neg jp]
        exact hh j j0 (by omega)
      · rw [hgl] at cl
        rw [hga c cl, hga _ (by omega), if_neg (by omega), if_neg (by omega)]
        have h1 := hh c c0 (by omega)
        have h2 := hh i i0 hi
        rw [cp] at h1
        exact nbef_trans h2 h1
    obtain ⟨d1, d2, d3, d4, d5, d6⟩ := @down_ok h.length g i (by omega) (by omega) hd hgu
    have hup : HUp (downT h.length g i) i := by
      refine ⟨fun j j0 jl ji => d5 j j0 (by omega) ji, fun c c0 cl cp i0 => ?_⟩
      rw [d3, hgl] at cl
      rcases d6 with h7 | ⟨c', c0', cl', cp', h7⟩
      · rw [h7]; exact hd.over c c0 (by omega) cp i0
      · have h8 := d5 c c0 (by omega) (by omega)
        rw [cp, h7] at h8
        rw [d4 ((i - 1) / 4) (by omega)]
        exact nbef_trans (hd.over c' c0' cl' cp' i0) h8
    obtain ⟨u1, u2, u3⟩ := @up_ok (i + 1) (downT h.length g i) i (by omega) (by omega) hup d2
    refine ⟨u1, u3, by rw [u2.len, d3, hgl], fun x => ?_⟩
    rw [u2.mem, d1.mem]
    constructor
    · intro hx
      obtain ⟨k, hk, rfl⟩ := mem_tmAt hx
      rw [hgl] at hk
      rw [hga k hk]
      by_cases k1 : k = i
      · rw [if_pos k1]
        refine ⟨tmAt_mem hml, fun e2 => ?_⟩
        have := hu m i hml hi (by rw [e2])
        omega
      · rw [if_neg k1]
        refine ⟨tmAt_mem (by omega), fun e2 => ?_⟩
        have := hu k i (by omega) hi (by rw [e2])
        omega
    · rintro ⟨hx, hn⟩
      obtain ⟨k, hk, rfl⟩ := mem_tmAt hx
      have hki : k ≠ i := fun e2 => hn (by rw [e2])
      by_cases k1 : k = m
      · have := tmAt_mem (h := g) (i := i) (by omega)
        rw [hga i him, if_pos rfl] at this
        rwa [k1]
      · have := tmAt_mem (h := g) (i := k) (by omega)
        rwa [hga k (by omega), if_neg hki] at this
theorem wio_rt {h : List Tm} {i : Nat} (hr : Rt h) (hi : i < h.length) : Rt (wioT h i) ∧ (wioT h i).length = h.length - 1 ∧ ∀ x, x ∈ wioT h i ↔ x ∈ h ∧ x ≠ tmAt h i := by
  obtain ⟨w1, w2, w3, w4⟩ := wio_ok hr.hp hr.un hi
  have := hr.len
  exact ⟨⟨by omega, w1, w2, fun x hx => hr.pos x ((w4 x).1 hx).1⟩, w3, w4⟩
/-- a place of a task. -/
theorem plT_iff (task : Int) : ∀ (h : List Tm) (i : Nat), (0 ≤ plT task h i ↔ ∃ x ∈ h, x.2 = task) ∧ (0 ≤ plT task h i → ∃ k : Nat, k < h.length ∧ plT task h i = ((i + k : Nat) : Int) ∧ (tmAt h k).2 = task)
  | [], i => by
    unfold plT
    exact ⟨⟨fun h => by omega, fun ⟨x, hx, _⟩ => by simp at hx⟩, fun h => by omega⟩
  | x :: h, i => by
    unfold plT
    by_cases e : x.2 = task
    · rw [if_pos e]
      exact ⟨⟨fun _ => ⟨x, List.mem_cons_self, e⟩, fun _ => by omega⟩, fun _ => ⟨0, by simp, by simp, e⟩⟩
    · rw [if_neg e]
      obtain ⟨h1, h2⟩ := plT_iff task h (i + 1)
      refine ⟨h1.trans ⟨fun ⟨y, hy, e2⟩ => ⟨y, List.mem_cons_of_mem _ hy, e2⟩, fun ⟨y, hy, e2⟩ => ?_⟩, fun h3 => ?_⟩
      · rcases List.mem_cons.1 hy with h4 | h4
        · subst h4; exact absurd e2 e
        · exact ⟨y, h4, e2⟩
      · obtain ⟨k, k1, k2, k3⟩ := h2 h3
        refine ⟨k + 1, by simp; exact k1, by rw [k2]; omega, ?_⟩
        rw [← k3]; unfold tmAt; rw [List.getD_cons_succ]
theorem place_none {h : List Tm} {task : Int} : placeH h task < 0 ↔ ∀ x ∈ h, x.2 ≠ task := by
  have := (plT_iff task h 0).1
  unfold placeH
  constructor
  · intro hn x hx e; have := this.2 ⟨x, hx, e⟩; omega
  · intro hn
    refine Classical.byContradiction fun hc => ?_
    obtain ⟨x, hx, e⟩ := this.1 (by omega)
    exact hn x hx e
theorem place_some {h : List Tm} {task : Int} (h0 : 0 ≤ placeH h task) : (placeH h task).toNat < h.length ∧ (tmAt h (placeH h task).toNat).2 = task := by
  obtain ⟨k, k1, k2, k3⟩ := (plT_iff task h 0).2 h0
  unfold placeH
  rw [k2]
  simp only [Nat.zero_add, Int.toNat_natCast]
  exact ⟨k1, k3⟩
/-- pushed. -/
theorem push_rt {h : List Tm} {x : Tm} (hr : Rt h) (h1 : 0 ≤ x.1) (h2 : 0 ≤ x.2) (hp : placeH h x.2 < 0) (hl : h.length < 12) :
    Rt (upT (h.length + 1) (h ++ [x]) h.length) ∧ (upT (h.length + 1) (h ++ [x]) h.length).length = h.length + 1 ∧ ∀ y, y ∈ upT (h.length + 1) (h ++ [x]) h.length ↔ y ∈ h ∨ y = x := by
  have hal : (h ++ [x]).length = h.length + 1 := by simp
  have hn := place_none.1 hp
  have hu : Un (h ++ [x]) := by
    intro a b ha hb e
    rw [hal] at ha hb
    rw [tmAt_app (by omega), tmAt_app (by omega)] at e
    by_cases a1 : a = h.length
    · by_cases b1 : b = h.length
      · omega
      · rw [if_pos a1, if_neg b1] at e
        exact absurd e.symm (hn _ (tmAt_mem (by omega)))
    · by_cases b1 : b = h.length
      · rw [if_neg a1, if_pos b1] at e
        exact absurd e (hn _ (tmAt_mem (by omega)))
      · rw [if_neg a1, if_neg b1] at e
        exact hr.un a b (by omega) (by omega) e
  have hup : HUp (h ++ [x]) h.length := by
    refine ⟨fun j j0 jl ji => ?_, fun c c0 cl cp i0 => by omega⟩
    rw [hal] at jl
    rw [tmAt_app (by omega), tmAt_app (by omega), if_neg ji, if_neg (by omega)]
    exact hr.hp j j0 (by omega)
  obtain ⟨u1, u2, u3⟩ := @up_ok (h.length + 1) (h ++ [x]) h.length (by omega) (by omega) hup hu
  have hm : ∀ y, y ∈ upT (h.length + 1) (h ++ [x]) h.length ↔ y ∈ h ∨ y = x := fun y => by rw [u2.mem]; simp
  refine ⟨⟨by rw [u2.len]; omega, u1, u3, fun y hy => ?_⟩, by rw [u2.len]; omega, hm⟩
  rcases (hm y).1 hy with h3 | h3
  · exact hr.pos y h3
  · subst h3; exact ⟨h1, h2⟩
/-- in turn. -/
def Srt (l : List Tm) : Prop := l.Pairwise befT
theorem srt_uniq : ∀ {a b : List Tm}, Srt a → Srt b → (∀ x, x ∈ a ↔ x ∈ b) → a = b
  | [], [], _, _, _ => rfl
  | [], y :: b, _, _, h => by have := (h y).2 List.mem_cons_self; simp at this
  | x :: a, [], _, _, h => by have := (h x).1 List.mem_cons_self; simp at this
  | x :: a, y :: b, ha, hb, h => by
    obtain ⟨a1, a2⟩ := List.pairwise_cons.1 ha
    obtain ⟨b1, b2⟩ := List.pairwise_cons.1 hb
    have hxy : x = y := by
      rcases List.mem_cons.1 ((h x).1 List.mem_cons_self) with h1 | h1
      · exact h1
      · rcases List.mem_cons.1 ((h y).2 List.mem_cons_self) with h2 | h2
        · exact h2.symm
        · exact absurd (befT_trans (b1 x h1) (a1 y h2)) (befT_irr _)
    subst hxy
    rw [srt_uniq a2 b2 fun z => ⟨fun hz => ?_, fun hz => ?_⟩]
    · rcases List.mem_cons.1 ((h z).1 (List.mem_cons_of_mem _ hz)) with h1 | h1
      · subst h1; exact absurd (a1 z hz) (befT_irr _)
      · exact h1
    · rcases List.mem_cons.1 ((h z).2 (List.mem_cons_of_mem _ hz)) with h1 | h1
      · subst h1; exact absurd (b1 z hz) (befT_irr _)
      · exact h1
theorem ins_mem12 (x y : Tm) : ∀ l : List Tm, y ∈ insT12 x l ↔ y = x ∨ y ∈ l
  | [] => by unfold insT12; simp
  | z :: l => by
    unfold insT12
    split
    · simp
    · have := ins_mem12 x y l
      simp only [List.mem_cons, this]
      constructor
      · rintro (h | h | h)
        · exact Or.inr (Or.inl h)
        · exact Or.inl h
        · exact Or.inr (Or.inr h)
      · rintro (h | h | h)
        · exact Or.inr (Or.inl h)
        · exact Or.inl h
        · exact Or.inr (Or.inr h)
theorem ins_srt (x : Tm) : ∀ {l : List Tm}, Srt l → (∀ y ∈ l, y ≠ x) → Srt (insT12 x l)
  | [], _, _ => by unfold insT12; exact List.pairwise_singleton _ _
  | z :: l, h, hn => by
    obtain ⟨h1, h2⟩ := List.pairwise_cons.1 h
    unfold insT12
    by_cases e : befT x z
    · rw [if_pos e]
      refine List.pairwise_cons.2 ⟨fun y hy => ?_, h⟩
      rcases List.mem_cons.1 hy with h3 | h3
      · subst h3; exact e
      · exact befT_trans e (h1 y h3)
    · rw [if_neg e]
      refine List.pairwise_cons.2 ⟨fun y hy => ?_, ins_srt x h2 fun y hy => hn y (List.mem_cons_of_mem _ hy)⟩
      rcases (ins_mem12 x y l).1 hy with h3 | h3
      · subst h3
        rcases befT_tri (hn z List.mem_cons_self) with h4 | h4
        · exact h4
        · exact absurd h4 e
      · exact h1 y h3
theorem ins_len12 (x : Tm) : ∀ l : List Tm, (insT12 x l).length = l.length + 1
  | [] => rfl
  | z :: l => by
    unfold insT12
    split
    · rfl
    · rw [List.length_cons, ins_len12 x l, List.length_cons]
theorem sortF_ok {h : List Tm} (hu : Un h) : ∀ k : Nat, k ≤ h.length → Srt (sortF h k) ∧ (sortF h k).length = k ∧ ∀ x, x ∈ sortF h k ↔ ∃ j : Nat, j < k ∧ tmAt h j = x
  | 0, _ => ⟨List.Pairwise.nil, rfl, fun x => ⟨fun h => by simp [sortF] at h, fun ⟨j, hj, _⟩ => by omega⟩⟩
  | k + 1, hk => by
    obtain ⟨h1, h2, h3⟩ := sortF_ok hu k (by omega)
    unfold sortF
    refine ⟨ins_srt _ h1 fun y hy e => ?_, by rw [ins_len12, h2], fun x => ?_⟩
    · obtain ⟨j, hj, e2⟩ := (h3 y).1 hy
      have := hu j k (by omega) (by omega) (by rw [e2, e])
      omega
    · rw [ins_mem12, h3]
      constructor
      · rintro (e | ⟨j, hj, e⟩)
        · exact ⟨k, by omega, e.symm⟩
        · exact ⟨j, by omega, e⟩
      · rintro ⟨j, hj, e⟩
        by_cases e1 : j = k
        · subst e1; exact Or.inl e.symm
        · exact Or.inr ⟨j, by omega, e⟩
theorem sort_ok {h : List Tm} (hr : Rt h) : Srt (sortH h) ∧ (sortH h).length = h.length ∧ ∀ x, x ∈ sortH h ↔ x ∈ h := by
  unfold sortH
  rw [if_pos (rt_iff.2 hr)]
  obtain ⟨h1, h2, h3⟩ := sortF_ok hr.un h.length (Nat.le_refl _)
  refine ⟨h1, h2, fun x => (h3 x).trans ⟨fun ⟨j, hj, e⟩ => by rw [← e]; exact tmAt_mem hj, fun hx => mem_tmAt hx⟩⟩
/-- who is on top is before all that stay, and they come in turn. -/
theorem top_bef {h : List Tm} (hr : Rt h) {x : Tm} (hx : x ∈ h) (hn : x ≠ tmAt h 0) : befT (tmAt h 0) x := by
  obtain ⟨j, hj, e⟩ := mem_tmAt hx
  have := heap_min hr.hp j hj
  rw [e] at this
  rcases befT_tri hn with h1 | h1
  · exact absurd h1 this
  · exact h1
theorem sort_top {h : List Tm} (hr : Rt h) (hn : h ≠ []) : sortH h = tmAt h 0 :: sortH (wioT h 0) := by
  have hl : 0 < h.length := List.length_pos_iff.2 hn
  obtain ⟨w1, w2, w3⟩ := wio_rt hr hl
  obtain ⟨s1, s2, s3⟩ := sort_ok hr
  obtain ⟨t1, t2, t3⟩ := sort_ok w1
  refine srt_uniq s1 (List.pairwise_cons.2 ⟨fun y hy => ?_, t1⟩) fun x => ?_
  · obtain ⟨y1, y2⟩ := (w3 y).1 ((t3 y).1 hy)
    exact top_bef hr y1 y2
  · rw [s3, List.mem_cons, t3, w3]
    constructor
    · intro hx
      by_cases e : x = tmAt h 0
      · exact Or.inl e
      · exact Or.inr ⟨hx, e⟩
    · rintro (e | ⟨h1, _⟩)
      · rw [e]; exact tmAt_mem hl
      · exact h1
/-- the first one that is popped. -/
theorem pop_eq {h : List Tm} (hr : Rt h) (hn : h ≠ []) : popH h = (wioT h 0, tmAt h 0, 0) := by
  unfold popH
  rw [if_neg (by rw [rt_iff.2 hr]; simp), if_neg hn]
/-- who is due: in turn, and nobody else; who isn't stays. -/
theorem due_ok {now : Int} : ∀ {f : Nat} {h : List Tm} {out : List Int}, h.length < f → Rt h →
    Rt (dueF now f h out).1 ∧ ∃ d : List Tm, (dueF now f h out).2 = out ++ d.map Prod.snd ∧ sortH h = d ++ sortH (dueF now f h out).1 ∧ (∀ x ∈ d, x.1 ≤ now) ∧ ∀ x ∈ sortH (dueF now f h out).1, now < x.1
  | 0, _, _, hf, _ => by omega
  | f + 1, h, out, hf, hr => by
    unfold dueF
    by_cases hc : h ≠ [] ∧ (tmAt h 0).1 ≤ now
    · rw [if_pos hc, pop_eq hr hc.1]
      have hl : 0 < h.length := List.length_pos_iff.2 hc.1
      obtain ⟨w1, w2, w3⟩ := wio_rt hr hl
      obtain ⟨g1, d, g2, g3, g4, g5⟩ := @due_ok now f (wioT h 0) (out ++ [(tmAt h 0).2]) (by omega) w1
      refine ⟨g1, tmAt h 0 :: d, by rw [g2]; simp, by rw [sort_top hr hc.1, g3]; rfl, fun x hx => ?_, g5⟩
      rcases List.mem_cons.1 hx with h1 | h1
      · rw [h1]; exact hc.2
      · exact g4 x h1
    · rw [if_neg hc]
      refine ⟨hr, [], by simp, by simp, fun x hx => by simp at hx, fun x hx => ?_⟩
      have hx' := (sort_ok hr).2.2 x |>.1 hx
      have hn : h ≠ [] := fun e => by rw [e] at hx'; simp at hx'
      have h1 : ¬ (tmAt h 0).1 ≤ now := fun e => hc ⟨hn, e⟩
      by_cases e : x = tmAt h 0
      · rw [e]; omega
      · have := top_bef hr hx' e
        unfold befT at this
        omega
/-- a timer that is pushed and dropped. -/
theorem push_drop {h : List Tm} {x : Tm} (he : (pushH h x).2 = 0) : Rt h ∧ Rt (pushH h x).1 ∧ (pushH h x).1.length = h.length + 1 ∧ (dropH (pushH h x).1 x.2).2 = 0 ∧ Rt (dropH (pushH h x).1 x.2).1 ∧ sortH (dropH (pushH h x).1 x.2).1 = sortH h ∧ ∃ y ∈ sortH (pushH h x).1, y.2 = x.2 := by
  unfold pushH at he ⊢
  split at he
  · exact absurd he (by show ¬ ((1 : Int) = 0); decide)
  · rename_i hr
    split at he
    · exact absurd he (by show ¬ ((8 : Int) = 0); decide)
    · rename_i hp
      split at he
      · exact absurd he (by show ¬ ((6 : Int) = 0); decide)
      · rename_i hl
        rw [if_neg hr, if_neg hp, if_neg hl]
        have hr1 : Rt h := rt_iff.1 (by cases h5 : rightH h <;> simp_all)
        obtain ⟨p1, p2, p3⟩ := push_rt hr1 (x := x) (by omega) (by omega) (by omega) (by omega)
        generalize upT (h.length + 1) (h ++ [x]) h.length = g at *
        have hxg : x ∈ g := (p3 x).2 (Or.inr rfl)
        have hpl : 0 ≤ placeH g x.2 := by
          refine Classical.byContradiction fun hc => ?_
          exact place_none.1 (by omega) x hxg rfl
        obtain ⟨q1, q2⟩ := place_some hpl
        have hqx : tmAt g (placeH g x.2).toNat = x := p1.un.eq (tmAt_mem q1) hxg q2
        obtain ⟨w1, w2, w3⟩ := wio_rt p1 q1
        have hd : dropH g x.2 = (wioT g (placeH g x.2).toNat, 0) := by
          unfold dropH
          rw [if_neg (by rw [rt_iff.2 p1]; simp), if_neg (by omega)]
        rw [hd]
        refine ⟨hr1, p1, p2, rfl, w1, ?_, x, ((sort_ok p1).2.2 x).2 hxg, rfl⟩
        refine srt_uniq (sort_ok w1).1 (sort_ok hr1).1 fun y => ?_
        rw [(sort_ok w1).2.2, (sort_ok hr1).2.2, w3, hqx, p3]
        constructor
        · rintro ⟨h1 | h1, h2⟩
          · exact h1
          · exact absurd h1 h2
        · intro h1
          refine ⟨Or.inl h1, fun e => ?_⟩
          exact (place_none (h := h) (task := x.2)).1 (by omega) y h1 (by rw [e])
end Go.Proofs.Ytehpfpphpffniaa
