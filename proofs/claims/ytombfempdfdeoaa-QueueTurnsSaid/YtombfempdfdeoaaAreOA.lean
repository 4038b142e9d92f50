/- What the program's own isPlace, empty, inUse, taken, mayLead, freeList, Right, Free of layer 7 answer; for slices of up to 16384 records. -/
import Derived.Test.YtombfempdfdeoaaAreM
import Derived.Test.YtombfempdfdeoaaFr
namespace Go.Proofs.Ytombfempdfdeoaa
set_option linter.unusedVariables false
set_option linter.unusedSimpArgs false
open Go.RowKit

/-- a record in use; an empty one. -/
def useR (r : Rec3) : Bool := decide (0 ≤ r.1) && decide (0 ≤ r.2.1)
def emptyR (r : Rec3) : Bool := decide (r.1 = -1) && decide (r.2.1 = -1)
theorem useR_iff {r : Rec3} : useR r = true ↔ 0 ≤ r.1 ∧ 0 ≤ r.2.1 := by unfold useR; simp
theorem emptyR_iff {r : Rec3} : emptyR r = true ↔ r.1 = -1 ∧ r.2.1 = -1 := by unfold emptyR; simp
def takenS (rs : List Rec3) (i : Int) : Bool := decide (0 ≤ i) && decide (i < (rs.length : Int)) && useR (recAt rs i)
def leadOk (rs : List Rec3) (x : Int) : Bool := decide (x = -1) || takenS rs x
theorem takenS_iff {rs : List Rec3} {i : Int} : takenS rs i = true ↔ 0 ≤ i ∧ i < (rs.length : Int) ∧ 0 ≤ (recAt rs i).1 ∧ 0 ≤ (recAt rs i).2.1 := by
  unfold takenS; simp only [Bool.and_eq_true, decide_eq_true_iff, useR_iff]; omega
theorem leadOk_iff {rs : List Rec3} {x : Int} : leadOk rs x = true ↔ x = -1 ∨ takenS rs x = true := by unfold leadOk; simp
/-- may not stand next in the list that the program walks? -/
def badP (rs : List Rec3) (at_ : Int) : Prop := at_ < 0 ∨ (rs.length : Int) ≤ at_ ∨ emptyR (recAt rs at_) = false
instance (rs : List Rec3) (at_ : Int) : Decidable (badP rs at_) := by unfold badP; infer_instance
def walkP (rs : List Rec3) : Nat → Int → List Int → Option (List Int)
  | 0, at_, out => if at_ = -1 then some out else none
  | f + 1, at_, out => if at_ = -1 then some out else if badP rs at_ then none else walkP rs f (recAt rs at_).2.2 (out ++ [at_])
theorem not_badP {rs : List Rec3} {at_ : Int} (h : ¬ badP rs at_) : 0 ≤ at_ ∧ at_ < (rs.length : Int) ∧ (recAt rs at_).1 = -1 ∧ (recAt rs at_).2.1 = -1 := by
  unfold badP at h
  simp only [not_or, Int.not_lt, Int.not_le, Bool.not_eq_false, emptyR_iff] at h
  exact ⟨h.1, h.2.1, h.2.2.1, h.2.2.2⟩
theorem walkP_chain {rs : List Rec3} : ∀ {f : Nat} {at_ : Int} {out r : List Int}, walkP rs f at_ out = some r → ∃ l, r = out ++ l ∧ Chain rs at_ l ∧ l.length ≤ f
  | 0, at_, out, r, h => by
    unfold walkP at h
    split at h
    · rename_i h1; injection h with h; subst h; exact ⟨[], by simp, h1, by simp⟩
    · cases h
  | f + 1, at_, out, r, h => by
    unfold walkP at h
    split at h
    · rename_i h1; injection h with h; subst h; exact ⟨[], by simp, h1, by simp⟩
    · split at h
      · cases h
      · rename_i hb
        obtain ⟨g0, g1, g3, g4⟩ := not_badP hb
        obtain ⟨l, rfl, hc, hl⟩ := walkP_chain h
        exact ⟨at_ :: l, by simp, ⟨rfl, g0, g1, g3, g4, hc⟩, by simp; omega⟩
theorem chain_walkP {rs : List Rec3} : ∀ {l : List Int} {f : Nat} {at_ : Int} {out : List Int}, Chain rs at_ l → l.length ≤ f → walkP rs f at_ out = some (out ++ l)
  | [], f, at_, out, h, _ => by
    have h : at_ = -1 := h
    cases f with
    | zero => unfold walkP; rw [if_pos h]; simp
    | succ f => unfold walkP; rw [if_pos h]; simp
  | x :: l, f, at_, out, h, hf => by
    obtain ⟨g, rfl⟩ : ∃ g, f = g + 1 := ⟨f - 1, by simp at hf; omega⟩
    obtain ⟨rfl, g0, g1, g2, g3, hc⟩ := h
    have hb : ¬ badP rs at_ := by
      unfold badP
      simp only [not_or, Int.not_lt, Int.not_le, Bool.not_eq_false, emptyR_iff]
      exact ⟨g0, g1, g2, g3⟩
    unfold walkP
    rw [if_neg (by omega), if_neg hb, chain_walkP hc (by simp at hf; omega)]
    simp
/-- there is one chain from a place on. -/
theorem chain_one {rs : List Rec3} : ∀ {l m : List Int} {at_ : Int}, Chain rs at_ l → Chain rs at_ m → l = m
  | [], [], _, _, _ => rfl
  | [], y :: m, at_, h, h' => by
    obtain ⟨e, g0, _⟩ := h'; have h : at_ = -1 := h; omega
  | x :: l, [], at_, h', h => by
    obtain ⟨e, g0, _⟩ := h'; have h : at_ = -1 := h; omega
  | x :: l, y :: m, at_, h, h' => by
    obtain ⟨rfl, _, _, _, _, hc⟩ := h
    obtain ⟨rfl, _, _, _, _, hc'⟩ := h'
    rw [chain_one hc hc']
theorem chain_at {rs : List Rec3} : ∀ {l : List Int} {at_ x : Int}, Chain rs at_ l → x ∈ l → ∃ m, Chain rs x m ∧ m.length ≤ l.length
  | [], _, _, _, h => by simp at h
  | y :: l, at_, x, h, hx => by
    rcases List.mem_cons.1 hx with rfl | hx
    · have e := h.1; subst e; exact ⟨_, h, Nat.le_refl _⟩
    · obtain ⟨m, hm, hl⟩ := chain_at h.2.2.2.2.2 hx
      exact ⟨m, hm, by simp; omega⟩
theorem chain_nodup {rs : List Rec3} : ∀ {l : List Int} {at_ : Int}, Chain rs at_ l → l.Nodup
  | [], _, _ => List.nodup_nil
  | x :: l, at_, h => by
    have hc := h.2.2.2.2.2
    refine List.nodup_cons.2 ⟨fun hx => ?_, chain_nodup hc⟩
    obtain ⟨m, hm, hl⟩ := chain_at hc hx
    have e := h.1
    subst e
    have := chain_one h hm
    subst this
    simp at hl; omega
theorem walkP_walkL (rs : List Rec3) (fr : Int) : walkP rs rs.length fr [] = walkL (rs, fr) := by
  cases h : walkP rs rs.length fr [] with
  | some r =>
    obtain ⟨l, rfl, hc, hl⟩ := walkP_chain h
    exact (walkL_iff.2 ⟨by simpa using hc, by simpa using chain_nodup hc⟩).symm
  | none =>
    cases h2 : walkL (rs, fr) with
    | none => rfl
    | some l =>
      obtain ⟨hc, hn⟩ := walkL_iff.1 h2
      have hl := Places.len (n := rs.length) ⟨hn, chain_places hc⟩
      have := chain_walkP (out := []) hc hl
      rw [h] at this; cases this
theorem chain_empty {rs : List Rec3} : ∀ {l : List Int} {at_ : Int}, Chain rs at_ l → ∀ x ∈ l, (recAt rs x).1 = -1 ∧ (recAt rs x).2.1 = -1
  | [], _, _, x, h => by simp at h
  | y :: l, _, h, x, hx => by
    obtain ⟨_, g0, g1, g3, g4, hc⟩ := h
    rcases List.mem_cons.1 hx with rfl | hx
    · exact ⟨g3, g4⟩
    · exact chain_empty hc x hx
theorem chain_next {rs : List Rec3} : ∀ {l : List Int} {at_ : Int}, Chain rs at_ l → ∀ x ∈ l, (recAt rs x).2.2 = -1 ∨ (recAt rs x).2.2 ∈ l
  | [], _, _, x, h => by simp at h
  | y :: l, _, h, x, hx => by
    obtain ⟨_, g0, g1, g3, g4, hc⟩ := h
    rcases List.mem_cons.1 hx with rfl | hx
    · cases l with
      | nil => exact Or.inl hc
      | cons z l => right; have := hc.1; rw [this]; simp
    · rcases chain_next hc x hx with h2 | h2
      · exact Or.inl h2
      · right; simp [h2]
/-- the places in use, up to one. -/
def usedL (rs : List Rec3) (k : Nat) : List Int := ((List.range k).filter fun i : Nat => useR (recAt rs (i : Int))).map fun i : Nat => (i : Int)
theorem usedL_step {rs : List Rec3} {k : Nat} : (usedL rs (k + 1)).length = (usedL rs k).length + (if useR (recAt rs k) then 1 else 0) := by
  unfold usedL
  rw [List.range_succ, List.filter_append, List.map_append, List.length_append]
  by_cases h : useR (recAt rs (k : Int)) = true
  · simp [h]
  · simp [h]
theorem usedL_le (rs : List Rec3) (k : Nat) : (usedL rs k).length ≤ k := by
  unfold usedL
  rw [List.length_map]
  exact Nat.le_trans (List.length_filter_le _ _) (by simp)
theorem usedL_mem {rs : List Rec3} {k : Nat} {x : Int} : x ∈ usedL rs k ↔ 0 ≤ x ∧ x < (k : Int) ∧ useR (recAt rs x) = true := by
  unfold usedL
  simp only [List.mem_map, List.mem_filter, List.mem_range]
  constructor
  · rintro ⟨i, ⟨h1, h2⟩, rfl⟩; exact ⟨by omega, by omega, h2⟩
  · rintro ⟨h0, h1, h2⟩
    obtain ⟨i, rfl⟩ : ∃ i : Nat, x = i := ⟨x.toNat, by omega⟩
    exact ⟨i, ⟨by omega, h2⟩, rfl⟩
theorem usedL_nodup (rs : List Rec3) : ∀ k, (usedL rs k).Nodup
  | 0 => by simp [usedL]
  | k + 1 => by
    have h := usedL_nodup rs k
    by_cases hu : useR (recAt rs (k : Int)) = true
    · have e : usedL rs (k + 1) = usedL rs k ++ [(k : Int)] := by
        unfold usedL; rw [List.range_succ, List.filter_append, List.map_append]; simp [hu]
      rw [e]
      refine List.nodup_append.2 ⟨h, by simp, ?_⟩
      intro a ha b hb e2
      simp at hb; subst hb; subst e2
      have := (usedL_mem.1 ha).2.1; omega
    · have e : usedL rs (k + 1) = usedL rs k := by
        unfold usedL; rw [List.range_succ, List.filter_append, List.map_append]; simp [hu]
      rw [e]; exact h
theorem cover_len : ∀ {n : Nat} {l : List Int}, Places n l → (∀ i : Nat, i < n → (i : Int) ∈ l) → l.length = n
  | 0, l, h, _ => by have := h.len; omega
  | n + 1, l, h, hc => by
    have hm := hc n (by omega)
    have h2 : Places n (l.erase (n : Int)) := ⟨h.1.erase _, fun x hx => by
      have := (List.Nodup.mem_erase_iff h.1).1 hx
      have h3 := h.2 x this.2
      exact ⟨h3.1, by have := this.1; omega⟩⟩
    have := cover_len h2 (fun i hi => (List.Nodup.mem_erase_iff h.1).2 ⟨by omega, hc i (by omega)⟩)
    rw [List.length_erase_of_mem hm] at this
    have : 0 < l.length := List.length_pos_of_mem hm
    omega
theorem len_cover {n : Nat} {l : List Int} (h : Places n l) (hl : l.length = n) (i : Nat) (hi : i < n) : (i : Int) ∈ l := by
  by_cases hm : (i : Int) ∈ l
  · exact hm
  · have : Places n ((i : Int) :: l) := ⟨List.nodup_cons.2 ⟨hm, h.1⟩, fun x hx => by
      rcases List.mem_cons.1 hx with rfl | hx
      · exact ⟨by omega, by omega⟩
      · exact h.2 x hx⟩
    have := this.len
    simp at this; omega
/-- the loop's fact: whoever is in use leads rightly. -/
def leadsOk (rs : List Rec3) (k : Nat) : Prop := ∀ i : Nat, i < k → useR (recAt rs i) = true → leadOk rs (recAt rs i).2.2 = true
theorem leadsOk_skip {rs : List Rec3} {k : Nat} (h : leadsOk rs k) (hk : useR (recAt rs k) = true → leadOk rs (recAt rs k).2.2 = true) : leadsOk rs (k + 1) := fun i hi hu => by
  rcases Nat.lt_or_ge i k with h1 | h1
  · exact h i h1 hu
  · obtain rfl : i = k := by omega
    exact hk hu
theorem both_places {rs : List Rec3} {fr : Int} {l : List Int} (hw : walkL (rs, fr) = some l) : Places rs.length (l ++ usedL rs rs.length) := by
  obtain ⟨hc, hn⟩ := walkL_iff.1 hw
  refine ⟨List.nodup_append.2 ⟨hn, usedL_nodup rs _, fun a ha b hb e => ?_⟩, fun x hx => ?_⟩
  · subst e
    have h1 := (chain_empty hc a ha).1
    have h2 := (useR_iff.1 (usedL_mem.1 hb).2.2).1
    simp only at h1; omega
  · rcases List.mem_append.1 hx with hx | hx
    · exact chain_places hc x hx
    · have := usedL_mem.1 hx; exact ⟨this.1, this.2.1⟩
theorem right_count {rs : List Rec3} {fr : Int} {l : List Int} (hw : walkL (rs, fr) = some l) (h64 : rs.length ≤ 64) (hk : leadsOk rs rs.length) :
    rightS (rs, fr) = decide (l.length + (usedL rs rs.length).length = rs.length) := by
  have hp := both_places hw
  obtain ⟨hc, hn⟩ := walkL_iff.1 hw
  by_cases h : l.length + (usedL rs rs.length).length = rs.length
  · rw [decide_eq_true h]
    refine rightS_iff.2 ⟨h64, l, hw, fun i hi => ?_⟩
    rcases List.mem_append.1 (len_cover hp (by rw [List.length_append]; exact h) i hi) with hm | hm
    · exact Or.inl hm
    · right
      have hu := (usedL_mem.1 hm).2.2
      have hl := leadOk_iff.1 (hk i hi hu)
      have hu2 := useR_iff.1 hu
      refine ⟨hu2.1, hu2.2, ?_⟩
      rcases hl with hl | hl
      · simp only at hl ⊢; rw [hl]; exact ⟨by omega, by omega, fun hm2 => by have := (chain_places hc _ hm2).1; omega⟩
      · obtain ⟨t0, t1, t2, t3⟩ := takenS_iff.1 hl
        exact ⟨by simp only; omega, t1, fun hm2 => by have := (chain_empty hc _ hm2).1; simp only at this; omega⟩
  · rw [decide_eq_false h]
    refine rightS_false fun hr => h ?_
    obtain ⟨_, l', hl', hall⟩ := hr
    rw [hw] at hl'; injection hl' with hl'; subst hl'
    rw [← List.length_append]
    refine cover_len hp fun i hi => ?_
    rcases hall i hi with h3 | h3
    · exact List.mem_append_left _ h3
    · exact List.mem_append_right _ (usedL_mem.2 ⟨by omega, by omega, useR_iff.2 ⟨h3.1, h3.2.1⟩⟩)
theorem right_lead {rs : List Rec3} {fr : Int} {i : Nat} (hr : rightS (rs, fr) = true) (hi : i < rs.length) (hu : useR (recAt rs i) = true) : leadOk rs (recAt rs i).2.2 = true := by
  obtain ⟨l, hok⟩ := Ok.of hr
  have hu2 := useR_iff.1 hu
  rcases hok.all i hi with h3 | h3
  · have := (chain_empty hok.chain _ h3).1; simp only at this; omega
  · obtain ⟨_, _, a, b, d⟩ := h3
    simp only at a b d
    refine leadOk_iff.2 ?_
    by_cases e : (recAt rs i).2.2 = -1
    · exact Or.inl e
    · right
      obtain ⟨k, hk⟩ : ∃ k : Nat, (recAt rs i).2.2 = k := ⟨(recAt rs i).2.2.toNat, by omega⟩
      rw [hk] at b d ⊢
      rcases hok.all k (by simp only; omega) with h4 | h4
      · exact absurd h4 d
      · exact takenS_iff.2 ⟨by omega, b, h4.1, h4.2.1⟩
theorem right_lead_false {rs : List Rec3} {fr : Int} {i : Nat} (hi : i < rs.length) (hu : useR (recAt rs i) = true) (hl : leadOk rs (recAt rs i).2.2 = false) : rightS (rs, fr) = false := by
  cases hr : rightS (rs, fr) with
  | false => rfl
  | true => rw [right_lead hr hi hu] at hl; cases hl
theorem live_taken {rs : List Rec3} {fr : Int} (hr : rightS (rs, fr) = true) (i : Int) : takenS rs i = liveS (rs, fr) i := by
  obtain ⟨l, hok⟩ := Ok.of hr
  cases hl : liveS (rs, fr) i with
  | true =>
    have h1 := (hok.live i).1 hl
    have h2 := hok.recs hl
    exact takenS_iff.2 ⟨h1.1, h1.2.1, h2.1, h2.2.1⟩
  | false =>
    cases ht : takenS rs i with
    | false => rfl
    | true =>
      obtain ⟨t0, t1, t2, t3⟩ := takenS_iff.1 ht
      have : liveS (rs, fr) i = true := (hok.live i).2 ⟨t0, t1, fun hm => by have := (chain_empty hok.chain _ hm).1; simp only at this; omega⟩
      rw [hl] at this; cases this
/-- does any record lead to a place? -/
def anyLead (rs : List Rec3) (i : Int) (k : Nat) : Prop := ∃ j : Nat, j < k ∧ (recAt rs j).2.2 = i
theorem any_leads {rs : List Rec3} {fr i : Int} (hr : rightS (rs, fr) = true) (hl : liveS (rs, fr) i = true) : anyLead rs i rs.length ↔ leadsTo (rs, fr) i rs.length := by
  obtain ⟨l, hok⟩ := Ok.of hr
  have h0 := (hok.live i).1 hl
  constructor
  · rintro ⟨j, hj, he⟩
    refine ⟨j, hj, ?_, he⟩
    refine (hok.live j).2 ⟨by omega, by simp only; omega, fun hm => ?_⟩
    rcases chain_next hok.chain _ hm with h2 | h2
    · simp only at h2; omega
    · simp only at h2; rw [he] at h2; exact h0.2.2 h2
  · rintro ⟨j, hj, _, he⟩
    exact ⟨j, hj, he⟩
theorem anyLead_step {rs : List Rec3} {i : Int} {k : Nat} (h : ¬ anyLead rs i k) (hk : (recAt rs k).2.2 ≠ i) : ¬ anyLead rs i (k + 1) := by
  rintro ⟨j, hj, h1⟩
  rcases Nat.lt_or_ge j k with h3 | h3
  · exact h ⟨j, h3, h1⟩
  · obtain rfl : j = k := by omega
    exact hk h1

/-- a yes or a no. -/
def YesPost (w : World) (b : Bool) (e : Ending) (w' : World) : Prop := e = .returned (.bool b) ∧ Below w.heap.size w w'
set_option maxRecDepth 100000 in
set_option maxHeartbeats 4000000 in
theorem arnPlace_any (A : Option Addr) (n c : Nat) (fr i : Int) (w : World) :
    Calls Try.prog 53 #[.agg #[.slice A n c, .int .i64 fr], .int .i64 i] w (YesPost w (decide (0 ≤ i) && decide (i < (n : Int)))) := by
  obtain ⟨v1, hv1⟩ : ∃ W, w.alloc (.cells #[.slice A n c, .int .i64 fr] 24) = W := ⟨_, rfl⟩
  have fr1 : Fr w v1 w.heap.size [.cells #[.slice A n c, .int .i64 fr] 24] := hv1 ▸ Fr.first w _
  have z1 : v1.heap.size = w.heap.size + 1 := by rw [← hv1, Fr.size1]
  generalize hq : w.heap.size = q at *
  have FR := Lib.hid fr1
  clear fr1
  have c00 : v1.cell? ⟨q, 0, none⟩ = some (.slice A n c) := FR.out.cell 0 0 rfl rfl rfl
  have c01 : v1.cell? ⟨q, 1, none⟩ = some (.int .i64 fr) := FR.out.cell 0 1 rfl rfl rfl
  have HB := Lib.hid FR.out.out
  clear FR
  by_cases h0 : 0 ≤ i
  · have b0 : decide (0 ≤ i) = true := by simpa using h0
    clear h0
    go_enter Try.func53, Try.ntmps53
    go_wp2
    go_ret
    exact ⟨by rw [b0, Bool.true_and]; rfl, HB.out⟩
  · have b0 : decide (0 ≤ i) = false := by simpa using h0
    clear h0
    go_enter Try.func53, Try.ntmps53
    go_wp2
    go_ret
    exact ⟨by rw [b0, Bool.false_and]; rfl, HB.out⟩
set_option maxRecDepth 100000 in
set_option maxHeartbeats 4000000 in
theorem arnUse_any (r : Rec3) (w : World) :
    Calls Try.prog 49 #[.agg #[.int .i64 r.1, .int .i64 r.2.1, .int .i64 r.2.2]] w (YesPost w (useR r)) := by
  obtain ⟨k, tt, x⟩ := r
  simp only
  obtain ⟨v1, hv1⟩ : ∃ W, w.alloc (.cells #[.int .i64 k, .int .i64 tt, .int .i64 x] 55) = W := ⟨_, rfl⟩
  have fr1 : Fr w v1 w.heap.size [.cells #[.int .i64 k, .int .i64 tt, .int .i64 x] 55] := hv1 ▸ Fr.first w _
  have z1 : v1.heap.size = w.heap.size + 1 := by rw [← hv1, Fr.size1]
  generalize hq : w.heap.size = q at *
  have FR := Lib.hid fr1
  clear fr1
  have c00 : v1.cell? ⟨q, 0, none⟩ = some (.int .i64 k) := FR.out.cell 0 0 rfl rfl rfl
  have c01 : v1.cell? ⟨q, 1, none⟩ = some (.int .i64 tt) := FR.out.cell 0 1 rfl rfl rfl
  have c02 : v1.cell? ⟨q, 2, none⟩ = some (.int .i64 x) := FR.out.cell 0 2 rfl rfl rfl
  have HB := Lib.hid FR.out.out
  clear FR
  by_cases h0 : 0 ≤ k
  · have b0 : decide (0 ≤ k) = true := by simpa using h0
    by_cases h1 : 0 ≤ tt
    · have b1 : decide (0 ≤ tt) = true := by simpa using h1
      have HE := Lib.hid (show useR (k, tt, x) = true from useR_iff.2 ⟨h0, h1⟩)
      clear h0 h1
      go_enter Try.func49, Try.ntmps49
      go_wp2
      go_ret
      rw [HE.out]
      exact ⟨rfl, HB.out⟩
    · have b1 : decide (0 ≤ tt) = false := by simpa using h1
      have HE := Lib.hid (show useR (k, tt, x) = false from Bool.eq_false_iff.2 (fun h => h1 (useR_iff.1 h).2))
      clear h0 h1
      go_enter Try.func49, Try.ntmps49
      go_wp2
      go_ret
      rw [HE.out]
      exact ⟨rfl, HB.out⟩
  · have b0 : decide (0 ≤ k) = false := by simpa using h0
    have HE := Lib.hid (show useR (k, tt, x) = false from Bool.eq_false_iff.2 (fun h => h0 (useR_iff.1 h).1))
    clear h0
    go_enter Try.func49, Try.ntmps49
    go_wp2
    go_ret
    rw [HE.out]
    exact ⟨rfl, HB.out⟩
set_option maxRecDepth 100000 in
set_option maxHeartbeats 4000000 in
theorem arnEmpty_any (r : Rec3) (w : World) :
    Calls Try.prog 54 #[.agg #[.int .i64 r.1, .int .i64 r.2.1, .int .i64 r.2.2]] w (YesPost w (emptyR r)) := by
  obtain ⟨k, tt, x⟩ := r
  simp only
  obtain ⟨v1, hv1⟩ : ∃ W, w.alloc (.cells #[.int .i64 k, .int .i64 tt, .int .i64 x] 55) = W := ⟨_, rfl⟩
  have fr1 : Fr w v1 w.heap.size [.cells #[.int .i64 k, .int .i64 tt, .int .i64 x] 55] := hv1 ▸ Fr.first w _
  have z1 : v1.heap.size = w.heap.size + 1 := by rw [← hv1, Fr.size1]
  generalize hq : w.heap.size = q at *
  have FR := Lib.hid fr1
  clear fr1
  have c00 : v1.cell? ⟨q, 0, none⟩ = some (.int .i64 k) := FR.out.cell 0 0 rfl rfl rfl
  have c01 : v1.cell? ⟨q, 1, none⟩ = some (.int .i64 tt) := FR.out.cell 0 1 rfl rfl rfl
  have c02 : v1.cell? ⟨q, 2, none⟩ = some (.int .i64 x) := FR.out.cell 0 2 rfl rfl rfl
  have HB := Lib.hid FR.out.out
  clear FR
  by_cases h0 : k = -1
  · have b0 : (k == -1) = true := by simpa using h0
    by_cases h1 : tt = -1
    · have b1 : (tt == -1) = true := by simpa using h1
      have HE := Lib.hid (show emptyR (k, tt, x) = true from emptyR_iff.2 ⟨h0, h1⟩)
      clear h0 h1
      go_enter Try.func54, Try.ntmps54
      go_wp2
      go_ret
      rw [HE.out]
      exact ⟨rfl, HB.out⟩
    · have b1 : (tt == -1) = false := by simpa using h1
      have HE := Lib.hid (show emptyR (k, tt, x) = false from Bool.eq_false_iff.2 (fun h => h1 (emptyR_iff.1 h).2))
      clear h0 h1
      go_enter Try.func54, Try.ntmps54
      go_wp2
      go_ret
      rw [HE.out]
      exact ⟨rfl, HB.out⟩
  · have b0 : (k == -1) = false := by simpa using h0
    have HE := Lib.hid (show emptyR (k, tt, x) = false from Bool.eq_false_iff.2 (fun h => h0 (emptyR_iff.1 h).1))
    clear h0
    go_enter Try.func54, Try.ntmps54
    go_wp2
    go_ret
    rw [HE.out]
    exact ⟨rfl, HB.out⟩
set_option maxRecDepth 100000 in
set_option maxHeartbeats 4000000 in
theorem arnTaken_any (A : Option Addr) (n c : Nat) (rs : List Rec3) (fr i : Int) (w : World) (hx : Rs w A n c rs) (hn : n ≤ 16384) :
    Calls Try.prog 46 #[.agg #[.slice A n c, .int .i64 fr], .int .i64 i] w (YesPost w (takenS rs i)) := by
  have hlen := hx.len
  have RX := Lib.hid hx
  have PL := Lib.hid (fun (W : World) => arnPlace_any A n c fr i W)
  clear hx
  obtain ⟨v1, hv1⟩ : ∃ W, w.alloc (.cells #[.slice A n c, .int .i64 fr] 24) = W := ⟨_, rfl⟩
  have fr1 : Fr w v1 w.heap.size [.cells #[.slice A n c, .int .i64 fr] 24] := hv1 ▸ Fr.first w _
  have z1 : v1.heap.size = w.heap.size + 1 := by rw [← hv1, Fr.size1]
  generalize hq : w.heap.size = q at *
  have FR := Lib.hid fr1
  clear fr1
  by_cases h0 : 0 ≤ i ∧ i < (n : Int)
  · have PL2 := PL.out
    rw [decide_eq_true h0.1, decide_eq_true h0.2] at PL2
    replace PL2 := Lib.hid PL2
    clear PL
    obtain ⟨i, rfl⟩ : ∃ j : Nat, i = j := ⟨i.toNat, by omega⟩
    have hi0 : (0 : Int) ≤ (i : Int) := h0.1
    have hi1 : (i : Int) < (n : Int) := h0.2
    have HE := Lib.hid (show takenS rs (i : Int) = useR (recAt rs i) by unfold takenS; rw [decide_eq_true hi0, decide_eq_true (by omega), Bool.true_and, Bool.true_and])
    have US := Lib.hid (fun (W : World) => arnUse_any (recAt rs i) W)
    clear h0
    go_enter Try.func46, Try.ntmps46
    have c00 : v1.cell? ⟨q, 0, none⟩ = some (.slice A n c) := FR.out.cell 0 0 rfl rfl rfl
    have c01 : v1.cell? ⟨q, 1, none⟩ = some (.int .i64 fr) := FR.out.cell 0 1 rfl rfl rfl
    go_wp2_with fail
    refine (PL2.out _).mono ?_
    rintro e w2 ⟨rfl, hb⟩
    clear c00 c01
    replace FR := Lib.hid (FR.out.step hb)
    clear hb
    obtain ⟨b, off, rfl, hb0, k0, k1, k2⟩ := Rs.look (rs := rs) (FR.out.es RX.out) i (by omega)
    clear hb0
    generalize hru : useR (recAt rs i) = u at *
    generalize recAt rs i = r at *
    have c00 : w2.cell? ⟨q, 0, none⟩ = some (.slice (some ⟨b, off, none⟩) n c) := FR.out.cell 0 0 rfl rfl rfl
    have c01 : w2.cell? ⟨q, 1, none⟩ = some (.int .i64 fr) := FR.out.cell 0 1 rfl rfl rfl
    go_wp2_with fail
    refine (US.out _).mono ?_
    rintro e w3 ⟨rfl, hb⟩
    clear c00 c01
    replace FR := Lib.hid (FR.out.step hb)
    clear hb
    clear k0 k1 k2
    go_wp2
    go_ret
    rw [HE.out]
    exact ⟨rfl, FR.out.out⟩
  · have hb1 : (decide (0 ≤ i) && decide (i < (n : Int))) = false := by rw [← Bool.decide_and]; exact decide_eq_false h0
    have PL2 := PL.out
    rw [hb1] at PL2
    replace PL2 := Lib.hid PL2
    clear PL hb1
    have HE := Lib.hid (show takenS rs i = false from Bool.eq_false_iff.2 fun h => h0 (by obtain ⟨a, b, _⟩ := takenS_iff.1 h; exact ⟨a, by omega⟩))
    clear h0
    go_enter Try.func46, Try.ntmps46
    have c00 : v1.cell? ⟨q, 0, none⟩ = some (.slice A n c) := FR.out.cell 0 0 rfl rfl rfl
    have c01 : v1.cell? ⟨q, 1, none⟩ = some (.int .i64 fr) := FR.out.cell 0 1 rfl rfl rfl
    go_wp2_with fail
    refine (PL2.out _).mono ?_
    rintro e w2 ⟨rfl, hb⟩
    clear c00 c01
    replace FR := Lib.hid (FR.out.step hb)
    clear hb
    go_wp2
    go_ret
    rw [HE.out]
    exact ⟨rfl, FR.out.out⟩
set_option maxRecDepth 100000 in
set_option maxHeartbeats 4000000 in
theorem arnLead_any (A : Option Addr) (n c : Nat) (rs : List Rec3) (fr i : Int) (w : World) (hx : Rs w A n c rs) (hn : n ≤ 16384) :
    Calls Try.prog 47 #[.agg #[.slice A n c, .int .i64 fr], .int .i64 i] w (YesPost w (leadOk rs i)) := by
  have RX := Lib.hid hx
  have TK := Lib.hid (fun (W : World) (h : Rs W A n c rs) => arnTaken_any A n c rs fr i W h hn)
  clear hx
  obtain ⟨v1, hv1⟩ : ∃ W, w.alloc (.cells #[.slice A n c, .int .i64 fr] 24) = W := ⟨_, rfl⟩
  have fr1 : Fr w v1 w.heap.size [.cells #[.slice A n c, .int .i64 fr] 24] := hv1 ▸ Fr.first w _
  have z1 : v1.heap.size = w.heap.size + 1 := by rw [← hv1, Fr.size1]
  generalize hq : w.heap.size = q at *
  have FR := Lib.hid fr1
  clear fr1
  by_cases h0 : i = -1
  · have b0 : (i == -1) = true := by simpa using h0
    have HE := Lib.hid (show leadOk rs i = true from leadOk_iff.2 (Or.inl h0))
    clear h0
    go_enter Try.func47, Try.ntmps47
    go_wp2
    go_ret
    rw [HE.out]
    exact ⟨rfl, FR.out.out⟩
  · have b0 : (i == -1) = false := by simpa using h0
    have HE := Lib.hid (show leadOk rs i = takenS rs i by unfold leadOk; rw [decide_eq_false h0, Bool.false_or])
    have TK2 := Lib.hid (TK.out _ (FR.out.es RX.out))
    clear h0
    generalize takenS rs i = tk at *
    go_enter Try.func47, Try.ntmps47
    have c00 : v1.cell? ⟨q, 0, none⟩ = some (.slice A n c) := FR.out.cell 0 0 rfl rfl rfl
    have c01 : v1.cell? ⟨q, 1, none⟩ = some (.int .i64 fr) := FR.out.cell 0 1 rfl rfl rfl
    go_wp2_with fail
    refine (TK2.out).mono ?_
    rintro e w2 ⟨rfl, hb⟩
    clear c00 c01
    replace FR := Lib.hid (FR.out.step hb)
    clear hb
    go_wp2
    go_ret
    rw [HE.out]
    exact ⟨rfl, FR.out.out⟩
theorem walkP_end {rs : List Rec3} {f : Nat} {at_ : Int} {out : List Int} (h : at_ = -1) : walkP rs f at_ out = some out := by
  cases f with
  | zero => unfold walkP; rw [if_pos h]
  | succ f => unfold walkP; rw [if_pos h]
theorem walkP_bad {rs : List Rec3} {f : Nat} {at_ : Int} {out : List Int} (h0 : at_ ≠ -1) (h : badP rs at_) : walkP rs f at_ out = none := by
  cases f with
  | zero => unfold walkP; rw [if_neg h0]
  | succ f => unfold walkP; rw [if_neg h0, if_pos h]
theorem walkP_full {rs : List Rec3} {at_ : Int} {out : List Int} (h0 : at_ ≠ -1) : walkP rs 0 at_ out = none := by unfold walkP; rw [if_neg h0]
theorem walkP_step {rs : List Rec3} {f g : Nat} {at_ : Int} {out : List Int} (hf : f = g + 1) (h0 : at_ ≠ -1) (h : ¬ badP rs at_) : walkP rs f at_ out = walkP rs g (recAt rs at_).2.2 (out ++ [at_]) := by
  subst hf
  conv => lhs; unfold walkP
  rw [if_neg h0, if_neg h]
set_option maxRecDepth 100000 in
set_option maxHeartbeats 4000000 in
theorem arnList_any (A : Option Addr) (n c : Nat) (rs : List Rec3) (fr : Int) (w : World) (hx : Rs w A n c rs) (hn : n ≤ 16384) :
    Calls Try.prog 48 #[.agg #[.slice A n c, .int .i64 fr]] w (WalkPost w (rs, fr)) := by
  obtain ⟨i5, hi5, hz0, hz1, hz2⟩ := info_of infoInt
  have HI := Lib.hid hi5; have HZ0 := Lib.hid hz0; have HZ1 := Lib.hid hz1; have HZ2 := Lib.hid hz2
  clear hi5 hz0 hz1 hz2
  have hlen := hx.len
  have RX := Lib.hid hx
  have HL := Lib.hid hlen
  have PL := Lib.hid (fun (W : World) (k : Int) => arnPlace_any A n c fr k W)
  have EM := Lib.hid (fun (W : World) (r : Rec3) => arnEmpty_any r W)
  have HWP := Lib.hid (show walkL (rs, fr) = walkP rs (n - 0) fr [] by rw [← walkP_walkL, hlen]; rfl)
  obtain ⟨p, hp⟩ : ∃ p : Aren, p = (rs, fr) := ⟨_, rfl⟩
  have HPN := Lib.hid (show p.1.length = n by rw [hp]; exact hlen)
  rw [← hp] at HWP ⊢
  clear hlen hx hp
  obtain ⟨v1, hv1⟩ : ∃ W, w.alloc (.cells #[.slice A n c, .int .i64 fr] 24) = W := ⟨_, rfl⟩
  have fr1 : Fr w v1 w.heap.size [.cells #[.slice A n c, .int .i64 fr] 24] := hv1 ▸ Fr.first w _
  have z1 : v1.heap.size = w.heap.size + 1 := by rw [← hv1, Fr.size1]
  generalize hq : w.heap.size = q at *
  have FR := Lib.hid fr1
  clear fr1
  have c00 : v1.cell? ⟨q, 0, none⟩ = some (.slice A n c) := FR.out.cell 0 0 rfl rfl rfl
  have c01 : v1.cell? ⟨q, 1, none⟩ = some (.int .i64 fr) := FR.out.cell 0 1 rfl rfl rfl
  go_enter Try.func48, Try.ntmps48
  go_wp2
  clear c00 c01
  clear hv1
  go_loopw [4, 5] (fun ov av wr => ∃ (out : List Int) (at_ : Int), av = .int .i64 at_ ∧ lenV ov = out.length ∧ out.length ≤ n ∧ Hid (wr.ownsRow (q + 1) 3 1 ov out.length (intC out)) ∧ Hid (Fr w wr q [.cells #[.slice A n c, .int .i64 fr] 24]) ∧ Hid (walkL p = walkP rs (n - out.length) at_ out)) (fun ov _ _ => n - lenV ov)
  case atStart => exact ⟨[], fr, rfl, rfl, by simp, World.ownsRow_nil _ _ _ _, FR.out, HWP.out⟩
  case round =>
    clear FR HWP
    obtain ⟨out, at_, rfl, hlv, hol, OW, FR, HW⟩ := hrel
    have hlv2 := hlv
    obtain ⟨B, d, rfl, his⟩ := Es.of_own OW.out (intC_one _)
    have HIS := Lib.hid (show Is wr B out.length d out from his)
    clear his hlv hlv2
    by_cases h1 : at_ = -1
    · have b0 : (at_ != -1) = false := by simp [h1]
      have HR := Lib.hid (show walkL p = some out by rw [HW.out]; exact walkP_end h1)
      clear h1
      go_wp2
      go_ret2
      exact ⟨_, _, _, _, out, rfl, HIS.out, Or.inl ⟨HR.out, walkL_places HR.out, rfl⟩, FR.out.out⟩
    · have b0 : (at_ != -1) = true := by simp [h1]
      have fin : ∀ W, walkL p = none → Fr w W q [.cells #[.slice A n c, .int .i64 fr] 24] → WalkPost w p (.returned (.tuple #[.slice none 0 0, .bool false])) W := fun W hn hf => ⟨_, _, _, _, [], rfl, Es.nil _ _ _ _, Or.inr ⟨hn, rfl, rfl⟩, hf.out⟩
      have FIN := Lib.hid fin
      clear fin
      by_cases hin : 0 ≤ at_ ∧ at_ < (n : Int)
      · have PL2 := PL.out wr at_
        rw [decide_eq_true hin.1, decide_eq_true hin.2] at PL2
        replace PL2 := Lib.hid PL2
        obtain ⟨i, rfl⟩ : ∃ j : Nat, at_ = j := ⟨at_.toNat, by omega⟩
        have hi0 : (0 : Int) ≤ (i : Int) := hin.1
        have hi1 : (i : Int) < (n : Int) := hin.2
        cases hem : emptyR (recAt rs i)
        · have HR := Lib.hid (show walkL p = none by rw [HW.out]; exact walkP_bad h1 (Or.inr (Or.inr hem)))
          have EM2 := fun W => EM.out W (recAt rs i)
          rw [hem] at EM2
          replace EM2 := Lib.hid EM2
          clear h1 hin hem OW HIS
          have c00 : wr.cell? ⟨q, 0, none⟩ = some (.slice A n c) := FR.out.cell 0 0 rfl rfl rfl
          have c01 : wr.cell? ⟨q, 1, none⟩ = some (.int .i64 fr) := FR.out.cell 0 1 rfl rfl rfl
          go_wp2_with fail
          refine (PL2.out).mono ?_
          rintro e w2 ⟨rfl, hb⟩
          clear c00 c01
          replace FR := Lib.hid (FR.out.step hb)
          clear hb
          obtain ⟨b, off, rfl, hb0, k0, k1, k2⟩ := Rs.look (rs := rs) (FR.out.es RX.out) i (by omega)
          clear hb0
          generalize hrr : recAt rs i = r at *
          have c00 : w2.cell? ⟨q, 0, none⟩ = some (.slice (some ⟨b, off, none⟩) n c) := FR.out.cell 0 0 rfl rfl rfl
          have c01 : w2.cell? ⟨q, 1, none⟩ = some (.int .i64 fr) := FR.out.cell 0 1 rfl rfl rfl
          go_wp2_with fail
          refine (EM2.out _).mono ?_
          rintro e w3 ⟨rfl, hb⟩
          clear c00 c01
          replace FR := Lib.hid (FR.out.step hb)
          clear hb
          clear k0 k1 k2
          go_wp2
          go_ret2
          exact FIN.out _ HR.out FR.out
        · have EM2 := fun W => EM.out W (recAt rs i)
          rw [hem] at EM2
          replace EM2 := Lib.hid EM2
          by_cases hfull : out.length = n
          · have HR := Lib.hid (show walkL p = none by rw [HW.out, hfull, Nat.sub_self]; exact walkP_full h1)
            have b1 : ((out.length : Int) == (n : Int)) = true := by simp; omega
            clear h1 hin hem OW
            have c00 : wr.cell? ⟨q, 0, none⟩ = some (.slice A n c) := FR.out.cell 0 0 rfl rfl rfl
            have c01 : wr.cell? ⟨q, 1, none⟩ = some (.int .i64 fr) := FR.out.cell 0 1 rfl rfl rfl
            go_wp2_with fail
            refine (PL2.out).mono ?_
            rintro e w2 ⟨rfl, hb⟩
            clear c00 c01
            replace FR := Lib.hid (FR.out.step hb)
            replace HIS := Lib.hid (Es.below HIS.out hb)
            clear hb
            obtain ⟨b, off, rfl, hb0, k0, k1, k2⟩ := Rs.look (rs := rs) (FR.out.es RX.out) i (by omega)
            clear hb0
            generalize hrr : recAt rs i = r at *
            have c00 : w2.cell? ⟨q, 0, none⟩ = some (.slice (some ⟨b, off, none⟩) n c) := FR.out.cell 0 0 rfl rfl rfl
            have c01 : w2.cell? ⟨q, 1, none⟩ = some (.int .i64 fr) := FR.out.cell 0 1 rfl rfl rfl
            go_wp2_with fail
            refine (EM2.out _).mono ?_
            rintro e w3 ⟨rfl, hb⟩
            clear c00 c01
            replace FR := Lib.hid (FR.out.step hb)
            replace HIS := Lib.hid (Es.below HIS.out hb)
            clear hb
            clear k0 k1 k2
            have c00 : w3.cell? ⟨q, 0, none⟩ = some (.slice (some ⟨b, off, none⟩) n c) := FR.out.cell 0 0 rfl rfl rfl
            have c01 : w3.cell? ⟨q, 1, none⟩ = some (.int .i64 fr) := FR.out.cell 0 1 rfl rfl rfl
            go_wp2
            go_ret2
            exact FIN.out _ HR.out FR.out
          · have b1 : ((out.length : Int) == (n : Int)) = false := by simp; omega
            have hlt : out.length < n := by omega
            have HW2 := Lib.hid (show walkL p = walkP rs (n - (out.length + 1)) (recAt rs i).2.2 (out ++ [(i : Int)]) by rw [HW.out]; exact walkP_step (by omega) h1 (by unfold badP; rw [HL.out, hem]; simp; omega))
            clear h1 hem hin HW hfull
            have c00 : wr.cell? ⟨q, 0, none⟩ = some (.slice A n c) := FR.out.cell 0 0 rfl rfl rfl
            have c01 : wr.cell? ⟨q, 1, none⟩ = some (.int .i64 fr) := FR.out.cell 0 1 rfl rfl rfl
            go_wp2_with fail
            refine (PL2.out).mono ?_
            rintro e w2 ⟨rfl, hb⟩
            clear c00 c01
            replace FR := Lib.hid (FR.out.step hb)
            replace OW := Lib.hid (own_below OW.out hb)
            clear hb
            obtain ⟨b, off, rfl, hb0, k0, k1, k2⟩ := Rs.look (rs := rs) (FR.out.es RX.out) i (by omega)
            clear hb0
            generalize hrr : recAt rs i = r at *
            have c00 : w2.cell? ⟨q, 0, none⟩ = some (.slice (some ⟨b, off, none⟩) n c) := FR.out.cell 0 0 rfl rfl rfl
            have c01 : w2.cell? ⟨q, 1, none⟩ = some (.int .i64 fr) := FR.out.cell 0 1 rfl rfl rfl
            go_wp2_with fail
            refine (EM2.out _).mono ?_
            rintro e w3 ⟨rfl, hb⟩
            clear c00 c01
            replace FR := Lib.hid (FR.out.step hb)
            replace OW := Lib.hid (own_below OW.out hb)
            clear hb
            clear k0 k1 k2
            have hsz := FR.out.sz
            simp only [List.length_cons, List.length_nil] at hsz
            obtain ⟨A4, c4, w9, hap4, hown4, hbel4⟩ := eapp_lit (P := Try.prog) (ty := 37) (w0 := w3) Try.underlying37 HI.out HZ0.out HZ1.out HZ2.out rfl (by decide) OW.out (intC_one _) (intC [(i : Int)]) (intC_one _) (m := 1) rfl (by unfold maxLen; omega) (by omega) (Below.refl _ _) (by omega)
            rw [← intC_app] at hown4
            have fr4 : Fr w w9 q [.cells #[.slice (some ⟨b, off, none⟩) n c, .int .i64 fr] 24] := ⟨fun k o hk => (hbel4.block (q + k) (by have : k < 1 := (List.getElem?_eq_some_iff.1 hk).1; omega)).trans (FR.out.blk k o hk), FR.out.bel.trans (hbel4.mono (by omega)), by have := hbel4.size; simp only [List.length_cons, List.length_nil]; omega, FR.out.q0⟩
            have rx4 : Rs w9 _ n c rs := fr4.es RX.out
            replace hap4 : (Builtin.append_ #[37, 37] 37 #[_, .slice (some ⟨w3.heap.size, 0, none⟩) 1 1]).run Try.prog (w3.alloc (.cells #[.int .i64 (i : Int)] 3)) = _ := hap4
            have HO4 := Lib.hid hown4; have FR4 := Lib.hid fr4
            obtain ⟨b', off', he, hb0', _, _, k24⟩ := Rs.look rx4 i (by omega)
            injection he with he; injection he with he1 he2; subst he1; subst he2
            rw [hrr] at k24
            have d00 : w9.cell? ⟨q, 0, none⟩ = some (.slice (some ⟨b, off, none⟩) n c) := FR4.out.cell 0 0 rfl rfl rfl
            have c00 : w3.cell? ⟨q, 0, none⟩ = some (.slice (some ⟨b, off, none⟩) n c) := FR.out.cell 0 0 rfl rfl rfl
            have c01 : w3.cell? ⟨q, 1, none⟩ = some (.int .i64 fr) := FR.out.cell 0 1 rfl rfl rfl
            clear hown4 hbel4 fr4 rx4 hb0' OW hrr
            go_wp2_with (at_builtin; refine eapp_run (by rfl) rfl rfl rfl hap4 ?_)
            go_roundw
            case rel => exact ⟨out ++ [(i : Int)], r.2.2, rfl, by simp [lenV], by rw [List.length_append]; simp; omega, by rw [List.length_append]; exact HO4.out, FR4.out, by rw [List.length_append]; exact HW2.out⟩
            case measure => simp [lenV]; omega
      · have hb1 : (decide (0 ≤ at_) && decide (at_ < (n : Int))) = false := by rw [← Bool.decide_and]; exact decide_eq_false hin
        have PL2 := PL.out wr at_
        rw [hb1] at PL2
        replace PL2 := Lib.hid PL2
        have HR := Lib.hid (show walkL p = none by rw [HW.out]; exact walkP_bad h1 (by unfold badP; rw [HL.out]; omega))
        clear h1 hin hb1 OW HIS
        have c00 : wr.cell? ⟨q, 0, none⟩ = some (.slice A n c) := FR.out.cell 0 0 rfl rfl rfl
        have c01 : wr.cell? ⟨q, 1, none⟩ = some (.int .i64 fr) := FR.out.cell 0 1 rfl rfl rfl
        go_wp2_with fail
        refine (PL2.out).mono ?_
        rintro e w2 ⟨rfl, hb⟩
        clear c00 c01
        replace FR := Lib.hid (FR.out.step hb)
        clear hb
        go_wp2
        go_ret2
        exact FIN.out _ HR.out FR.out
end Go.Proofs.Ytombfempdfdeoaa
