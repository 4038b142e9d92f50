/- Plain mathematics of layer 11: tickets from whatever number on, told as they were given; no condition but those in each theorem. -/
import Derived.Test.YtjpgmkbcjedhfaaNotE
namespace Go.Proofs.Ytjpgmkbcjedhfaa
set_option linter.unusedVariables false
set_option linter.unusedSimpArgs false
open Go.RowKit

/-- the ticket that is so far behind the first one. -/
def tick (from_ k : Int) : Int := (from_ + k) % 4294967296
def tws (from_ : Int) (L : List Int) : List Wt := L.map fun k => (tick from_ k, k)
theorem tws_len (from_ : Int) (L : List Int) : (tws from_ L).length = L.length := by simp [tws]
theorem tick_far {from_ : Int} {a b : Int} (h0 : a ≤ b) (h1 : b - a < 4294967296) : far (tick from_ a) (tick from_ b) = b - a := by unfold far tick; omega
theorem tick_back {from_ : Int} {a b : Int} (h0 : b < a) (h1 : a - b < 4294967296) : far (tick from_ a) (tick from_ b) = 4294967296 - (a - b) := by unfold far tick; omega
theorem tick_one {from_ : Int} {a b : Int} (h0 : a - b < 4294967296) (h1 : b - a < 4294967296) : tick from_ a = tick from_ b ↔ a = b := by unfold tick; omega
theorem tick_next (from_ k : Int) : next32 (tick from_ k) = tick from_ (k + 1) := by unfold next32 tick; omega
theorem tick_ge (from_ k : Int) : 0 ≤ tick from_ k ∧ tick from_ k < 4294967296 := by unfold tick; omega
theorem tws_at (from_ : Int) {L : List Int} {i : Nat} (h : i < L.length) : ∃ k, L[i]? = some k ∧ k ∈ L ∧ wtAt (tws from_ L) i = (tick from_ k, k) := by
  refine ⟨L[i], List.getElem?_eq_getElem h, List.getElem_mem h, ?_⟩
  unfold wtAt tws
  rw [List.getD_eq_getElem?_getD, List.getElem?_map, List.getElem?_eq_getElem h]; rfl
/-- so many tickets were given, so many told; who waits. -/
structure TN (from_ : Int) (g t : Nat) (wa to : Int) (ws : List Wt) (L : List Int) : Prop where
  wa : wa = tick from_ g
  to : to = tick from_ t
  le : t ≤ g
  small : g ≤ 60
  ws : ws = tws from_ L
  in_ : ∀ k ∈ L, (t : Int) ≤ k ∧ k < (g : Int)
  nd : L.Nodup
  len : L.length ≤ 12
section
variable {from_ : Int} {g t : Nat} {wa to : Int} {ws : List Wt} {L : List Int}
theorem TN.first (h0 : 0 ≤ from_) (h1 : from_ < 4294967296) : TN from_ 0 0 from_ from_ [] [] := ⟨by unfold tick; omega, by unfold tick; omega, Nat.le_refl _, by omega, rfl, by simp, List.nodup_nil, by simp⟩
theorem TN.nb (h : TN from_ g t wa to ws L) : NB (wa, to, ws) := by
  have a := tick_ge from_ g; have b := tick_ge from_ t
  have c := h.wa; have d := h.to
  refine ⟨by show 0 ≤ wa; omega, by show wa < _; omega, by show 0 ≤ to; omega, by show to < _; omega, fun x hx => ?_, fun x hx => ?_⟩
  · have hx : x ∈ ws := hx
    rw [h.ws] at hx
    obtain ⟨k, _, rfl⟩ := List.mem_map.1 hx
    exact tick_ge from_ k
  · have hx : x ∈ ws := hx
    rw [h.ws] at hx
    obtain ⟨k, hk, rfl⟩ := List.mem_map.1 hx
    have h1 := h.in_ k hk; have h2 := h.small
    show _ ≤ k ∧ k < _
    omega
theorem TN.fr (h : TN from_ g t wa to ws L) : far to wa = (g : Int) - (t : Int) := by
  have := h.le; have := h.small
  rw [h.wa, h.to, tick_far (by omega) (by omega)]
theorem TN.out (h : TN from_ g t wa to ws L) {k : Int} (h0 : 0 ≤ k) (h1 : k ≤ 100) : outN (wa, to, ws) (tick from_ k) = decide ((t : Int) ≤ k ∧ k < (g : Int)) := by
  have := h.le; have := h.small
  unfold outN
  refine decide_eq_decide.2 ?_
  show far to (tick from_ k) < far to wa ↔ _
  rw [h.fr, h.to]
  rcases Int.lt_or_le k t with h2 | h2
  · rw [tick_back h2 (by omega)]; omega
  · rw [tick_far h2 (by omega)]; omega
theorem TN.right (h : TN from_ g t wa to ws L) : rightN (wa, to, ws) = true := by
  have hle := h.le; have hsm := h.small
  refine rightN_iff.2 ⟨by show far to wa ≤ 1000; rw [h.fr]; omega, by show ws.length ≤ 12; rw [h.ws, tws_len]; exact h.len, fun i hi => ?_⟩
  have hi : i < ws.length := hi
  have hws := h.ws
  rw [hws, tws_len] at hi
  obtain ⟨k, hk, hkm, hat⟩ := tws_at from_ hi
  have hb := h.in_ k hkm
  refine ⟨?_, ?_, fun j hj => ?_⟩
  · show 0 ≤ (wtAt ws i).2; rw [hws, hat]; show 0 ≤ k; omega
  · show outP (wa, to, ws) (wtAt ws i).1
    rw [hws, hat]
    have := h.out (k := k) (by omega) (by omega)
    rw [decide_eq_true hb] at this
    rw [← hws]; exact of_decide_eq_true this
  · obtain ⟨k', hk', hkm', hat'⟩ := tws_at from_ (L := L) (i := j) (by omega)
    have hb' := h.in_ k' hkm'
    show (wtAt ws j).1 ≠ (wtAt ws i).1 ∧ (wtAt ws j).2 ≠ (wtAt ws i).2
    rw [hws, hat, hat']
    have hne : k' ≠ k := by
      obtain ⟨hi1, e1⟩ := List.getElem?_eq_some_iff.1 hk
      obtain ⟨hj1, e2⟩ := List.getElem?_eq_some_iff.1 hk'
      have := List.pairwise_iff_getElem.1 h.nd j i hj1 hi1 hj
      rw [e1, e2] at this; exact this
    exact ⟨fun e => hne ((tick_one (from_ := from_) (by omega) (by omega)).1 e), hne⟩
theorem TN.add (h : TN from_ g t wa to ws L) (hg : g < 60) : addN (wa, to, ws) = ((tick from_ ((g + 1 : Nat) : Int), to, ws), tick from_ g, 0) ∧ TN from_ (g + 1) t (tick from_ ((g + 1 : Nat) : Int)) to ws L := by
  have hle := h.le
  refine ⟨?_, ⟨rfl, h.to, by omega, by omega, h.ws, fun k hk => by have := h.in_ k hk; omega, h.nd, h.len⟩⟩
  unfold addN
  rw [if_neg (by rw [h.right]; simp), if_neg (by show ¬ far to wa = 1000; rw [h.fr]; omega)]
  show ((next32 wa, to, ws), wa, 0) = _
  rw [h.wa, tick_next]
  norm_cast
theorem tws_any {k : Int} (hin : ∀ j ∈ L, 0 ≤ j ∧ j ≤ 100) (h0 : 0 ≤ k) (h1 : k ≤ 100) : anyW (tws from_ L) (tick from_ k) k (tws from_ L).length ↔ k ∈ L := by
  constructor
  · rintro ⟨i, hi, h2⟩
    rw [tws_len] at hi
    obtain ⟨j, _, hj, hat⟩ := tws_at from_ hi
    rw [hat] at h2
    have hb := hin j hj
    rcases h2 with h2 | h2
    · have : j = k := (tick_one (from_ := from_) (by omega) (by omega)).1 h2
      exact this ▸ hj
    · have h2 : j = k := h2
      exact h2 ▸ hj
  · intro hk
    obtain ⟨i, hi, e⟩ := List.mem_iff_getElem.1 hk
    obtain ⟨j, hj, _, hat⟩ := tws_at from_ hi
    rw [List.getElem?_eq_getElem hi, e] at hj
    injection hj with hj
    exact ⟨i, by rw [tws_len]; exact hi, Or.inr (by rw [hat, ← hj])⟩
theorem TN.park (h : TN from_ g t wa to ws L) {k : Int} (h0 : 0 ≤ k) (h1 : k ≤ 100) :
    parkN (wa, to, ws) (tick from_ k) k = (if ¬ ((t : Int) ≤ k ∧ k < (g : Int)) then ((wa, to, ws), 1) else if k ∈ L then ((wa, to, ws), 8) else if 12 ≤ L.length then ((wa, to, ws), 6) else ((wa, to, ws ++ [(tick from_ k, k)]), 0)) := by
  have hle := h.le; have hsm := h.small
  unfold parkN
  rw [h.right, h.out h0 h1]
  by_cases h2 : (t : Int) ≤ k ∧ k < (g : Int)
  · rw [decide_eq_true h2, if_neg (by simp; omega), if_neg (show ¬ ¬ ((t : Int) ≤ k ∧ k < (g : Int)) from fun hh => hh h2)]
    have ha : anyW (wa, to, ws).2.2 (tick from_ k) k (wa, to, ws).2.2.length ↔ k ∈ L := by
      show anyW ws (tick from_ k) k ws.length ↔ k ∈ L
      rw [h.ws]
      exact tws_any (fun j hj => by have := h.in_ j hj; omega) h0 h1
    by_cases h3 : k ∈ L
    · rw [if_pos (ha.2 h3), if_pos h3]
    · rw [if_neg (fun hh => h3 (ha.1 hh)), if_neg h3]
      have hl : (wa, to, ws).2.2.length = L.length := by show ws.length = _; rw [h.ws, tws_len]
      rw [hl]
  · rw [decide_eq_false h2, if_pos (by simp), if_pos h2]
theorem TN.parked (h : TN from_ g t wa to ws L) {k : Int} (h2 : (t : Int) ≤ k ∧ k < (g : Int)) (h3 : k ∉ L) (h4 : L.length < 12) : TN from_ g t wa to (ws ++ [(tick from_ k, k)]) (L ++ [k]) :=
  ⟨h.wa, h.to, h.le, h.small, by rw [h.ws]; simp [tws], fun j hj => by
    rcases List.mem_append.1 hj with hj | hj
    · exact h.in_ j hj
    · simp at hj; subst hj; exact h2, List.nodup_append.2 ⟨h.nd, by simp, fun a ha b hb e => by simp at hb; subst hb; subst e; exact h3 ha⟩, by simp; omega⟩
theorem oneT_tws {k : Int} : ∀ {L : List Int} (acc : Int), (∀ j ∈ L, j - k < 4294967296 ∧ k - j < 4294967296) → oneT (tick from_ k) (tws from_ L) acc = if k ∈ L then k else acc
  | [], acc, _ => by simp [tws, oneT]
  | j :: L, acc, h => by
    have hj := h j (by simp)
    show oneT (tick from_ k) (tws from_ L) (if tick from_ j = tick from_ k then j else acc) = _
    rw [oneT_tws _ (fun i hi => h i (by simp [hi]))]
    by_cases e : j = k
    · subst e; rw [if_pos rfl]; by_cases hm : j ∈ L <;> simp [hm]
    · rw [if_neg (fun hh => e ((tick_one (from_ := from_) hj.1 hj.2).1 hh))]
      by_cases hm : k ∈ L
      · simp [hm]
      · simp [hm, Ne.symm e]
theorem butT_tws {k : Int} : ∀ {L : List Int}, (∀ j ∈ L, j - k < 4294967296 ∧ k - j < 4294967296) → butT (tick from_ k) (tws from_ L) = tws from_ (wo11 k L)
  | [], _ => rfl
  | j :: L, h => by
    have hj := h j (by simp)
    show (if tick from_ j = tick from_ k then butT (tick from_ k) (tws from_ L) else (tick from_ j, j) :: butT (tick from_ k) (tws from_ L)) = _
    rw [butT_tws (fun i hi => h i (by simp [hi]))]
    by_cases e : j = k
    · subst e; rw [if_pos rfl, show wo11 j (j :: L) = wo11 j L from if_pos rfl]
    · rw [if_neg (fun hh => e ((tick_one (from_ := from_) hj.1 hj.2).1 hh)), show wo11 k (j :: L) = j :: wo11 k L from if_neg e]; rfl
theorem wo11_mem {k x : Int} : ∀ {L : List Int}, x ∈ wo11 k L ↔ x ∈ L ∧ x ≠ k
  | [] => by simp [wo11]
  | j :: L => by
    unfold wo11
    split
    · rename_i e; subst e
      rw [wo11_mem]
      constructor
      · rintro ⟨a, b⟩; exact ⟨by simp [a], b⟩
      · rintro ⟨a, b⟩
        rcases List.mem_cons.1 a with a | a
        · exact absurd a b
        · exact ⟨a, b⟩
    · rename_i e
      rw [List.mem_cons, wo11_mem, List.mem_cons]
      constructor
      · rintro (a | ⟨a, b⟩)
        · exact ⟨Or.inl a, a ▸ e⟩
        · exact ⟨Or.inr a, b⟩
      · rintro ⟨a | a, b⟩
        · exact Or.inl a
        · exact Or.inr ⟨a, b⟩
theorem wo11_nodup {k : Int} : ∀ {L : List Int}, L.Nodup → (wo11 k L).Nodup
  | [], _ => List.nodup_nil
  | j :: L, h => by
    obtain ⟨h1, h2⟩ := List.nodup_cons.1 h
    unfold wo11
    split
    · exact wo11_nodup h2
    · exact List.nodup_cons.2 ⟨fun hm => h1 (wo11_mem.1 hm).1, wo11_nodup h2⟩
theorem TN.none (h : TN from_ g t wa to ws L) (e : t = g) : oneN (wa, to, ws) = ((wa, to, ws), 0, 7) := by
  unfold oneN
  rw [if_neg (by rw [h.right]; simp), if_pos (show to = wa by rw [h.wa, h.to, e])]
theorem TN.one (h : TN from_ g t wa to ws L) (hlt : t < g) :
    oneN (wa, to, ws) = ((wa, tick from_ ((t + 1 : Nat) : Int), tws from_ (wo11 t L)), if (t : Int) ∈ L then (t : Int) else -1, 0) ∧ TN from_ g (t + 1) wa (tick from_ ((t + 1 : Nat) : Int)) (tws from_ (wo11 t L)) (wo11 t L) ∧
      toldN (wa, tick from_ ((t + 1 : Nat) : Int), tws from_ (wo11 t L)) (tick from_ t) = true := by
  have hle := h.le; have hsm := h.small
  have hin : ∀ j ∈ L, j - (t : Int) < 4294967296 ∧ (t : Int) - j < 4294967296 := fun j hj => by have := h.in_ j hj; omega
  refine ⟨?_, ⟨h.wa, rfl, by omega, h.small, rfl, fun k hk => ?_, wo11_nodup h.nd, Nat.le_trans (wo11_len _ _) h.len⟩, ?_⟩
  · unfold oneN
    rw [if_neg (by rw [h.right]; simp), if_neg (show ¬ to = wa from fun e => by rw [h.wa, h.to, tick_one (by omega) (by omega)] at e; omega)]
    show ((wa, next32 to, butT to ws), oneT to ws (-1), (0 : Int)) = _
    rw [h.to, h.ws, tick_next, oneT_tws _ hin, butT_tws hin]
    norm_cast
  · have h1 := wo11_mem.1 hk
    have := h.in_ k h1.1
    omega
  · refine decide_eq_true ?_
    show 2147483648 ≤ far (tick from_ ((t + 1 : Nat) : Int)) (tick from_ t)
    rw [tick_back (by omega) (by omega)]; omega
theorem TN.all (h : TN from_ g t wa to ws L) : allN (wa, to, ws) = ((wa, wa, []), L, 0) := by
  unfold allN
  rw [if_neg (by rw [h.right]; simp)]
  show ((wa, wa, ([] : List Wt)), ws.map (·.2), (0 : Int)) = _
  rw [h.ws]
  congr 2
  unfold tws
  rw [List.map_map]
  exact List.map_id _
end
end Go.Proofs.Ytjpgmkbcjedhfaa
