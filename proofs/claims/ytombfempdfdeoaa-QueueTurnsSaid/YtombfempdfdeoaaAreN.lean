/- Plain mathematics of layer 7: what is made is free, all of it; who takes and gives back; no condition but those in each theorem. -/
import Derived.Test.YtombfempdfdeoaaAreH
import Derived.Test.YtombfempdfdeoaaAreM
namespace Go.Proofs.Ytombfempdfdeoaa
set_option linter.unusedVariables false
set_option linter.unusedSimpArgs false
open Go.RowKit

/-- numbers, one behind the other. -/
def upTo (k : Nat) : Nat → List Int
  | 0 => []
  | m + 1 => (k : Int) :: upTo (k + 1) m
theorem upTo_len : ∀ (m k : Nat), (upTo k m).length = m
  | 0, _ => rfl
  | m + 1, k => by simp [upTo, upTo_len m]
theorem upTo_mem : ∀ (m k : Nat) (x : Int), x ∈ upTo k m ↔ (k : Int) ≤ x ∧ x < (k : Int) + (m : Int)
  | 0, k, x => by simp [upTo] <;> omega
  | m + 1, k, x => by
    simp only [upTo, List.mem_cons, upTo_mem m]
    omega
theorem upTo_nodup : ∀ (m k : Nat), (upTo k m).Nodup
  | 0, _ => List.nodup_nil
  | m + 1, k => List.nodup_cons.2 ⟨by rw [upTo_mem]; omega, upTo_nodup m (k + 1)⟩
theorem freshL_at : ∀ (m a j : Nat), j < m → recAt (freshL a m) (j : Nat) = (-1, -1, if j + 1 = m then -1 else (a : Int) + (j : Int) + 1)
  | 0, _, _, h => by omega
  | m + 1, a, 0, _ => by
    rw [freshL_more]
    unfold recAt
    simp only [Int.toNat_natCast, List.getD, List.getElem?_cons_zero, Option.getD_some]
    by_cases h : m = 0 <;> simp [h]
  | m + 1, a, j + 1, h => by
    rw [freshL_more]
    have e : recAt ((-1, -1, if m = 0 then -1 else (a : Int) + 1) :: freshL (a + 1) m) ((j + 1 : Nat) : Int) = recAt (freshL (a + 1) m) (j : Nat) := by
      unfold recAt
      rw [Int.toNat_natCast, Int.toNat_natCast]; rfl
    rw [e, freshL_at m (a + 1) j (by omega)]
    by_cases h1 : j + 1 = m
    · rw [if_pos h1, if_pos (by omega)]
    · rw [if_neg h1, if_neg (by omega)]
      congr 2
      omega
theorem fresh_chain {n : Nat} : ∀ (m k : Nat), k + m = n → Chain (freshL 0 n) (if m = 0 then -1 else (k : Int)) (upTo k m)
  | 0, k, _ => rfl
  | m + 1, k, h => by
    have hr := freshL_at n 0 k (by omega)
    refine ⟨if_neg (Nat.succ_ne_zero m), by omega, by rw [freshL_len]; omega, by rw [hr], by rw [hr], ?_⟩
    have := fresh_chain (n := n) m (k + 1) (by omega)
    rw [hr]
    simp only
    by_cases h0 : m = 0
    · subst h0
      rw [show (if k + 1 = n then (-1 : Int) else ((0 : Nat) : Int) + (k : Int) + 1) = -1 from if_pos (by omega)]; rfl
    · rw [show (if k + 1 = n then (-1 : Int) else ((0 : Nat) : Int) + (k : Int) + 1) = ((0 : Nat) : Int) + (k : Int) + 1 from if_neg (by omega)]
      rw [if_neg h0] at this
      rw [show ((0 : Nat) : Int) + (k : Int) + 1 = ((k + 1 : Nat) : Int) by omega]
      exact this
/-- what is made. -/
theorem make_ok {n : Nat} (h : n ≤ 64) : arMake n = ((freshL 0 n, if n = 0 then -1 else 0), 0) ∧ Ok (freshL 0 n, if n = 0 then -1 else 0) (upTo 0 n) := by
  refine ⟨?_, ?_, ?_, upTo_nodup n 0, ?_⟩
  · unfold arMake
    rw [if_neg (by omega), Int.toNat_natCast]
    by_cases h0 : n = 0
    · subst h0; rfl
    · rw [if_neg (by omega), if_neg h0]
  · simp only [freshL_len]; exact h
  · exact fresh_chain n 0 (by omega)
  · intro i hi
    simp only [freshL_len] at hi
    left
    rw [upTo_mem]; omega
theorem make_err {n : Int} (h : (arMake n).2 ≠ 0) : arMake n = (([], 0), 1) := by
  unfold arMake at h ⊢
  split
  · rfl
  · rename_i h1; rw [if_neg h1] at h; exact absurd rfl h
theorem make_cases (n : Int) : arMake n = (([], 0), 1) ∨ ∃ k : Nat, n = k ∧ k ≤ 64 := by
  by_cases h : n < 0 ∨ 64 < n
  · left; unfold arMake; rw [if_pos h]
  · right; exact ⟨n.toNat, by omega, by omega⟩
/-- who takes and gives back: the arena, and what is taken. -/
structure Turn (size : Nat) (p : Aren) (l T : List Int) : Prop where
  ok : Ok p l
  len : p.1.length = size
  nodup : T.Nodup
  apart : ∀ x ∈ T, x ∉ l
  all : ∀ x : Int, 0 ≤ x → x < (size : Int) → x ∈ l ∨ x ∈ T
  inside : ∀ x ∈ T, 0 ≤ x ∧ x < (size : Int)
  ends : ∀ x ∈ T, (recAt p.1 x).2.2 = -1
  sum : l.length + T.length = size
theorem Turn.first {n : Nat} (h : n ≤ 64) : Turn n (freshL 0 n, if n = 0 then -1 else 0) (upTo 0 n) [] :=
  ⟨(make_ok h).2, freshL_len n 0, List.nodup_nil, by simp, fun x h0 h1 => Or.inl ((upTo_mem n 0 x).2 (by omega)), by simp, by simp, by simp [upTo_len]⟩
theorem Turn.live {size : Nat} {p : Aren} {l T : List Int} (h : Turn size p l T) {x : Int} : liveS p x = true ↔ x ∈ T := by
  rw [h.ok.live, h.len]
  constructor
  · rintro ⟨h0, h1, h2⟩
    exact (h.all x h0 h1).resolve_left h2
  · intro hx
    have := h.inside x hx
    exact ⟨this.1, this.2, h.apart x hx⟩
theorem Turn.take {size : Nat} {p : Aren} {l T : List Int} (h : Turn size p l T) {k : Int} (hk : 0 ≤ k) :
    (size ≤ T.length ∧ arTake p k k = (p, 0, 6)) ∨
    (T.length < size ∧ ∃ (q : Aren) (i : Int) (l' : List Int), arTake p k k = (q, i, 0) ∧ i ∉ T ∧ Turn size q l' (T ++ [i])) := by
  rcases take_ok h.ok hk hk with ⟨rfl, he⟩ | ⟨i, l', rfl, hi, h1, h2, hp, he, hx⟩
  · left
    exact ⟨by have := h.sum; simp at this; omega, he⟩
  · right
    have hn := List.nodup_cons.1 h.ok.nodup
    refine ⟨by have := h.sum; simp at this; omega, _, _, l', he, fun hm => h.apart _ hm (by simp), hx, by rw [List.length_set]; exact h.len, ?_, ?_, ?_, ?_, ?_, ?_⟩
    · refine List.nodup_append.2 ⟨h.nodup, by simp, fun a ha b hb => ?_⟩
      simp at hb; subst hb; intro e; subst e; exact h.apart _ ha (by simp)
    · intro x hx2
      rcases List.mem_append.1 hx2 with hx2 | hx2
      · exact fun hm => h.apart x hx2 (by simp [hm])
      · simp at hx2; subst hx2; exact hn.1
    · intro x h0 h1
      rcases h.all x h0 h1 with hm | hm
      · rcases List.mem_cons.1 hm with hm | hm
        · right; simp [hm]
        · exact Or.inl hm
      · right; simp [hm]
    · intro x hx2
      rcases List.mem_append.1 hx2 with hx2 | hx2
      · exact h.inside x hx2
      · simp at hx2; subst hx2; exact ⟨by omega, by have := h.len; omega⟩
    · intro x hx2
      have h0 : 0 ≤ x := by
        rcases List.mem_append.1 hx2 with hx2 | hx2
        · exact (h.inside x hx2).1
        · simp at hx2; omega
      rw [recAt_set h0]
      split
      · rfl
      · rename_i hne
        rcases List.mem_append.1 hx2 with hx2 | hx2
        · exact h.ends x hx2
        · simp at hx2; exact absurd ⟨hx2, hi⟩ hne
    · have := h.sum
      simp at this ⊢; omega
theorem Turn.give {size : Nat} {p : Aren} {l T : List Int} (h : Turn size p l T) {k : Nat} (hk : k < T.length) :
    ∃ q : Aren, arGive p (T[k]) = (q, 0) ∧ ∃ l', Turn size q l' (T.take k ++ T.drop (k + 1)) := by
  have hm : T[k] ∈ T := List.getElem_mem hk
  obtain ⟨g0, g1⟩ := h.inside _ hm
  obtain ⟨i, hi⟩ : ∃ i : Nat, T[k] = i := ⟨T[k].toNat, by omega⟩
  rw [hi] at hm g0 g1 ⊢
  have hlive := h.live.2 hm
  have hno : ¬ leadsTo p i p.1.length := by
    rintro ⟨j, hj, hjl, hjn⟩
    have := h.ends j (h.live.1 hjl)
    omega
  obtain ⟨he, hok⟩ := give_ok h.ok hlive hno
  have hT : T = T.take k ++ (i : Int) :: T.drop (k + 1) := by
    rw [← hi, ← List.drop_eq_getElem_cons hk, List.take_append_drop]
  have hnd : (T.take k ++ (i : Int) :: T.drop (k + 1)).Nodup := hT ▸ h.nodup
  obtain ⟨n1, n2, n3⟩ := List.nodup_append.1 hnd
  obtain ⟨n4, n5⟩ := List.nodup_cons.1 n2
  have hsub : ∀ x ∈ T.take k ++ T.drop (k + 1), x ∈ T ∧ x ≠ (i : Int) := by
    intro x hx
    rcases List.mem_append.1 hx with hx | hx
    · exact ⟨List.mem_of_mem_take hx, fun e => n3 x hx (i : Int) (by simp) e⟩
    · exact ⟨List.mem_of_mem_drop hx, fun e => n4 (e ▸ hx)⟩
  refine ⟨_, he, (i : Int) :: l, hok, by simp only [List.length_set]; exact h.len, ?_, ?_, ?_, ?_, ?_, ?_⟩
  · exact List.nodup_append.2 ⟨n1, n5, fun a ha b hb => n3 a ha b (by simp [hb])⟩
  · intro x hx hml
    obtain ⟨h1, h2⟩ := hsub x hx
    rcases List.mem_cons.1 hml with hml | hml
    · exact h2 hml
    · exact h.apart x h1 hml
  · intro x h0 h1
    rcases h.all x h0 h1 with hx | hx
    · left; simp [hx]
    · rw [hT] at hx
      rcases List.mem_append.1 hx with hx | hx
      · right; simp [hx]
      · rcases List.mem_cons.1 hx with hx | hx
        · left; simp [hx]
        · right; simp [hx]
  · intro x hx; exact h.inside x (hsub x hx).1
  · intro x hx
    obtain ⟨h1, h2⟩ := hsub x hx
    simp only
    rw [recAt_set (h.inside x h1).1, if_neg (fun h3 => h2 h3.1)]
    exact h.ends x h1
  · have := h.sum
    have h4 := congrArg List.length hT
    simp only [List.length_append, List.length_cons] at h4 ⊢
    omega
end Go.Proofs.Ytombfempdfdeoaa
