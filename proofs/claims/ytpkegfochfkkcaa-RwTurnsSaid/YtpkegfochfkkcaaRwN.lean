/- Layer 16: tasks that wait and are woken, and who is inside at once: what follows of the invariant; no condition but those in each theorem. -/
import Derived.Test.YtpkegfochfkkcaaRwM
namespace Go.Proofs.Ytpkegfochfkkcaa
set_option linter.unusedVariables false
set_option linter.unusedSimpArgs false
open Go.RowKit
section
variable {w0 w1 w2 w3 w4 w5 : Int} {F : Nat → MFr} {D : Nat → Int} {I W : Nat → Bool} {r1 r2 r3 : List Nat} {t : Nat}
theorem need2_on {b : Bool} (hn : (F t).need ≠ 2) : (fun k => updN W t b k && decide ((F k).need = 2)) = (fun k => W k && decide ((F k).need = 2)) := by
  funext k; by_cases e : k = t
  · subst e; simp [hn]
  · simp only [updN_ne e]
theorem RInv.park3 (h : RInv w0 w1 w2 w3 w4 w5 F D I W r1 r2 r3) (ht : t < 6) (hW : W t = false) (hn : (F t).need = 3) : RInv w0 w1 w2 w3 w4 w5 F D I (updN W t true) r1 (r2 ++ [t]) r3 := by
  have hnt : t ∉ r2 := fun hm => by have := ((h.m2 t).1 hm).2.1; rw [hW] at this; cases this
  refine ⟨by rw [need2_on (by omega)]; exact h.mu, h.ok, h.num, ?_, h.n3, fun k => ?_, fun k => ?_, fun k hk hw => ?_⟩
  · rw [List.nodup_append]; exact ⟨h.n2, List.nodup_cons.2 ⟨by simp, List.nodup_nil⟩, fun a ha b hb e => by rw [List.mem_singleton] at hb; subst hb; subst e; exact hnt ha⟩
  · rw [List.mem_append, List.mem_singleton, h.m2 k]; by_cases e : k = t
    · subst e; simp only [updN_self]; simp [ht, hn]
    · simp only [updN_ne e, e, or_false]
  · rw [h.m3 k]; by_cases e : k = t
    · subst e; simp only [updN_self, hW]; omega
    · simp only [updN_ne e]
  · by_cases e : k = t
    · subst e; exact Or.inr (Or.inl hn)
    · rw [updN_ne e] at hw; exact h.wn k hk hw
theorem RInv.park4 (h : RInv w0 w1 w2 w3 w4 w5 F D I W r1 r2 r3) (ht : t < 6) (hW : W t = false) (hn : (F t).need = 4) : RInv w0 w1 w2 w3 w4 w5 F D I (updN W t true) r1 r2 (r3 ++ [t]) := by
  have hnt : t ∉ r3 := fun hm => by have := ((h.m3 t).1 hm).2.1; rw [hW] at this; cases this
  refine ⟨by rw [need2_on (by omega)]; exact h.mu, h.ok, h.num, h.n2, ?_, fun k => ?_, fun k => ?_, fun k hk hw => ?_⟩
  · rw [List.nodup_append]; exact ⟨h.n3, List.nodup_cons.2 ⟨by simp, List.nodup_nil⟩, fun a ha b hb e => by rw [List.mem_singleton] at hb; subst hb; subst e; exact hnt ha⟩
  · rw [h.m2 k]; by_cases e : k = t
    · subst e; simp only [updN_self, hW]; omega
    · simp only [updN_ne e]
  · rw [List.mem_append, List.mem_singleton, h.m3 k]; by_cases e : k = t
    · subst e; simp only [updN_self]; simp [ht, hn]
    · simp only [updN_ne e, e, or_false]
  · by_cases e : k = t
    · subst e; exact Or.inr (Or.inr hn)
    · rw [updN_ne e] at hw; exact h.wn k hk hw
theorem RInv.pop1 {x : Nat} {rest : List Nat} (h : RInv w0 w1 w2 w3 w4 w5 F D I W (x :: rest) r2 r3) : x < 6 ∧ W x = true ∧ (F x).need = 2 ∧ RInv w0 w1 w2 w3 w4 w5 F D I (updN W x false) rest r2 r3 := by
  obtain ⟨hx, hwx, hm⟩ := h.mu.pop
  rw [Bool.and_eq_true] at hwx
  have hn : (F x).need = 2 := of_decide_eq_true hwx.2
  have e3 : updN (fun k => W k && decide ((F k).need = 2)) x false = (fun k => updN W x false k && decide ((F k).need = 2)) := by
    funext k; by_cases e : k = x
    · subst e; simp only [updN_self, Bool.false_and]
    · simp only [updN_ne e]
  refine ⟨hx, hwx.1, hn, by rw [← e3]; exact hm, h.ok, h.num, h.n2, h.n3, fun k => ?_, fun k => ?_, fun k hk hw => ?_⟩
  · rw [h.m2 k]; by_cases e : k = x
    · subst e; simp only [updN_self]; constructor
      · intro q; omega
      · intro q; cases q.2.1
    · simp only [updN_ne e]
  · rw [h.m3 k]; by_cases e : k = x
    · subst e; simp only [updN_self]; constructor
      · intro q; omega
      · intro q; cases q.2.1
    · simp only [updN_ne e]
  · by_cases e : k = x
    · subst e; rw [updN_self] at hw; cases hw
    · rw [updN_ne e] at hw; exact h.wn k hk hw
theorem RInv.pop2 {x : Nat} {rest : List Nat} (h : RInv w0 w1 w2 w3 w4 w5 F D I W r1 (x :: rest) r3) : x < 6 ∧ W x = true ∧ (F x).need = 3 ∧ RInv w0 w1 w2 w3 w4 w5 F D I (updN W x false) r1 rest r3 := by
  obtain ⟨hx, hwx, hn⟩ := (h.m2 x).1 (by simp)
  have hnd := List.nodup_cons.1 h.n2
  refine ⟨hx, hwx, hn, by rw [need2_on (by omega)]; exact h.mu, h.ok, h.num, hnd.2, h.n3, fun k => ?_, fun k => ?_, fun k hk hw => ?_⟩
  · by_cases e : k = x
    · subst e; simp only [updN_self]; constructor
      · intro q; exact absurd q hnd.1
      · intro q; cases q.2.1
    · simp only [updN_ne e]; rw [← h.m2 k]; simp [e]
  · rw [h.m3 k]; by_cases e : k = x
    · subst e; simp only [updN_self]; constructor
      · intro q; omega
      · intro q; cases q.2.1
    · simp only [updN_ne e]
  · by_cases e : k = x
    · subst e; rw [updN_self] at hw; cases hw
    · rw [updN_ne e] at hw; exact h.wn k hk hw
theorem RInv.pop3 {x : Nat} {rest : List Nat} (h : RInv w0 w1 w2 w3 w4 w5 F D I W r1 r2 (x :: rest)) : x < 6 ∧ W x = true ∧ (F x).need = 4 ∧ RInv w0 w1 w2 w3 w4 w5 F D I (updN W x false) r1 r2 rest := by
  obtain ⟨hx, hwx, hn⟩ := (h.m3 x).1 (by simp)
  have hnd := List.nodup_cons.1 h.n3
  refine ⟨hx, hwx, hn, by rw [need2_on (by omega)]; exact h.mu, h.ok, h.num, h.n2, hnd.2, fun k => ?_, fun k => ?_, fun k hk hw => ?_⟩
  · rw [h.m2 k]; by_cases e : k = x
    · subst e; simp only [updN_self]; constructor
      · intro q; omega
      · intro q; cases q.2.1
    · simp only [updN_ne e]
  · by_cases e : k = x
    · subst e; simp only [updN_self]; constructor
      · intro q; exact absurd q hnd.1
      · intro q; cases q.2.1
    · simp only [updN_ne e]; rw [← h.m3 k]; simp [e]
  · by_cases e : k = x
    · subst e; rw [updN_self] at hw; cases hw
    · rw [updN_ne e] at hw; exact h.wn k hk hw
/-- how many of the first k are of a kind. -/
def ctR (F : Nat → MFr) (D : Nat → Int) (I : Nat → Bool) (j : Nat) : Nat → Nat
  | 0 => 0
  | k + 1 => ctR F D I j k + (if clR (F k) (D k) (I k) = j then 1 else 0)
theorem ctR_le (F : Nat → MFr) (D : Nat → Int) (I : Nat → Bool) (j : Nat) {k : Nat} (hk : k ≤ 6) : ctR F D I j k ≤ cntR F D I j := by
  have hm : ∀ a b, a ≤ b → ctR F D I j a ≤ ctR F D I j b := by
    intro a b hab
    induction b with
    | zero => have : a = 0 := by omega
              subst this; exact Nat.le_refl _
    | succ b ih =>
      by_cases e : a = b + 1
      · subst e; exact Nat.le_refl _
      · exact Nat.le_trans (ih (by omega)) (Nat.le_add_right _ _)
  refine Nat.le_trans (hm k 6 hk) ?_
  unfold cntR sum6
  simp only [ctR]
  omega
/-- who is inside are readers, or one writer. -/
theorem RInv.inside (h : RInv w0 w1 w2 w3 w4 w5 F D I W r1 r2 r3) {k : Nat} (hk : k ≤ 6) : ctR F D I 10 k ≤ 1 ∧ (ctR F D I 10 k = 1 → ctR F D I 3 k = 0) := by
  have h10 := ctR_le F D I 10 hk; have h3 := ctR_le F D I 3 hk
  have hone := h.num.one
  refine ⟨by omega, fun e => ?_⟩
  have := (h.num.e10 (by omega)).2.2.1
  omega
end
end Go.Proofs.Ytpkegfochfkkcaa
