/- Plain mathematics of layer 13: in a program that may be wherever one goes there is an instruction, and each object that is named is there; no condition but those in each theorem. -/
import Derived.Test.YtkoodhnfphmbnaaCodA
namespace Go.Proofs.Ytkoodhnfphmbnaa
set_option linter.unusedVariables false
set_option linter.unusedSimpArgs false
open Go.RowKit

theorem inB_iff {n m : Int} : inB n m = true ↔ 0 ≤ n ∧ n < m := by unfold inB; simp
theorem objB_in {ks : List Int} {n k : Int} (h : objB ks n k = true) : 0 ≤ n ∧ n < ks.length := by
  unfold objB at h
  rw [Bool.and_eq_true] at h
  exact inB_iff.1 h.1
/-- what an instruction that is right says of where one goes. -/
structure Goes (len kn op a b c : Int) : Prop where
  o0 : 0 ≤ op
  o41 : op ≤ 41
  jump : op = 6 ∨ op = 23 → 0 ≤ a ∧ a < len
  zero : op = 7 ∨ op = 22 → 0 ≤ b ∧ b < len
  stop : op = 0 ∨ op = 24 → b = 0 ∧ c = 0
  obj : 26 ≤ op → op ≤ 40 → 0 ≤ a ∧ a < kn
  reg : op ≠ 6 → op ≠ 23 → op ≠ 0 → (op < 26 ∨ 40 < op) → 0 ≤ a ∧ a < 4
theorem plain_goes {len cells kn op a b c : Int} (h : plainB len cells op a b c = true) : Goes len kn op a b c := by
  unfold plainB at h
  split at h
  · simp at h; exact ⟨by omega, by omega, by omega, by omega, by omega, by omega, by omega⟩
  split at h
  · simp [inB] at h; exact ⟨by omega, by omega, by omega, by omega, by omega, by omega, by omega⟩
  split at h
  · simp [inB] at h; exact ⟨by omega, by omega, by omega, by omega, by omega, by omega, by omega⟩
  split at h
  · simp [inB] at h; exact ⟨by omega, by omega, by omega, by omega, by omega, by omega, by omega⟩
  split at h
  · simp [inB] at h; exact ⟨by omega, by omega, by omega, by omega, by omega, by omega, by omega⟩
  split at h
  · simp [inB] at h; exact ⟨by omega, by omega, by omega, by omega, by omega, by omega, by omega⟩
  split at h
  · simp [inB] at h; exact ⟨by omega, by omega, by omega, by omega, by omega, by omega, by omega⟩
  split at h
  · simp [inB] at h; exact ⟨by omega, by omega, by omega, by omega, by omega, by omega, by omega⟩
  split at h
  · simp [inB] at h; exact ⟨by omega, by omega, by omega, by omega, by omega, by omega, by omega⟩
  cases h
theorem sync_goes {ks : List Int} {len op a b c : Int} (h : syncB ks op a b c = true) : Goes len ks.length op a b c := by
  have key : 26 ≤ op ∧ op ≤ 40 ∧ 0 ≤ a ∧ a < ks.length := by
    unfold syncB at h
    split at h
    · rw [Bool.and_eq_true] at h; have := objB_in h.1; omega
    split at h
    · rw [Bool.and_eq_true] at h; have := objB_in h.1; omega
    split at h
    · rw [Bool.and_eq_true] at h; have := objB_in h.1; omega
    split at h
    · rw [Bool.and_eq_true] at h; have := objB_in h.1; omega
    split at h
    · rw [Bool.and_eq_true] at h; have := objB_in h.1; omega
    split at h
    · rw [Bool.and_eq_true] at h; have := objB_in h.1; omega
    split at h
    · rw [Bool.and_eq_true] at h; have := objB_in h.1; omega
    split at h
    · rw [Bool.and_eq_true] at h; have := objB_in h.1; omega
    split at h
    · rw [Bool.and_eq_true] at h; have := objB_in h.1; omega
    cases h
  obtain ⟨h1, h2, h3, h4⟩ := key
  exact ⟨by omega, by omega, by omega, by omega, by omega, by omega, by omega⟩
theorem goes_at {p : Pg} (r : RightPg p) {k : Nat} (hk : k < p.code.length) : insB p k = true ∧ Goes p.code.length p.kinds.length (inAt p.code k).1 (inAt p.code k).2.1 (inAt p.code k).2.2.1 (inAt p.code k).2.2.2 ∧ ((inAt p.code k).1 = 0 ∨ (inAt p.code k).1 = 6 ∨ (inAt p.code k).1 = 24 ∨ k + 1 < p.code.length) := by
  have hx := r.code k hk
  refine ⟨?_, ?_, ?_⟩
  · unfold insB
    rw [Bool.and_eq_true]
    exact ⟨inB_iff.2 ⟨by omega, by omega⟩, by rw [show ((k : Int)).toNat = k by omega]; exact hx⟩
  · unfold insX at hx
    rw [Bool.or_eq_true] at hx
    rcases hx with hx | hx
    · exact plain_goes hx
    · exact sync_goes hx
  · rcases Nat.lt_or_ge (k + 1) p.code.length with h | h
    · exact Or.inr (Or.inr (Or.inr h))
    · have e : k = p.code.length - 1 := by omega
      have hl := r.last
      rw [← e] at hl
      unfold lastOk at hl
      omega
end Go.Proofs.Ytkoodhnfphmbnaa
