/- Plain mathematics of layer 1: digits to the base 256 of a number, how many there are, and that they give the number back; no condition but those in each theorem. -/
import Derived.Lib.BitFns
namespace Go.Proofs.Ytipjbgmikbbkoaa
set_option linter.unusedVariables false
set_option linter.unusedSimpArgs false

/-- how many digits to the base 256; none of 0. -/
def dg (x : Nat) : Nat := if x = 0 then 0 else dg (x / 256) + 1
decreasing_by omega
/-- at least one digit. -/
def sz (x : Nat) : Nat := dg (x / 256) + 1
theorem dg_zero : dg 0 = 0 := by rw [dg]; simp
theorem dg_pos {x : Nat} (h : 0 < x) : dg x = dg (x / 256) + 1 := by rw [dg, if_neg (by omega)]
theorem sz_dg {x : Nat} (h : 0 < x) : sz x = dg x := by rw [sz, ← dg_pos h]
theorem sz_zero : sz 0 = 1 := by simp [sz, dg_zero]
theorem sz_pos (x : Nat) : 1 ≤ sz x := by unfold sz; omega
theorem dg_bit : ∀ (x : Nat), x < 18446744073709551616 → (Lib.bitLen x + 7) / 8 = dg x := by
  intro x
  induction x using Nat.strongRecOn with
  | ind x ih =>
    intro hx
    by_cases h0 : x = 0
    · subst h0; rw [dg_zero]; decide
    · by_cases h1 : x < 256
      · have h2 := Lib.bitLen_le8' (x : Int) (by omega) (by omega)
        have h3 : 1 ≤ Lib.bitLen x := by have := Lib.bitLen_half x h0 (by omega); omega
        have h4 : x / 256 = 0 := by omega
        rw [dg_pos (by omega), h4, dg_zero]
        simp at h2
        omega
      · have h2 := Lib.bitLen_shift8 x (by omega) (by omega)
        have h3 := ih (x / 256) (by omega) (by omega)
        rw [dg_pos (by omega), ← h3, h2]
        omega
theorem sz_bit (x : Nat) (h : x < 18446744073709551616) : max 1 ((Lib.bitLen x + 7) / 8) = sz x := by
  rw [dg_bit x h]
  by_cases h0 : x = 0
  · subst h0; rw [sz_zero, dg_zero]; decide
  · rw [sz_dg (by omega), dg_pos (by omega)]; omega
theorem dg_lt : ∀ (k x : Nat), x < 256 ^ k → dg x ≤ k
  | 0, x, h => by have : x = 0 := by simpa using h
                  subst this; rw [dg_zero]; omega
  | k + 1, x, h => by
    by_cases h0 : x = 0
    · subst h0; rw [dg_zero]; omega
    · rw [dg_pos (by omega)]
      have := dg_lt k (x / 256) (by rw [Nat.pow_succ] at h; omega)
      omega
theorem sz_le8 (x : Nat) (h : x < 18446744073709551616) : sz x ≤ 8 := by
  unfold sz; have := dg_lt 7 (x / 256) (by omega); omega
def fitsB (x n : Int) : Bool := decide (1 ≤ n ∧ n ≤ 8 ∧ (sz x.toNat : Int) ≤ n)
theorem fits_yes {x n : Int} (h1 : 1 ≤ n) (h2 : n ≤ 8) (h : (sz x.toNat : Int) ≤ n) : fitsB x n = true := by simp [fitsB, h1, h2, h]
theorem fits_no1 {x n : Int} (h : n < 1 ∨ 8 < n) : fitsB x n = false := by simp [fitsB]; omega
theorem fits_no2 {x n : Int} (h : n < (sz x.toNat : Int)) : fitsB x n = false := by simp [fitsB]; omega
end Go.Proofs.Ytipjbgmikbbkoaa
namespace Go.Proofs.Ytipjbgmikbbkoaa
/-- the number of some bytes, the lowest first. -/
def num : List Int → Int
  | [] => 0
  | b :: r => b + 256 * num r
theorem num_nonneg : ∀ (l : List Int), (∀ b ∈ l, 0 ≤ b ∧ b ≤ 255) → 0 ≤ num l
  | [], _ => by simp [num]
  | b :: r, h => by
    have h1 := num_nonneg r fun x hx => h x (by simp [hx])
    have h2 := h b (by simp)
    simp only [num]; omega
theorem num_lt : ∀ (k : Nat) (l : List Int), l.length ≤ k → (∀ b ∈ l, 0 ≤ b ∧ b ≤ 255) → num l < 256 ^ k
  | k, [], _, _ => by simp only [num]; exact Int.pow_pos (by decide)
  | 0, b :: r, h, _ => by simp at h
  | k + 1, b :: r, h, hb => by
    have h1 := num_lt k r (by simpa using h) fun x hx => hb x (by simp [hx])
    have h2 := hb b (by simp)
    simp only [num, Int.pow_succ]
    omega
theorem num_drop (l : List Int) (j : Nat) (h : j < l.length) : num (l.drop j) = l.getD j 0 + 256 * num (l.drop (j + 1)) := by
  rw [List.drop_eq_getElem_cons h]
  simp [num, List.getD, List.getElem?_eq_getElem h]
end Go.Proofs.Ytipjbgmikbbkoaa
namespace Go.Proofs.Ytipjbgmikbbkoaa
/-- so many bytes of a number, the lowest first. -/
def digs : Int → Nat → List Int
  | _, 0 => []
  | x, k + 1 => x % 256 :: digs (x / 256) k
theorem digs_len : ∀ (k : Nat) (x : Int), (digs x k).length = k
  | 0, _ => rfl
  | k + 1, x => by simp [digs, digs_len k]
theorem digs_byte : ∀ (k : Nat) (x : Int), ∀ b ∈ digs x k, 0 ≤ b ∧ b ≤ 255
  | 0, _, b, h => by simp [digs] at h
  | k + 1, x, b, h => by
    simp only [digs, List.mem_cons] at h
    rcases h with h | h
    · omega
    · exact digs_byte k _ b h
def putS (bs : List Int) (x m : Int) : List Int × Int :=
  if m < 1 ∨ 8 < m then ([], 1) else if fitsB x m = false then ([], 4) else (bs ++ digs x m.toNat, 0)
end Go.Proofs.Ytipjbgmikbbkoaa
