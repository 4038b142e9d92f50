/- Plain mathematics of layer 6: words of unlike states are unlike, what is drawn below a number, units; no condition but those in each theorem. -/
import Derived.Test.YtmjpemddndjcpaaDrawA
namespace Go.Proofs.Ytmjpemddndjcpaa
set_option linter.unusedVariables false
set_option linter.unusedSimpArgs false
open Ieee

def M64 : Nat := 18446744073709551616
/-- by exclusive or with what is shifted down: no two have one. -/
theorem shr_inj {k x y : Nat} (hk : 0 < k) (hx : x < M64) (hy : y < M64) (h : x ^^^ (x / 2 ^ k) = y ^^^ (y / 2 ^ k)) : x = y := by
  have high : ∀ i, 64 ≤ i → x.testBit i = y.testBit i := fun i hi => by
    have h1 : 18446744073709551616 ≤ 2 ^ i := Nat.pow_le_pow_right (n := 2) (by decide) hi
    rw [Nat.testBit_lt_two_pow (Nat.lt_of_lt_of_le hx h1), Nat.testBit_lt_two_pow (Nat.lt_of_lt_of_le hy h1)]
  have all : ∀ d i, 64 - i ≤ d → x.testBit i = y.testBit i := by
    intro d
    induction d with
    | zero => intro i hi; exact high i (by omega)
    | succ d ih =>
      intro i hi
      rcases Nat.lt_or_ge i 64 with h64 | h64
      · have h1 := congrArg (fun z => z.testBit i) h
        simp only [Nat.testBit_xor, Nat.testBit_div_two_pow] at h1
        have h2 := ih (i + k) (by omega)
        rw [Nat.add_comm] at h2
        rw [Nat.add_comm i k, h2] at h1
        cases ha : x.testBit i <;> cases hb : y.testBit i <;> cases hc : y.testBit (k + i) <;> simp_all
      · exact high i h64
  exact Nat.eq_of_testBit_eq fun i => all _ i (Nat.le_refl _)
theorem shr_lt {k x : Nat} (hx : x < M64) : x ^^^ (x / 2 ^ k) < M64 :=
  Nat.xor_lt_two_pow (n := 64) hx (Nat.lt_of_le_of_lt (Nat.div_le_self _ _) hx)
/-- times a number that has one that undoes it. -/
theorem mul_inj {m n x y : Nat} (hm : m * n % M64 = 1) (hx : x < M64) (hy : y < M64) (h : x * m % M64 = y * m % M64) : x = y := by
  have key : ∀ z, z < M64 → z * m % M64 * n % M64 = z := fun z hz => by
    rw [Nat.mod_mul_mod, Nat.mul_assoc, Nat.mul_mod, hm, Nat.mul_one, Nat.mod_mod, Nat.mod_eq_of_lt hz]
  rw [← key x hx, ← key y hy, h]
def nextN (s : Nat) : Nat := (s + 11400714819323198485) % M64
def backN (s : Nat) : Nat := (s + 7046029254386353131) % M64
def mixA (z : Nat) : Nat := (z ^^^ z / 2 ^ 30) * 13787848793156543929 % M64
def mixB (z : Nat) : Nat := (z ^^^ z / 2 ^ 27) * 10723151780598845931 % M64
def mixC (z : Nat) : Nat := z ^^^ z / 2 ^ 31
def wordN (z : Nat) : Nat := mixC (mixB (mixA z))
theorem M_pos : 0 < M64 := by decide
theorem nextN_lt (s : Nat) : nextN s < M64 := Nat.mod_lt _ M_pos
theorem backN_lt (s : Nat) : backN s < M64 := Nat.mod_lt _ M_pos
theorem mixA_lt (z : Nat) : mixA z < M64 := Nat.mod_lt _ M_pos
theorem mixB_lt (z : Nat) : mixB z < M64 := Nat.mod_lt _ M_pos
theorem wordN_lt (z : Nat) : wordN z < M64 := shr_lt (mixB_lt _)
theorem back_next {s : Nat} (h : s < M64) : backN (nextN s) = s := by unfold backN nextN M64 at *; omega
theorem next_back {s : Nat} (h : s < M64) : nextN (backN s) = s := by unfold backN nextN M64 at *; omega
theorem next_inj {s t : Nat} (hs : s < M64) (ht : t < M64) : nextN s = nextN t ↔ s = t :=
  ⟨fun h => by rw [← back_next hs, h, back_next ht], fun h => by rw [h]⟩
theorem word_inj {s t : Nat} (hs : s < M64) (ht : t < M64) : wordN s = wordN t ↔ s = t := by
  refine ⟨fun h => ?_, fun h => by rw [h]⟩
  have h1 : mixB (mixA s) = mixB (mixA t) := shr_inj (by decide) (mixB_lt _) (mixB_lt _) h
  have h2 : mixA s ^^^ mixA s / 2 ^ 27 = mixA t ^^^ mixA t / 2 ^ 27 := mul_inj (n := 3573116690164977347) (by decide +kernel) (shr_lt (mixA_lt _)) (shr_lt (mixA_lt _)) h1
  have h3 : mixA s = mixA t := shr_inj (by decide) (mixA_lt _) (mixA_lt _) h2
  have h4 : s ^^^ s / 2 ^ 30 = t ^^^ t / 2 ^ 30 := mul_inj (n := 10871156337175269513) (by decide +kernel) (shr_lt hs) (shr_lt ht) h3
  exact shr_inj (by decide) hs ht h4
/-- so many words, and the state behind them. -/
def statesN (s : Nat) : Nat → Nat
  | 0 => s
  | n + 1 => nextN (statesN s n)
def wordsN (s : Nat) : Nat → List Nat
  | 0 => []
  | n + 1 => wordsN s n ++ [wordN (statesN s (n + 1))]
theorem statesN_lt {s : Nat} (h : s < M64) : ∀ n, statesN s n < M64
  | 0 => h
  | n + 1 => nextN_lt _
theorem states_add (s a : Nat) : ∀ b, statesN s (a + b) = statesN (statesN s a) b
  | 0 => rfl
  | b + 1 => by
    show nextN (statesN s (a + b)) = nextN (statesN (statesN s a) b)
    rw [states_add s a b]
theorem words_add (s a : Nat) : ∀ b, wordsN s (a + b) = wordsN s a ++ wordsN (statesN s a) b
  | 0 => by simp [wordsN]
  | b + 1 => by
    show wordsN s (a + b) ++ [wordN (statesN s (a + b + 1))] = wordsN s a ++ (wordsN (statesN s a) b ++ [wordN (statesN (statesN s a) (b + 1))])
    rw [words_add s a b, ← states_add s a (b + 1), List.append_assoc]; rfl
theorem words_len (s : Nat) : ∀ n, (wordsN s n).length = n
  | 0 => rfl
  | n + 1 => by simp [wordsN, words_len s n]
theorem words_lt (s : Nat) : ∀ n, ∀ v ∈ wordsN s n, v < M64
  | 0, v, h => by simp [wordsN] at h
  | n + 1, v, h => by
    rcases List.mem_append.1 h with h | h
    · exact words_lt s n v h
    · simp at h; subst h; exact wordN_lt _
def backsN (s : Nat) : Nat → Nat
  | 0 => s
  | n + 1 => backN (backsN s n)
theorem backs_states {s : Nat} (h : s < M64) (a : Nat) : ∀ b, b ≤ a → backsN (statesN s a) b = statesN s (a - b)
  | 0, _ => rfl
  | b + 1, hb => by
    show backN (backsN (statesN s a) b) = _
    rw [backs_states h a b (by omega), show a - b = (a - (b + 1)) + 1 by omega]
    exact back_next (statesN_lt h _)
/-- what is drawn below a number. -/
def belowN (w n : Nat) : Nat := w * n / M64
theorem below_lt {w n : Nat} (hw : w < M64) (hn : 0 < n) : belowN w n < n := (Nat.div_lt_iff_lt_mul M_pos).2 (by rw [Nat.mul_comm n]; exact Nat.mul_lt_mul_of_pos_right hw hn)
theorem below_mono {v w : Nat} (n : Nat) (h : v ≤ w) : belowN v n ≤ belowN w n := Nat.div_le_div_right (Nat.mul_le_mul_right _ h)
theorem below_zero (n : Nat) : belowN 0 n = 0 := by unfold belowN; rw [Nat.zero_mul]; rfl
theorem below_top {n : Nat} (h0 : 0 < n) (h : n < M64) : belowN 18446744073709551615 n = n - 1 := by unfold belowN M64 at *; omega
/-- half by half. -/
theorem below_halves {w n : Nat} (hw : w < M64) (hn : n < 9223372036854775808) :
    (w / 4294967296) * (n % 4294967296) + (w % 4294967296) * (n % 4294967296) / 4294967296 < M64 ∧
    ((w / 4294967296) * (n % 4294967296) + (w % 4294967296) * (n % 4294967296) / 4294967296) % 4294967296 + (w % 4294967296) * (n / 4294967296) < M64 ∧
    (w / 4294967296) * (n / 4294967296) + ((w / 4294967296) * (n % 4294967296) + (w % 4294967296) * (n % 4294967296) / 4294967296) / 4294967296 +
      (((w / 4294967296) * (n % 4294967296) + (w % 4294967296) * (n % 4294967296) / 4294967296) % 4294967296 + (w % 4294967296) * (n / 4294967296)) / 4294967296 = belowN w n := by
  unfold belowN M64 at *
  have ew : w = w / 4294967296 * 4294967296 + w % 4294967296 := by omega
  have en : n = n / 4294967296 * 4294967296 + n % 4294967296 := by omega
  have ha : w / 4294967296 ≤ 4294967295 := by omega
  have hb : w % 4294967296 ≤ 4294967295 := by omega
  have hc : n / 4294967296 ≤ 2147483647 := by omega
  have hd : n % 4294967296 ≤ 4294967295 := by omega
  have hmul : w * n = (w / 4294967296) * (n / 4294967296) * 18446744073709551616 + ((w / 4294967296) * (n % 4294967296) + (w % 4294967296) * (n / 4294967296)) * 4294967296 + (w % 4294967296) * (n % 4294967296) := by
    conv => lhs; rw [ew, en]
    generalize w / 4294967296 = a
    generalize w % 4294967296 = b
    generalize n / 4294967296 = c
    generalize n % 4294967296 = d
    have e1 : a * 4294967296 * (c * 4294967296) = a * c * 18446744073709551616 := by
      rw [Nat.mul_assoc, Nat.mul_left_comm 4294967296 c, ← Nat.mul_assoc, ← Nat.mul_assoc]
    have e2 : a * 4294967296 * d = a * d * 4294967296 := Nat.mul_right_comm _ _ _
    have e3 : b * (c * 4294967296) = b * c * 4294967296 := by rw [Nat.mul_assoc]
    rw [Nat.add_mul, Nat.mul_add, Nat.mul_add, e1, e2, e3]
    omega
  have h1 : (w / 4294967296) * (n % 4294967296) ≤ 4294967295 * 4294967295 := Nat.mul_le_mul ha hd
  have h2 : (w % 4294967296) * (n % 4294967296) ≤ 4294967295 * 4294967295 := Nat.mul_le_mul hb hd
  have h3 : (w % 4294967296) * (n / 4294967296) ≤ 4294967295 * 2147483647 := Nat.mul_le_mul hb hc
  rw [hmul]
  generalize (w / 4294967296) * (n / 4294967296) = P at *
  generalize (w / 4294967296) * (n % 4294967296) = Q at *
  generalize (w % 4294967296) * (n / 4294967296) = R at *
  generalize (w % 4294967296) * (n % 4294967296) = S at *
  omega
/-- a word's unit. -/
def unitN (w : Nat) : Nat := if w / 2048 = 0 then 0 else rungI (w / 2048) - 238690780250636288
theorem unit_bounds {w : Nat} (hw : w < M64) : unitN w < 4607182418800017408 := by
  unfold unitN
  split
  · decide
  · rename_i h0
    obtain ⟨m, h1, h2, hl, hr, _⟩ := rungI_parts (u := w / 2048) (by omega) (by unfold M64 at hw; omega)
    rw [hr, down53]
    omega
theorem unit_mono {v w : Nat} (h : v ≤ w) : unitN v ≤ unitN w := by
  unfold unitN
  split
  · exact Nat.zero_le _
  · rename_i h0
    rw [if_neg (by omega)]
    have := rungI_mono (u := v / 2048) (v := w / 2048) (by omega) (by omega)
    omega
end Go.Proofs.Ytmjpemddndjcpaa
