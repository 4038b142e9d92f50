/- Plain mathematics of layer 5: what a word of 64 bits stands for as a float64, its order, sums, products, rounding; no condition but those in each theorem. -/
import Derived.Laws.FloatArith
import Derived.Lib.BitFns
namespace Go.Proofs.Ytmjpemddndjcpaa
set_option linter.unusedVariables false
set_option linter.unusedSimpArgs false
open Ieee

theorem dbl_binade : double.binade = 4503599627370496 := by decide
theorem dbl_inf : double.infRung = 9218868437227405312 := by decide
theorem dbl_sign : double.signWeight = 9223372036854775808 := by decide
theorem dbl_least : double.leastPlace = -1074 := by decide
theorem dbl_frac : double.fractionBits = 52 := rfl
/-- a word's sign, and the rest of it. -/
def sgn (x : Nat) : Bool := x / 9223372036854775808 % 2 == 1
def rung (x : Nat) : Nat := x % 9223372036854775808
theorem read_eq (x : Nat) : double.read x = if rung x < 4503599627370496 then .number (sgn x) (rung x) (-1074) else if rung x < 9218868437227405312 then
    .number (sgn x) (4503599627370496 + rung x % 4503599627370496) (-1074 + (rung x / 4503599627370496 - 1 : Nat)) else if rung x = 9218868437227405312 then .infinity (sgn x) else .nan (sgn x) (rung x - 9218868437227405312) := by
  unfold Format.read
  rw [dbl_binade, dbl_inf, dbl_sign, dbl_least]
  rfl
theorem read_sub {x : Nat} (h : rung x < 4503599627370496) : double.read x = .number (sgn x) (rung x) (-1074) := by rw [read_eq, if_pos h]
theorem read_norm {x : Nat} (h : 4503599627370496 ≤ rung x) (h2 : rung x < 9218868437227405312) : double.read x = .number (sgn x) (4503599627370496 + rung x % 4503599627370496) (-1074 + (rung x / 4503599627370496 - 1 : Nat)) := by
  rw [read_eq, if_neg (by omega), if_pos h2]
theorem read_inf {x : Nat} (h : rung x = 9218868437227405312) : double.read x = .infinity (sgn x) := by rw [read_eq, if_neg (by omega), if_neg (by omega), if_pos h]
theorem read_nan {x : Nat} (h : 9218868437227405312 < rung x) : double.read x = .nan (sgn x) (rung x - 9218868437227405312) := by rw [read_eq, if_neg (by omega), if_neg (by omega), if_neg (by omega)]
/-- a finite one: its digits, and the place of the last one. -/
def digN (r : Nat) : Nat := if r < 4503599627370496 then r else 4503599627370496 + r % 4503599627370496
def plN (r : Nat) : Nat := if r < 4503599627370496 then 0 else r / 4503599627370496 - 1
theorem read_fin {x : Nat} (h : rung x < 9218868437227405312) : double.read x = .number (sgn x) (digN (rung x)) (-1074 + (plN (rung x) : Int)) := by
  unfold digN plN
  by_cases h1 : rung x < 4503599627370496
  · rw [read_sub h1, if_pos h1, if_pos h1]; rfl
  · rw [read_norm (by omega) h, if_neg h1, if_neg h1]
/-- how great, in the least unit; of the infinite one, too. -/
def mag (r : Nat) : Nat := digN r * 2 ^ plN r
theorem mag_zero : mag 0 = 0 := by decide
theorem mag_lt {r r' : Nat} (h : r < r') : mag r < mag r' := by
  unfold mag digN plN
  by_cases h1 : r' < 4503599627370496
  · rw [if_pos h1, if_pos h1, if_pos (by omega), if_pos (by omega)]; omega
  · rw [if_neg h1, if_neg h1]
    have hp : 0 < 2 ^ (r' / 4503599627370496 - 1) := Nat.two_pow_pos _
    by_cases h2 : r < 4503599627370496
    · rw [if_pos h2, if_pos h2]
      calc r * 2 ^ 0 < 4503599627370496 + r' % 4503599627370496 := by omega
        _ ≤ (4503599627370496 + r' % 4503599627370496) * 2 ^ (r' / 4503599627370496 - 1) := Nat.le_mul_of_pos_right _ hp
    · rw [if_neg h2, if_neg h2]
      by_cases h3 : r / 4503599627370496 = r' / 4503599627370496
      · rw [h3]
        exact Nat.mul_lt_mul_of_pos_right (by omega) hp
      · obtain ⟨k, hk⟩ : ∃ k, r' / 4503599627370496 - 1 = (r / 4503599627370496 - 1) + 1 + k := ⟨r' / 4503599627370496 - 1 - (r / 4503599627370496 - 1) - 1, by omega⟩
        have hq : 0 < 2 ^ (r / 4503599627370496 - 1) := Nat.two_pow_pos _
        have hk0 : 0 < 2 ^ k := Nat.two_pow_pos _
        rw [hk, Nat.pow_add, Nat.pow_succ]
        calc (4503599627370496 + r % 4503599627370496) * 2 ^ (r / 4503599627370496 - 1) < (4503599627370496 * 2) * 2 ^ (r / 4503599627370496 - 1) := Nat.mul_lt_mul_of_pos_right (by omega) hq
          _ = 4503599627370496 * (2 ^ (r / 4503599627370496 - 1) * 2) := by rw [Nat.mul_assoc, Nat.mul_comm 2]
          _ ≤ 4503599627370496 * (2 ^ (r / 4503599627370496 - 1) * 2 * 2 ^ k) := Nat.mul_le_mul_left _ (Nat.le_mul_of_pos_right _ hk0)
          _ ≤ (4503599627370496 + r' % 4503599627370496) * (2 ^ (r / 4503599627370496 - 1) * 2 * 2 ^ k) := Nat.mul_le_mul_right _ (by omega)
theorem mag_le {r r' : Nat} (h : r ≤ r') : mag r ≤ mag r' := by
  rcases Nat.lt_or_ge r r' with h1 | h1
  · exact Nat.le_of_lt (mag_lt h1)
  · obtain rfl : r = r' := by omega
    exact Nat.le_refl _
theorem mag_lt_iff {r r' : Nat} : mag r < mag r' ↔ r < r' := ⟨fun h => by
  rcases Nat.lt_or_ge r r' with h1 | h1
  · exact h1
  · have := mag_le h1; omega, mag_lt⟩
theorem mag_inj {r r' : Nat} (h : mag r = mag r') : r = r' := by
  rcases Nat.lt_trichotomy r r' with h1 | h1 | h1
  · have := mag_lt h1; omega
  · exact h1
  · have := mag_lt h1; omega
/-- what a word stands for, in the least unit. -/
def val (x : Nat) : Int := if sgn x then -(mag (rung x) : Int) else (mag (rung x) : Int)
theorem signed_eq (s : Bool) (m k : Nat) : signed s m k = if s then -((m * 2 ^ k : Nat) : Int) else ((m * 2 ^ k : Nat) : Int) := by
  unfold signed; rw [Nat.shiftLeft_eq]
theorem compare_scale (a b : Int) (c : Nat) (hc : 0 < c) : compare (a * (c : Int)) (b * (c : Int)) = compare a b := by
  have h0 : (0 : Int) < (c : Int) := by omega
  simp only [compare, compareOfLessAndEq]
  have h1 : (a * (c : Int) < b * (c : Int)) ↔ a < b := Int.mul_lt_mul_right h0
  have h2 : (a * (c : Int) = b * (c : Int)) ↔ a = b := ⟨fun h => Int.eq_of_mul_eq_mul_right (by omega) h, fun h => by rw [h]⟩
  simp only [h1, h2]
/-- how two words stand to each other, neither of them none. -/
theorem order_val (x y : Nat) (hx : rung x ≤ 9218868437227405312) (hy : rung y ≤ 9218868437227405312) : double.order x y = some (compare (val x) (val y)) := by
  unfold Format.order
  by_cases h1 : rung x = 9218868437227405312
  · rw [read_inf h1]
    by_cases h2 : rung y = 9218868437227405312
    · rw [read_inf h2]
      unfold val Datum.order
      rw [h1, h2]
      have h3 : 0 < mag 9218868437227405312 := by have := mag_lt (show 0 < 9218868437227405312 by decide); rw [mag_zero] at this; exact this
      generalize mag 9218868437227405312 = v at h3
      cases sgn x <;> cases sgn y <;> simp only [Bool.false_eq_true, if_false, if_true, Option.some.injEq] <;> symm <;> simp only [compare, compareOfLessAndEq]
      · rw [if_neg (by omega), if_pos trivial]; rfl
      · rw [if_neg (by omega), if_neg (by omega)]; rfl
      · rw [if_pos (by omega)]; rfl
      · rw [if_neg (by omega), if_pos trivial]; rfl
    · rw [read_fin (by omega)]
      unfold val Datum.order
      have h3 : mag (rung y) < mag (rung x) := mag_lt (by omega)
      cases sgn x <;> cases sgn y <;> simp only [Bool.false_eq_true, if_false, if_true, Option.some.injEq] <;> symm <;> simp only [compare, compareOfLessAndEq]
      · rw [if_neg (by omega), if_neg (by omega)]
      · rw [if_neg (by omega), if_neg (by omega)]
      · rw [if_pos (by omega)]
      · rw [if_pos (by omega)]
  · rw [read_fin (by omega)]
    by_cases h2 : rung y = 9218868437227405312
    · rw [read_inf h2]
      unfold val Datum.order
      have h3 : mag (rung x) < mag (rung y) := mag_lt (by omega)
      cases sgn x <;> cases sgn y <;> simp only [Bool.false_eq_true, if_false, if_true, Option.some.injEq] <;> symm <;> simp only [compare, compareOfLessAndEq]
      · rw [if_pos (by omega)]
      · rw [if_neg (by omega), if_neg (by omega)]
      · rw [if_pos (by omega)]
      · rw [if_neg (by omega), if_neg (by omega)]
    · rw [read_fin (by omega)]
      unfold Datum.order val mag
      simp only [Option.some.injEq, signed_eq]
      obtain ⟨a, ha⟩ : ∃ a, plN (rung x) = a := ⟨_, rfl⟩
      obtain ⟨b, hb⟩ : ∃ b, plN (rung y) = b := ⟨_, rfl⟩
      rw [ha, hb]
      generalize digN (rung x) = m
      generalize digN (rung y) = n
      have key : ∀ (s t : Bool) (c : Nat), compare (if s then -((m * 2 ^ (a - c) : Nat) : Int) else ((m * 2 ^ (a - c) : Nat) : Int)) (if t then -((n * 2 ^ (b - c) : Nat) : Int) else ((n * 2 ^ (b - c) : Nat) : Int)) =
          compare ((if s then -((m * 2 ^ (a - c) : Nat) : Int) else ((m * 2 ^ (a - c) : Nat) : Int)) * ((2 ^ c : Nat) : Int)) ((if t then -((n * 2 ^ (b - c) : Nat) : Int) else ((n * 2 ^ (b - c) : Nat) : Int)) * ((2 ^ c : Nat) : Int)) :=
        fun s t c => (compare_scale _ _ _ (Nat.two_pow_pos _)).symm
      have e1 : (-1074 + (a : Int) - min (-1074 + (a : Int)) (-1074 + (b : Int))).toNat = a - min a b := by omega
      have e2 : (-1074 + (b : Int) - min (-1074 + (a : Int)) (-1074 + (b : Int))).toNat = b - min a b := by omega
      rw [e1, e2, key _ _ (min a b)]
      have f1 : m * 2 ^ (a - min a b) * 2 ^ min a b = m * 2 ^ a := by rw [Nat.mul_assoc, ← Nat.pow_add, Nat.sub_add_cancel (Nat.min_le_left _ _)]
      have f2 : n * 2 ^ (b - min a b) * 2 ^ min a b = n * 2 ^ b := by rw [Nat.mul_assoc, ← Nat.pow_add, Nat.sub_add_cancel (Nat.min_le_right _ _)]
      have g1 : ∀ s : Bool, (if s then -((m * 2 ^ (a - min a b) : Nat) : Int) else ((m * 2 ^ (a - min a b) : Nat) : Int)) * ((2 ^ min a b : Nat) : Int) = if s then -((m * 2 ^ a : Nat) : Int) else ((m * 2 ^ a : Nat) : Int) := by
        intro s; cases s
        · simp only [Bool.false_eq_true, if_false]; rw [← Int.natCast_mul, f1]
        · simp only [if_true]; rw [Int.neg_mul, ← Int.natCast_mul, f1]
      have g2 : ∀ s : Bool, (if s then -((n * 2 ^ (b - min a b) : Nat) : Int) else ((n * 2 ^ (b - min a b) : Nat) : Int)) * ((2 ^ min a b : Nat) : Int) = if s then -((n * 2 ^ b : Nat) : Int) else ((n * 2 ^ b : Nat) : Int) := by
        intro s; cases s
        · simp only [Bool.false_eq_true, if_false]; rw [← Int.natCast_mul, f2]
        · simp only [if_true]; rw [Int.neg_mul, ← Int.natCast_mul, f2]
      rw [g1, g2]
theorem order_nan (x y : Nat) (h : 9218868437227405312 < rung x ∨ 9218868437227405312 < rung y) : double.order x y = none := by
  unfold Format.order
  rcases h with h | h
  · rw [read_nan h]; rfl
  · rw [read_nan h]
    cases double.read x <;> rfl

/-- which kind a word is of. -/
def clsN (x : Nat) : Nat := if rung x = 0 then 0 else if rung x < 4503599627370496 then 1 else if rung x < 9218868437227405312 then 2 else if rung x = 9218868437227405312 then 3 else 4
theorem cls4 {x : Nat} : clsN x = 4 ↔ 9218868437227405312 < rung x := by unfold clsN; repeat' split
                                                                         all_goals omega
theorem cls3 {x : Nat} : clsN x = 3 ↔ rung x = 9218868437227405312 := by unfold clsN; repeat' split
                                                                         all_goals omega
theorem cls0 {x : Nat} : clsN x = 0 ↔ rung x = 0 := by unfold clsN; repeat' split
                                                       all_goals omega
theorem cls_le {x : Nat} : clsN x ≤ 2 ↔ rung x < 9218868437227405312 := by unfold clsN; repeat' split
                                                                           all_goals omega
/-- sums and products don't hang on which is first. -/
theorem sum_comm (d e : Datum) : d.sum e = e.sum d := by
  cases d <;> cases e <;> simp only [Datum.sum]
  · rename_i s m i t n j
    rw [Int.min_comm i j, Int.add_comm (signed s m _), Bool.and_comm]
  · rename_i s t
    by_cases h : s = t
    · subst h; rfl
    · rw [if_neg h, if_neg (Ne.symm h)]
theorem product_comm (d e : Datum) : d.product e = e.product d := by
  cases d <;> cases e <;> simp only [Datum.product]
  · rename_i s m i t n j
    rw [Bool.xor_comm, Nat.mul_comm, Int.add_comm]
  · rw [Bool.xor_comm]
theorem add_comm' (x y : Nat) : double.add x y = double.add y x := by unfold Format.add; rw [sum_comm]
theorem mul_comm' (x y : Nat) : double.mul x y = double.mul y x := by unfold Format.mul; rw [product_comm]
/-- no number is written as one that is none. -/
theorem word_rung (s : Bool) (r : Nat) (h : r < 9223372036854775808) : rung (double.word s r) = r ∧ sgn (double.word s r) = s := by
  unfold Format.word rung sgn
  rw [dbl_sign]
  cases s
  · simp only [Bool.false_eq_true, if_false]
    refine ⟨by omega, ?_⟩
    have : r / 9223372036854775808 % 2 = 0 := by omega
    rw [this]; rfl
  · simp only [if_true]
    refine ⟨by omega, ?_⟩
    have : (9223372036854775808 + r) / 9223372036854775808 % 2 = 1 := by omega
    rw [this]; rfl
theorem nearest_rung (s : Bool) (m : Nat) (p : Int) : rung (double.nearest s m p) ≤ 9218868437227405312 ∧ sgn (double.nearest s m p) = s := by
  unfold Format.nearest
  split
  · have h := word_rung s 0 (by decide)
    exact ⟨by rw [h.1]; decide, h.2⟩
  · dsimp only
    rw [dbl_inf]
    have h := fun r => word_rung s (min r 9218868437227405312) (by omega)
    exact ⟨by rw [(h _).1]; exact Nat.min_le_right _ _, (h _).2⟩
def noNan (d : Datum) : Prop := d.isNaN = false
theorem write_rung {d : Datum} (h : noNan d) : rung (double.write d) ≤ 9218868437227405312 := by
  cases d with
  | number s m p => exact (nearest_rung s m p).1
  | infinity s => rw [show double.write (.infinity s) = double.word s double.infRung from rfl, dbl_inf, (word_rung s _ (by decide)).1]; exact Nat.le_refl _
  | nan s f => cases h
theorem sum_noNan {d e r : Datum} (h : d.sum e = some r) : noNan r := by
  cases d <;> cases e <;> simp only [Datum.sum] at h
  all_goals first
    | (cases h; done)
    | (cases h; rfl)
    | (split at h <;> first | (cases h; done) | (cases h; rfl))
theorem product_noNan {d e r : Datum} (h : d.product e = some r) : noNan r := by
  cases d <;> cases e <;> simp only [Datum.product] at h
  all_goals first
    | (cases h; done)
    | (cases h; rfl)
    | (split at h <;> first | (cases h; done) | (cases h; rfl))
theorem quotient_noNan {k : Nat} {d e r : Datum} (h : d.quotient k e = some r) : noNan r := by
  cases d <;> cases e <;> simp only [Datum.quotient] at h
  all_goals first
    | (cases h; done)
    | (cases h; rfl)
    | (split at h <;> first | (cases h; done) | (cases h; rfl) | (split at h <;> first | (cases h; done) | (cases h; rfl)))
theorem map_write {d : Option Datum} {r : Nat} (h : d.map double.write = some r) (hn : ∀ e, d = some e → noNan e) : rung r ≤ 9218868437227405312 ∧ r < 18446744073709551616 := by
  cases d with
  | none => cases h
  | some e => cases h; exact ⟨write_rung (hn e rfl), double.write_lt e⟩
theorem add_rung {x y r : Nat} (h : double.add x y = some r) : rung r ≤ 9218868437227405312 ∧ r < 18446744073709551616 := map_write h fun _ he => sum_noNan he
theorem sub_rung {x y r : Nat} (h : double.sub x y = some r) : rung r ≤ 9218868437227405312 ∧ r < 18446744073709551616 := map_write h fun _ he => sum_noNan he
theorem mul_rung {x y r : Nat} (h : double.mul x y = some r) : rung r ≤ 9218868437227405312 ∧ r < 18446744073709551616 := map_write h fun _ he => product_noNan he
theorem div_rung {x y r : Nat} (h : double.div x y = some r) : rung r ≤ 9218868437227405312 ∧ r < 18446744073709551616 := map_write h fun _ he => quotient_noNan he
end Go.Proofs.Ytmjpemddndjcpaa
