/- Plain mathematics of layer 3: a register of 32 bits that goes down by one bit; that eight times, and bytes behind it, are linear over exclusive or, and one to one; no condition but those in each theorem. -/
import Derived.Lib.BitFns
namespace Go.Proofs.Ytipjbgmikbbkoaa
set_option linter.unusedVariables false
set_option linter.unusedSimpArgs false

/-- one time. -/
def down1 (c : Nat) : Nat := if c % 2 = 1 then (c / 2) ^^^ 3988292384 else c / 2
/-- so many times. -/
def downs : Nat → Nat → Nat
  | 0, c => c
  | k + 1, c => downs k (down1 c)
def down8 (c : Nat) : Nat := downs 8 c
/-- a register behind bytes. -/
def goes : List Int → Nat → Nat
  | [], c => c
  | b :: r, c => goes r (down8 (c ^^^ b.toNat))
/-- by any table. -/
def updates (t : List Int) : List Int → Nat → Nat
  | [], c => c
  | b :: r, c => updates t r ((t.getD ((c ^^^ b.toNat) % 256) 0).toNat ^^^ (c / 256))
def sumS (bs : List Int) : Nat := 4294967295 - goes bs 4294967295

theorem xor_lt {a b : Nat} (ha : a < 4294967296) (hb : b < 4294967296) : a ^^^ b < 4294967296 := Nat.xor_lt_two_pow (n := 32) ha hb
theorem down1_lt {c : Nat} (h : c < 4294967296) : down1 c < 4294967296 := by
  unfold down1; split
  · exact xor_lt (by omega) (by decide)
  · omega
theorem downs_lt : ∀ (k c : Nat), c < 4294967296 → downs k c < 4294967296
  | 0, _, h => h
  | k + 1, c, h => downs_lt k _ (down1_lt h)
theorem down8_lt {c : Nat} (h : c < 4294967296) : down8 c < 4294967296 := downs_lt 8 c h
theorem goes_lt : ∀ (bs : List Int) (c : Nat), (∀ b ∈ bs, 0 ≤ b ∧ b ≤ 255) → c < 4294967296 → goes bs c < 4294967296
  | [], _, _, h => h
  | b :: r, c, hb, h => goes_lt r _ (fun x hx => hb x (by simp [hx])) (down8_lt (xor_lt h (by have := hb b (by simp); omega)))
/-- linear. -/
theorem down1_xor (a b : Nat) : down1 (a ^^^ b) = down1 a ^^^ down1 b := by
  have h0 : (a ^^^ b) % 2 ^ 1 = (a % 2 ^ 1) ^^^ (b % 2 ^ 1) := Nat.xor_mod_two_pow
  have h1 : (a ^^^ b) % 2 = (a + b) % 2 := by
    have e : ∀ c : Nat, c % 2 ^ 1 = c % 2 := fun _ => rfl
    rw [e, e, e] at h0
    rw [h0]
    have ha : a % 2 = 0 ∨ a % 2 = 1 := by omega
    have hb : b % 2 = 0 ∨ b % 2 = 1 := by omega
    rcases ha with ha | ha <;> rcases hb with hb | hb <;> rw [ha, hb, Nat.add_mod, ha, hb] <;> rfl
  have h2 : (a ^^^ b) / 2 = a / 2 ^^^ b / 2 := Nat.xor_div_two
  unfold down1
  rw [h1, h2]
  by_cases ha : a % 2 = 1 <;> by_cases hb : b % 2 = 1
  · rw [if_neg (by omega), if_pos ha, if_pos hb]
    rw [Nat.xor_assoc, Nat.xor_comm 3988292384 (b / 2 ^^^ 3988292384), Nat.xor_assoc, Nat.xor_self, Nat.xor_zero]
  · rw [if_pos (by omega), if_pos ha, if_neg hb, Nat.xor_assoc, Nat.xor_comm (b / 2), ← Nat.xor_assoc]
  · rw [if_pos (by omega), if_neg ha, if_pos hb, Nat.xor_assoc]
  · rw [if_neg (by omega), if_neg ha, if_neg hb]
theorem downs_xor : ∀ (k a b : Nat), downs k (a ^^^ b) = downs k a ^^^ downs k b
  | 0, _, _ => rfl
  | k + 1, a, b => by simp only [downs]; rw [down1_xor, downs_xor k]
theorem down8_xor (a b : Nat) : down8 (a ^^^ b) = down8 a ^^^ down8 b := downs_xor 8 a b
/-- what has its lowest bits 0 goes down by them alone. -/
theorem downs_shift : ∀ (k c : Nat), downs k (c * 2 ^ k) = c
  | 0, c => by simp [downs]
  | k + 1, c => by
    simp only [downs]
    have e : c * 2 ^ (k + 1) = 2 * (c * 2 ^ k) := by rw [Nat.pow_succ, ← Nat.mul_assoc, Nat.mul_comm]
    have h : down1 (c * 2 ^ (k + 1)) = c * 2 ^ k := by
      unfold down1; rw [e, if_neg (by omega)]; omega
    rw [h, downs_shift k]
theorem split256 (c : Nat) : c = (c % 256) ^^^ (c / 256 * 256) := by
  have h : c / 256 * 256 = (c / 256) <<< 8 := by rw [Nat.shiftLeft_eq]
  rw [h, Nat.xor_comm]
  apply Nat.eq_of_testBit_eq
  intro i
  have e : c % 256 = c % 2 ^ 8 := rfl
  rw [Nat.testBit_xor, Nat.testBit_shiftLeft, e, Nat.testBit_mod_two_pow]
  have e2 : c / 256 = c >>> 8 := by rw [Nat.shiftRight_eq_div_pow]
  rw [e2, Nat.testBit_shiftRight]
  by_cases hi : i < 8
  · have h8 : ¬ 8 ≤ i := by omega
    simp [hi, h8]
  · have h8 : 8 ≤ i := by omega
    have e3 : 8 + (i - 8) = i := by omega
    simp [hi, h8, e3]
theorem down8_split (c : Nat) : down8 c = down8 (c % 256) ^^^ (c / 256) := by
  have h := down8_xor (c % 256) (c / 256 * 256)
  rw [← split256] at h
  rw [h]
  have h2 : down8 (c / 256 * 256) = c / 256 := downs_shift 8 (c / 256)
  rw [h2]
/-- by the table it is the same. -/
theorem xor_byte_div (c b : Nat) (hb : b < 256) : (c ^^^ b) / 256 = c / 256 := by
  have h : (c ^^^ b) >>> 8 = (c >>> 8) ^^^ (b >>> 8) := Nat.shiftRight_xor_distrib
  rw [Nat.shiftRight_eq_div_pow, Nat.shiftRight_eq_div_pow, Nat.shiftRight_eq_div_pow] at h
  have e : b / 2 ^ 8 = 0 := by omega
  rw [e, Nat.xor_zero] at h
  exact h
theorem table_step (c b : Nat) (hb : b < 256) : down8 (c ^^^ b) = down8 ((c ^^^ b) % 256) ^^^ (c / 256) := by
  rw [down8_split, xor_byte_div c b hb]
theorem updates_table (t : List Int) (ht : ∀ i, i < 256 → (t.getD i 0).toNat = down8 i) : ∀ (bs : List Int) (c : Nat), (∀ b ∈ bs, 0 ≤ b ∧ b ≤ 255) → updates t bs c = goes bs c
  | [], _, _ => rfl
  | b :: r, c, hb => by
    simp only [updates, goes]
    have h1 := hb b (by simp)
    rw [ht _ (Nat.mod_lt _ (by decide)), table_step c b.toNat (by omega)]
    exact updates_table t ht r _ (fun x hx => hb x (by simp [hx]))
/-- one to one. -/
theorem down1_inj {a b : Nat} (ha : a < 4294967296) (hb : b < 4294967296) (h : down1 a = down1 b) : a = b := by
  have hx : ∀ c : Nat, c < 2147483648 → 2147483648 ≤ (c ^^^ 3988292384) := by
    intro c hc
    have h1 : Nat.testBit (c ^^^ 3988292384) 31 = true := by
      rw [Nat.testBit_xor, Nat.testBit_lt_two_pow (show c < 2 ^ 31 from hc)]; decide
    exact Nat.ge_two_pow_of_testBit h1
  unfold down1 at h
  split at h <;> split at h
  · have h2 := congrArg (· ^^^ 3988292384) h
    simp only [Nat.xor_assoc, Nat.xor_self, Nat.xor_zero] at h2
    omega
  · have := hx (a / 2) (by omega); omega
  · have := hx (b / 2) (by omega); omega
  · omega
theorem downs_inj : ∀ (k a b : Nat), a < 4294967296 → b < 4294967296 → downs k a = downs k b → a = b
  | 0, _, _, _, _, h => h
  | k + 1, a, b, ha, hb, h => down1_inj ha hb (downs_inj k _ _ (down1_lt ha) (down1_lt hb) h)
theorem down8_inj {a b : Nat} (ha : a < 4294967296) (hb : b < 4294967296) (h : down8 a = down8 b) : a = b := downs_inj 8 a b ha hb h
theorem xor_cancel {a b c : Nat} (h : a ^^^ c = b ^^^ c) : a = b := by
  have h2 := congrArg (· ^^^ c) h
  simpa only [Nat.xor_assoc, Nat.xor_self, Nat.xor_zero] using h2
theorem goes_inj : ∀ (bs : List Int) (c d : Nat), (∀ b ∈ bs, 0 ≤ b ∧ b ≤ 255) → c < 4294967296 → d < 4294967296 → goes bs c = goes bs d → c = d
  | [], _, _, _, _, _, h => h
  | b :: r, c, d, hb, hc, hd, h => by
    have h1 := hb b (by simp)
    have hb2 : b.toNat < 4294967296 := by omega
    exact xor_cancel (down8_inj (xor_lt hc hb2) (xor_lt hd hb2) (goes_inj r _ _ (fun x hx => hb x (by simp [hx])) (down8_lt (xor_lt hc hb2)) (down8_lt (xor_lt hd hb2)) h))
theorem goes_append : ∀ (xs ys : List Int) (c : Nat), goes (xs ++ ys) c = goes ys (goes xs c)
  | [], _, _ => rfl
  | x :: xs, ys, c => by simp only [List.cons_append, goes]; exact goes_append xs ys _
/-- another byte, another register. -/
theorem goes_set (bs : List Int) (i : Nat) (x c : Int) (hb : ∀ b ∈ bs, 0 ≤ b ∧ b ≤ 255) (hi : i < bs.length) (hx : 0 ≤ x ∧ x ≤ 255) (r : Nat) (hr : r < 4294967296) (h : goes (bs.set i x) r = goes bs r) : x = bs.getD i 0 := by
  have e1 : bs = bs.take i ++ bs.getD i 0 :: bs.drop (i + 1) := by
    have h1 := List.take_append_drop i bs
    rw [List.drop_eq_getElem_cons hi] at h1
    simp only [List.getD, List.getElem?_eq_getElem hi, Option.getD_some]
    exact h1.symm
  have e2 : bs.set i x = bs.take i ++ x :: bs.drop (i + 1) := List.set_eq_take_append_cons_drop ▸ by simp [hi]
  have hg : 0 ≤ bs.getD i 0 ∧ bs.getD i 0 ≤ 255 := hb _ (by simp [List.getD, List.getElem?_eq_getElem hi])
  rw [e2] at h
  have h3 : goes bs r = goes (bs.take i ++ bs.getD i 0 :: bs.drop (i + 1)) r := congrArg (goes · r) e1
  rw [h3, goes_append, goes_append] at h
  have hl := goes_lt (bs.take i) r (fun b hb' => hb b (List.mem_of_mem_take hb')) hr
  simp only [goes] at h
  have h4 := goes_inj _ _ _ (fun b hb' => hb b (List.mem_of_mem_drop hb')) (down8_lt (xor_lt hl (by omega))) (down8_lt (xor_lt hl (by omega))) h
  have h5 := down8_inj (xor_lt hl (by omega)) (xor_lt hl (by omega)) h4
  rw [Nat.xor_comm, Nat.xor_comm _ (bs.getD i 0).toNat] at h5
  have := xor_cancel h5
  omega
/-- three texts, put together. -/
def xor3 (a b c : Int) : Int := ((a.toNat ^^^ b.toNat ^^^ c.toNat : Nat) : Int)
def zip3 : List Int → List Int → List Int → List Int
  | a :: xs, b :: bs, c :: cs => xor3 a b c :: zip3 xs bs cs
  | _, _, _ => []
theorem goes_xor3 : ∀ (xs bs cs : List Int) (x y z : Nat), xs.length = bs.length → xs.length = cs.length →
    goes (zip3 xs bs cs) (x ^^^ y ^^^ z) = goes xs x ^^^ goes bs y ^^^ goes cs z
  | [], bs, cs, x, y, z, h1, h2 => by
    have : bs = [] := List.eq_nil_of_length_eq_zero (by simpa using h1.symm)
    have : cs = [] := List.eq_nil_of_length_eq_zero (by simpa using h2.symm)
    subst_vars; rfl
  | a :: xs, bs, cs, x, y, z, h1, h2 => by
    cases bs with
    | nil => simp at h1
    | cons b bs =>
      cases cs with
      | nil => simp at h2
      | cons c cs =>
        have ih := goes_xor3 xs bs cs (down8 (x ^^^ a.toNat)) (down8 (y ^^^ b.toNat)) (down8 (z ^^^ c.toNat)) (by simpa using h1) (by simpa using h2)
        simp only [zip3, goes]
        rw [← ih, ← down8_xor, ← down8_xor]
        congr 2
        simp only [xor3, Int.toNat_natCast]
        ac_rfl
theorem sum_xor {a : Nat} (h : a < 4294967296) : 4294967295 - a = a ^^^ 4294967295 := by
  have h1 := congrArg BitVec.toNat (BitVec.xor_allOnes (x := BitVec.ofNat 32 a))
  simp only [BitVec.toNat_xor, BitVec.toNat_not, BitVec.toNat_ofNat, BitVec.toNat_allOnes] at h1
  have e : a % 2 ^ 32 = a := Nat.mod_eq_of_lt h
  rw [e] at h1
  exact h1.symm
theorem sumS_xor3 (xs bs cs : List Int) (ha : ∀ b ∈ xs, 0 ≤ b ∧ b ≤ 255) (hb : ∀ b ∈ bs, 0 ≤ b ∧ b ≤ 255) (hc : ∀ b ∈ cs, 0 ≤ b ∧ b ≤ 255) (h1 : xs.length = bs.length) (h2 : xs.length = cs.length) :
    sumS (zip3 xs bs cs) = sumS xs ^^^ sumS bs ^^^ sumS cs := by
  have h := goes_xor3 xs bs cs 4294967295 4294967295 4294967295 h1 h2
  have l1 := goes_lt xs 4294967295 ha (by decide)
  have l2 := goes_lt bs 4294967295 hb (by decide)
  have l3 := goes_lt cs 4294967295 hc (by decide)
  have e : (4294967295 ^^^ 4294967295 ^^^ 4294967295 : Nat) = 4294967295 := by decide
  rw [e] at h
  unfold sumS
  rw [h, sum_xor l1, sum_xor l2, sum_xor l3, sum_xor (xor_lt (xor_lt l1 l2) l3)]
  have e3 : (4294967295 : Nat) = 4294967295 ^^^ 4294967295 ^^^ 4294967295 := by decide
  conv => lhs; rw [e3]
  ac_rfl
end Go.Proofs.Ytipjbgmikbbkoaa
