/- Plain mathematics of layer 2: groups of seven bits of a number, how many there are, what is read of bytes, and numbers with a sign, turned; no condition but those in each theorem. -/
import Derived.Lib.BitFns
import Derived.Lib.VarintBits
namespace Go.Proofs.Ytkoodhnfphmbnaa
set_option linter.unusedVariables false
set_option linter.unusedSimpArgs false

/-- a number's bytes. -/
def vb (x : Nat) : List Int := if x < 128 then [(x : Int)] else ((x % 128 + 128 : Nat) : Int) :: vb (x / 128)
decreasing_by omega
theorem vb_small {x : Nat} (h : x < 128) : vb x = [(x : Int)] := by rw [vb, if_pos h]
theorem vb_big {x : Nat} (h : ¬ x < 128) : vb x = ((x % 128 + 128 : Nat) : Int) :: vb (x / 128) := by rw [vb, if_neg h]
/-- how many. -/
def vs (x : Nat) : Nat := if x < 128 then 1 else vs (x / 128) + 1
decreasing_by omega
theorem vs_small {x : Nat} (h : x < 128) : vs x = 1 := by rw [vs, if_pos h]
theorem vs_big {x : Nat} (h : ¬ x < 128) : vs x = vs (x / 128) + 1 := by rw [vs, if_neg h]
theorem vs_pos (x : Nat) : 1 ≤ vs x := by rw [vs]; split <;> omega
theorem vb_len (x : Nat) : (vb x).length = vs x := by
  induction x using Nat.strongRecOn with
  | ind x ih =>
    by_cases h : x < 128
    · rw [vb_small h, vs_small h]; rfl
    · rw [vb_big h, vs_big h, List.length_cons, ih _ (by omega)]
theorem vb_byte (x : Nat) : ∀ b ∈ vb x, 0 ≤ b ∧ b ≤ 255 := by
  induction x using Nat.strongRecOn with
  | ind x ih =>
    by_cases h : x < 128
    · rw [vb_small h]; intro b hb; simp at hb; omega
    · rw [vb_big h]; intro b hb
      rcases List.mem_cons.1 hb with h1 | h1
      · omega
      · exact ih _ (by omega) b h1
theorem vs_bit (x : Nat) (hx : x < 18446744073709551616) : max 1 ((Lib.bitLen x + 6) / 7) = vs x := by
  induction x using Nat.strongRecOn with
  | ind x ih =>
    by_cases h : x < 128
    · have := Lib.bitLen_le x 7 (by decide) h
      rw [vs_small h]; omega
    · have h2 := Lib.bitLen_shift 7 x (by omega) (by omega)
      have h3 := ih (x / 128) (by omega) (by omega)
      rw [vs_big h, ← h3]
      have e : x / 2 ^ 7 = x / 128 := rfl
      rw [e] at h2
      have h4 : 1 ≤ Lib.bitLen (x / 128) := by have := Lib.bitLen_half (x / 128) (by omega) (by omega); omega
      omega
theorem vs_le : ∀ (k x : Nat), x < 128 ^ (k + 1) → vs x ≤ k + 1
  | 0, x, h => by rw [vs_small (by simpa using h)]; omega
  | k + 1, x, h => by
    by_cases h1 : x < 128
    · rw [vs_small h1]; omega
    · rw [vs_big h1]
      have := vs_le k (x / 128) (by rw [Nat.pow_succ] at h; omega)
      omega
theorem vs_le10 (x : Nat) (h : x < 18446744073709551616) : vs x ≤ 10 := by
  have e : (128 : Nat) ^ (9 + 1) = 1180591620717411303424 := by decide
  exact vs_le 9 x (by omega)
theorem vs_mono : ∀ (x y : Nat), x ≤ y → vs x ≤ vs y := by
  intro x
  induction x using Nat.strongRecOn with
  | ind x ih =>
    intro y h
    by_cases h1 : x < 128
    · rw [vs_small h1]; exact vs_pos y
    · rw [vs_big h1, vs_big (show ¬ y < 128 by omega)]
      have := ih (x / 128) (by omega) (y / 128) (by omega)
      omega
/-- the number of some groups. -/
def vnum : List Int → Int
  | [] => 0
  | b :: r => b % 128 + 128 * vnum r
theorem vnum_vb (x : Nat) : vnum (vb x) = x := by
  induction x using Nat.strongRecOn with
  | ind x ih =>
    by_cases h : x < 128
    · rw [vb_small h]; simp only [vnum]; omega
    · rw [vb_big h]; simp only [vnum]; rw [ih _ (by omega)]; omega
theorem vb_inj {x y : Nat} (h : vb x = vb y) : x = y := by
  have h1 := vnum_vb x
  rw [h, vnum_vb y] at h1
  omega

/-- what is read: the number, the place behind it, the error; at a place, behind so many groups with such a sum, each unit as great. -/
def rdl : List Int → Nat → Nat → Int → Int → Int × Int × Int
  | [], _, _, _, _ => (0, 0, 2)
  | c :: l, p, i, acc, u =>
    if i = 9 ∧ 1 < c then (0, 0, 4)
    else if 127 < c then rdl l (p + 1) (i + 1) (acc + c % 128 * u) (u * 128)
    else if c = 0 ∧ 0 < i then (0, 0, 3)
    else (acc + c % 128 * u, (p : Int) + 1, 0)
def readS (bs : List Int) (at_ : Int) : Int × Int × Int :=
  if at_ < 0 ∨ (bs.length : Int) < at_ then (0, 0, 1) else rdl (bs.drop at_.toNat) at_.toNat 0 0 1
/-- how great a unit, and a sum below it, may be behind so many groups. -/
def UnitOk (i : Nat) (acc u : Int) : Prop := u = 128 ^ i ∧ 0 ≤ acc ∧ acc < u
theorem unit0 : UnitOk 0 0 1 := ⟨rfl, by decide, by decide⟩
theorem unit_step {i : Nat} {acc u c : Int} (h : UnitOk i acc u) (h0 : 0 ≤ c) : UnitOk (i + 1) (acc + c % 128 * u) (u * 128) := by
  obtain ⟨rfl, h1, h2⟩ := h
  have h3 : (0 : Int) < 128 ^ i := Int.pow_pos (by decide)
  have h4 : 0 ≤ c % 128 := by omega
  have h5 : c % 128 ≤ 127 := by omega
  have h6 : 0 ≤ c % 128 * (128 : Int) ^ i := Int.mul_nonneg h4 (by omega)
  have h7 : c % 128 * (128 : Int) ^ i ≤ 127 * 128 ^ i := Int.mul_le_mul_of_nonneg_right h5 (by omega)
  refine ⟨by rw [Int.pow_succ], by omega, by omega⟩
theorem unit_bound {i : Nat} {acc u c : Int} (h : UnitOk i acc u) (hi : i ≤ 9) : 1 ≤ u ∧ u ≤ 9223372036854775808 ∧ 0 ≤ acc ∧ acc < u ∧ (i < 9 → u ≤ 72057594037927936) := by
  obtain ⟨rfl, h1, h2⟩ := h
  have h3 : (0 : Int) < 128 ^ i := Int.pow_pos (by decide)
  have hp : ∀ k, i ≤ k → (128 : Int) ^ i ≤ 128 ^ k := fun k hk => by
    have : (128 : Nat) ^ i ≤ 128 ^ k := Nat.pow_le_pow_right (by decide) hk
    have e1 : ((128 ^ i : Nat) : Int) = (128 : Int) ^ i := by simp
    have e2 : ((128 ^ k : Nat) : Int) = (128 : Int) ^ k := by simp
    omega
  have e9 : (128 : Int) ^ 9 = 9223372036854775808 := by decide
  have e8 : (128 : Int) ^ 8 = 72057594037927936 := by decide
  have g9 := hp 9 hi
  exact ⟨by omega, by omega, h1, h2, fun h => by have := hp 8 (by omega); omega⟩
theorem unit_term {i : Nat} {acc u c : Int} (h : UnitOk i acc u) (hi : i ≤ 9) (h0 : 0 ≤ c) (hc : ¬ (i = 9 ∧ 1 < c)) : 0 ≤ c % 128 * u ∧ acc + c % 128 * u < 18446744073709551616 ∧ c % 128 * u ≤ 9223372036854775808 := by
  obtain ⟨u0, u1, a0, a1, u2⟩ := unit_bound (c := c) h hi
  have h4 : 0 ≤ c % 128 := by omega
  have h5 : c % 128 ≤ 127 := by omega
  have h6 : 0 ≤ c % 128 * u := Int.mul_nonneg h4 (by omega)
  by_cases h9 : i = 9
  · have h7 : c % 128 * u ≤ 1 * u := Int.mul_le_mul_of_nonneg_right (by omega) (by omega)
    exact ⟨h6, by omega, by omega⟩
  · have h7 : c % 128 * u ≤ 127 * u := Int.mul_le_mul_of_nonneg_right h5 (by omega)
    have := u2 (by omega)
    exact ⟨h6, by omega, by omega⟩
theorem rdl_nil (p i : Nat) (acc u : Int) : rdl [] p i acc u = (0, 0, 2) := rfl
theorem rdl_long {c : Int} {l : List Int} {p : Nat} {acc u : Int} (h : 1 < c) : rdl (c :: l) p 9 acc u = (0, 0, 4) := by rw [rdl, if_pos ⟨rfl, h⟩]
theorem rdl_more {c : Int} {l : List Int} {p i : Nat} {acc u : Int} (h : ¬ (i = 9 ∧ 1 < c)) (h1 : 127 < c) : rdl (c :: l) p i acc u = rdl l (p + 1) (i + 1) (acc + c % 128 * u) (u * 128) := by rw [rdl, if_neg h, if_pos h1]
theorem rdl_form {l : List Int} {p i : Nat} {acc u : Int} (h : 0 < i) : rdl (0 :: l) p i acc u = (0, 0, 3) := by rw [rdl, if_neg (by omega), if_neg (by omega), if_pos ⟨rfl, h⟩]
theorem rdl_last {c : Int} {l : List Int} {p i : Nat} {acc u : Int} (h : ¬ (i = 9 ∧ 1 < c)) (h1 : ¬ 127 < c) (h2 : ¬ (c = 0 ∧ 0 < i)) : rdl (c :: l) p i acc u = (acc + c % 128 * u, (p : Int) + 1, 0) := by rw [rdl, if_neg h, if_neg h1, if_neg h2]

/-- a number with a sign, turned; and turned back. -/
def zig (y : Int) : Int := if y < 0 then -2 * y - 1 else 2 * y
def zag (x : Int) : Int := if x % 2 = 1 then -(x / 2) - 1 else x / 2
theorem zig_zag (x : Int) (h : 0 ≤ x) : zig (zag x) = x := by unfold zig zag; split <;> split <;> omega
theorem zag_zig (y : Int) : zag (zig y) = y := by unfold zig zag; split <;> split <;> omega
theorem zag0 : zag 0 = 0 := by decide
theorem zig_inj {x y : Int} (h : zig x = zig y) : x = y := by rw [← zag_zig x, h, zag_zig]
def readIntS (bs : List Int) (at_ : Int) : Int × Int × Int := (zag (readS bs at_).1, (readS bs at_).2.1, (readS bs at_).2.2)

/-- what is written is read as it was. -/
theorem rdl_back : ∀ (x : Nat) (l : List Int) (p i : Nat) (acc u : Int), x < 128 ^ (9 - i) * 2 → i ≤ 9 → (0 < i → 0 < x) →
    rdl (vb x ++ l) p i acc u = (acc + x * u, (p : Int) + vs x, 0) := by
  intro x
  induction x using Nat.strongRecOn with
  | ind x ih =>
    intro l p i acc u hx hi h0
    by_cases h : x < 128
    · rw [vb_small h, vs_small h, List.singleton_append, rdl_last]
      · have e : (x : Int) % 128 = x := by omega
        rw [e]; rfl
      · rintro ⟨rfl, h1⟩; simp at hx; omega
      · omega
      · omega
    · have hi9 : i ≠ 9 := by rintro rfl; simp at hx; omega
      have e9 : 9 - i = 9 - (i + 1) + 1 := by omega
      have hx2 : x / 128 < 128 ^ (9 - (i + 1)) * 2 := by
        rw [e9, Nat.pow_succ] at hx; omega
      rw [vb_big h, vs_big h, List.cons_append, rdl_more (by omega) (by omega), ih (x / 128) (by omega) l (p + 1) (i + 1) _ _ hx2 (by omega) (by omega)]
      have e1 : ((x % 128 + 128 : Nat) : Int) % 128 = ((x % 128 : Nat) : Int) := by omega
      have e2 : (x : Int) = ((x % 128 : Nat) : Int) + 128 * ((x / 128 : Nat) : Int) := by omega
      rw [e1]
      refine Prod.ext ?_ (Prod.ext ?_ rfl)
      · show acc + _ * u + ((x / 128 : Nat) : Int) * (u * 128) = acc + (x : Int) * u
        have e3 : ((x / 128 : Nat) : Int) * (u * 128) = 128 * ((x / 128 : Nat) : Int) * u := by rw [Int.mul_comm u 128, ← Int.mul_assoc, Int.mul_comm _ 128]
        rw [e3, Int.add_assoc, ← Int.add_mul, ← e2]
      · show ((p + 1 : Nat) : Int) + ((vs (x / 128) : Nat) : Int) = (p : Int) + ((vs (x / 128) + 1 : Nat) : Int)
        omega
theorem readS_back (a b : List Int) (x : Nat) (hx : x < 18446744073709551616) : readS (a ++ vb x ++ b) a.length = ((x : Int), ((a ++ vb x).length : Int), 0) := by
  unfold readS
  rw [if_neg (by simp only [List.length_append]; omega)]
  have e : (a ++ vb x ++ b).drop ((a.length : Nat) : Int).toNat = vb x ++ b := by simp
  have e9 : (128 : Nat) ^ 9 = 9223372036854775808 := by decide
  rw [e, rdl_back x b _ 0 0 1 (by show x < 128 ^ 9 * 2; omega) (by omega) (by omega), List.length_append, vb_len]
  simp
/-- cut anywhere it ends too early. -/
theorem rdl_cut : ∀ (x : Nat) (k p i : Nat) (acc u : Int), k < vs x → x < 128 ^ (9 - i) * 2 → i ≤ 9 → rdl ((vb x).take k) p i acc u = (0, 0, 2) := by
  intro x
  induction x using Nat.strongRecOn with
  | ind x ih =>
    intro k p i acc u hk hx hi
    cases k with
    | zero => rfl
    | succ k =>
      by_cases h : x < 128
      · rw [vs_small h] at hk; omega
      · have hi9 : i ≠ 9 := by rintro rfl; simp at hx; omega
        have e9 : 9 - i = 9 - (i + 1) + 1 := by omega
        have hx2 : x / 128 < 128 ^ (9 - (i + 1)) * 2 := by
          rw [e9, Nat.pow_succ] at hx; omega
        rw [vs_big h] at hk
        rw [vb_big h, List.take_succ_cons, rdl_more (by omega) (by omega)]
        exact ih (x / 128) (by omega) k _ _ _ _ (by omega) hx2 (by omega)
theorem readS_cut (a : List Int) (x k : Nat) (hx : x < 18446744073709551616) (h1 : a.length ≤ k) (h2 : k < a.length + vs x) : readS ((a ++ vb x).take k) a.length = (0, 0, 2) := by
  unfold readS
  have hl : ((a ++ vb x).take k).length = k := by rw [List.length_take, List.length_append, vb_len]; omega
  rw [hl, if_neg (by omega)]
  have e : ((a ++ vb x).take k).drop ((a.length : Nat) : Int).toNat = (vb x).take (k - a.length) := by
    simp [List.drop_take]
  have e9 : (128 : Nat) ^ 9 = 9223372036854775808 := by decide
  rw [e, rdl_cut x _ _ 0 0 1 (by omega) (by show x < 128 ^ 9 * 2; omega) (by omega)]
/-- what is read has just the bytes that are written of it. -/
theorem rdl_short : ∀ (l : List Int) (p i : Nat) (acc u x n : Int), (∀ b ∈ l, 0 ≤ b ∧ b ≤ 255) → i ≤ 9 → rdl l p i acc u = (x, n, 0) →
    ∃ (y m : Nat), m ≤ l.length ∧ x = acc + (y : Int) * u ∧ n = (p : Int) + m ∧ vb y = l.take m ∧ vs y = m ∧ (0 < i → 0 < y) ∧ y < 128 ^ (9 - i) * 2
  | [], p, i, acc, u, x, n, hb, hi, h => by rw [rdl_nil] at h; cases h
  | c :: l, p, i, acc, u, x, n, hb, hi, h => by
    have hc := hb c (by simp)
    have hpos : 0 < 128 ^ (9 - i) := Nat.pow_pos (by decide)
    by_cases h9 : i = 9 ∧ 1 < c
    · obtain ⟨rfl, h9⟩ := h9; rw [rdl_long h9] at h; cases h
    · by_cases h1 : 127 < c
      · have hi9 : i ≠ 9 := by omega
        rw [rdl_more h9 h1] at h
        obtain ⟨y, m, hm, hx, hn, hv, hs, hp, hlt⟩ := rdl_short l (p + 1) (i + 1) _ _ x n (fun b hb' => hb b (by simp [hb'])) (by omega) h
        have hy := hp (by omega)
        have ec : (((c % 128).toNat : Nat) : Int) = c % 128 := by omega
        have hd : ((c % 128).toNat + 128 * y) / 128 = y := by omega
        have hr : (((c % 128).toNat + 128 * y) % 128 + 128 : Nat) = c.toNat := by omega
        refine ⟨(c % 128).toNat + 128 * y, m + 1, by simpa using hm, ?_, by omega, ?_, ?_, by omega, ?_⟩
        · rw [hx]
          have e3 : ((y : Nat) : Int) * (u * 128) = 128 * (y : Int) * u := by rw [Int.mul_comm u 128, ← Int.mul_assoc, Int.mul_comm _ 128]
          rw [e3, Int.add_assoc, ← Int.add_mul]
          congr 2; omega
        · rw [vb_big (by omega), hd, hr, List.take_succ_cons, hv]
          congr 1; omega
        · rw [vs_big (by omega), hd, hs]
        · have e9 : 9 - i = 9 - (i + 1) + 1 := by omega
          rw [e9, Nat.pow_succ]; omega
      · by_cases h0 : c = 0 ∧ 0 < i
        · obtain ⟨rfl, h0⟩ := h0; rw [rdl_form h0] at h; cases h
        · rw [rdl_last h9 h1 h0] at h
          injection h with e1 e2
          injection e2 with e2 e3
          refine ⟨c.toNat, 1, by simp, ?_, by omega, ?_, vs_small (by omega), by omega, ?_⟩
          · rw [← e1]
            have : c % 128 = (c.toNat : Int) := by omega
            rw [this]
          · rw [vb_small (by omega)]
            simp; omega
          · by_cases h9 : i = 9
            · subst h9; simp; omega
            · have e9 : 9 - i = 9 - (i + 1) + 1 := by omega
              have hpos : 0 < 128 ^ (9 - (i + 1)) := Nat.pow_pos (by decide)
              rw [e9, Nat.pow_succ]; omega
theorem readS_short (bs : List Int) (k : Nat) (x n : Int) (hb : ∀ b ∈ bs, 0 ≤ b ∧ b ≤ 255) (hk : k ≤ bs.length) (h : readS bs k = (x, n, 0)) :
    ∃ (y m : Nat), x = y ∧ n = ((k + m : Nat) : Int) ∧ 1 ≤ m ∧ k + m ≤ bs.length ∧ vb y = (bs.drop k).take m ∧ vs y = m ∧ y < 18446744073709551616 := by
  unfold readS at h
  rw [if_neg (by omega)] at h
  obtain ⟨y, m, hm, hx, hn, hv, hs, _, hlt⟩ := rdl_short _ _ _ _ _ x n (fun b hb' => hb b (List.mem_of_mem_drop hb')) (by omega) h
  have e : ((k : Nat) : Int).toNat = k := by omega
  rw [e] at hm hn hv
  rw [List.length_drop] at hm
  have e9 : (128 : Nat) ^ 9 = 9223372036854775808 := by decide
  have hlt' : y < 128 ^ 9 * 2 := hlt
  have := vs_pos y
  exact ⟨y, m, by omega, by omega, by omega, by omega, hv, hs, by omega⟩
/-- beside an error all is 0. -/
theorem rdl_err : ∀ (l : List Int) (p i : Nat) (acc u x n e : Int), rdl l p i acc u = (x, n, e) → e ≠ 0 → x = 0 ∧ n = 0
  | [], p, i, acc, u, x, n, e, h, he => by rw [rdl_nil] at h; injection h with h1 h2; injection h2 with h2 h3; exact ⟨h1.symm, h2.symm⟩
  | c :: l, p, i, acc, u, x, n, e, h, he => by
    rw [rdl] at h
    split at h
    · injection h with h1 h2; injection h2 with h2 h3; exact ⟨h1.symm, h2.symm⟩
    · split at h
      · exact rdl_err l _ _ _ _ x n e h he
      · split at h
        · injection h with h1 h2; injection h2 with h2 h3; exact ⟨h1.symm, h2.symm⟩
        · injection h with h1 h2; injection h2 with h2 h3; exact absurd h3.symm he
theorem readS_err (bs : List Int) (at_ x n e : Int) (h : readS bs at_ = (x, n, e)) (he : e ≠ 0) : x = 0 ∧ n = 0 := by
  unfold readS at h
  split at h
  · injection h with h1 h2; injection h2 with h2 h3; exact ⟨h1.symm, h2.symm⟩
  · exact rdl_err _ _ _ _ _ x n e h he
end Go.Proofs.Ytkoodhnfphmbnaa
