/- Layer 15: words bit by bit, and what the landed mutex's small functions answer; no condition but those in each theorem. -/
import Derived.Test.YtglldhmdifnobaaMutP
import Derived.Test.YtglldhmdifnobaaAreG
import Derived.Laws.BitsAll
import Derived.Deep.RegionHeld3
import Derived.BigQuiet
import Derived.Deep.QuietTactic
namespace Go.Proofs.Ytglldhmdifnobaa
set_option linter.unusedVariables false
set_option linter.unusedSimpArgs false
open Go.RowKit
theorem ofInt64 (x : Int) : (BitVec.ofInt 64 x).toNat = (x % 2 ^ 64).toNat := by
  rw [BitVec.toNat_ofInt]; rfl
theorem and_low (x : Int) (m : Nat) (hm : m < 8) : bits .and .i64 x (m : Int) = (((x % 8).toNat &&& m : Nat) : Int) := by
  show IntKind.i64.wrap (((BitVec.ofInt 64 x) &&& (BitVec.ofInt 64 (m : Int))).toNat : Int) = _
  have h1 : (BitVec.ofInt 64 (m : Int)).toNat = m := by rw [BitVec.ofInt_natCast, BitVec.toNat_ofNat]; exact Nat.mod_eq_of_lt (by omega)
  rw [BitVec.toNat_and, h1, ofInt64]
  obtain ⟨y, hy⟩ : ∃ y : Nat, (x % 2 ^ 64).toNat = y := ⟨_, rfl⟩
  have h2 : (x % 8).toNat = y % 8 := by omega
  rw [hy, h2]
  have h3 : y &&& m = (y % 8) &&& m := by
    have e : m = m &&& 7 := by
      have := Nat.and_two_pow_sub_one_eq_mod m 3
      simp at this; omega
    have e2 : y % 8 = y &&& 7 := (Nat.and_two_pow_sub_one_eq_mod y 3).symm
    rw [e2, Nat.and_assoc, Nat.and_comm 7 m, ← e]
  rw [h3]
  have h4 : (y % 8) &&& m < 8 := Nat.and_lt_two_pow (n := 3) _ (by omega)
  rw [IntKind.wrap_i64]; omega
theorem and_1 (x : Int) : (bits .and .i64 x 1 != 0) = decide (hasBit x 0) := by
  rw [show (1 : Int) = ((1 : Nat) : Int) from rfl, and_low x 1 (by omega)]
  have h : (x % 8).toNat < 8 := by omega
  have hb : hasBit x 0 ↔ (x % 8).toNat % 2 = 1 := by unfold hasBit; omega
  rw [show decide (hasBit x 0) = decide ((x % 8).toNat % 2 = 1) from decide_eq_decide.2 hb]
  clear hb
  generalize (x % 8).toNat = y at *
  revert y; decide
theorem and_4 (x : Int) : (bits .and .i64 x 4 != 0) = decide (hasBit x 2) := by
  rw [show (4 : Int) = ((4 : Nat) : Int) from rfl, and_low x 4 (by omega)]
  have h : (x % 8).toNat < 8 := by omega
  have hb : hasBit x 2 ↔ (x % 8).toNat / 4 % 2 = 1 := by unfold hasBit; omega
  rw [show decide (hasBit x 2) = decide ((x % 8).toNat / 4 % 2 = 1) from decide_eq_decide.2 hb]
  clear hb
  generalize (x % 8).toNat = y at *
  revert y; decide
theorem and_5 (x : Int) : (bits .and .i64 x 5 != 0) = (decide (hasBit x 0) || decide (hasBit x 2)) := by
  rw [show (5 : Int) = ((5 : Nat) : Int) from rfl, and_low x 5 (by omega)]
  have h : (x % 8).toNat < 8 := by omega
  have hb : hasBit x 2 ↔ (x % 8).toNat / 4 % 2 = 1 := by unfold hasBit; omega
  have hc : hasBit x 0 ↔ (x % 8).toNat % 2 = 1 := by unfold hasBit; omega
  rw [show decide (hasBit x 2) = decide ((x % 8).toNat / 4 % 2 = 1) from decide_eq_decide.2 hb, show decide (hasBit x 0) = decide ((x % 8).toNat % 2 = 1) from decide_eq_decide.2 hc]
  clear hb hc
  generalize (x % 8).toNat = y at *
  revert y; decide
theorem and_7 (x : Int) : (bits .and .i64 x 7 != 0) = (decide (hasBit x 0) || (decide (hasBit x 1) || decide (hasBit x 2))) := by
  rw [show (7 : Int) = ((7 : Nat) : Int) from rfl, and_low x 7 (by omega)]
  have h : (x % 8).toNat < 8 := by omega
  have hb : hasBit x 2 ↔ (x % 8).toNat / 4 % 2 = 1 := by unfold hasBit; omega
  have hd : hasBit x 1 ↔ (x % 8).toNat / 2 % 2 = 1 := by unfold hasBit; omega
  have hc : hasBit x 0 ↔ (x % 8).toNat % 2 = 1 := by unfold hasBit; omega
  rw [show decide (hasBit x 2) = decide ((x % 8).toNat / 4 % 2 = 1) from decide_eq_decide.2 hb, show decide (hasBit x 0) = decide ((x % 8).toNat % 2 = 1) from decide_eq_decide.2 hc, show decide (hasBit x 1) = decide ((x % 8).toNat / 2 % 2 = 1) from decide_eq_decide.2 hd]
  clear hb hd hc
  generalize (x % 8).toNat = y at *
  revert y; decide
theorem low_or (y m : Nat) (hm : m < 8) : y ||| m = 8 * (y / 8) + (y % 8 ||| m) := by
  have h1 : (y ||| m) / 2 ^ 3 = y / 2 ^ 3 ||| m / 2 ^ 3 := Nat.or_div_two_pow
  have h2 : (y ||| m) % 2 ^ 3 = y % 2 ^ 3 ||| m % 2 ^ 3 := Nat.or_mod_two_pow
  rw [show m / 2 ^ 3 = 0 by omega, Nat.or_zero] at h1
  rw [show m % 2 ^ 3 = m by omega] at h2
  have h3 := Nat.div_add_mod (y ||| m) 8
  simp only [show (2 : Nat) ^ 3 = 8 from rfl] at h1 h2
  rw [h1, h2] at h3
  exact h3.symm
theorem or_low (x : Int) (m : Nat) (hm : m < 8) : bits .or .i64 x (m : Int) = IntKind.i64.wrap (x - x % 8 + (((x % 8).toNat ||| m : Nat) : Int)) := by
  show IntKind.i64.wrap (((BitVec.ofInt 64 x) ||| (BitVec.ofInt 64 (m : Int))).toNat : Int) = _
  have h1 : (BitVec.ofInt 64 (m : Int)).toNat = m := by rw [BitVec.ofInt_natCast, BitVec.toNat_ofNat]; exact Nat.mod_eq_of_lt (by omega)
  rw [BitVec.toNat_or, h1, ofInt64, low_or _ _ hm]
  obtain ⟨y, hy⟩ : ∃ y : Nat, (x % 2 ^ 64).toNat = y := ⟨_, rfl⟩
  have h2 : (x % 8).toNat = y % 8 := by omega
  rw [hy, h2, IntKind.wrap_i64, IntKind.wrap_i64]
  generalize y % 8 ||| m = u at *
  omega
theorem not_low (x : Int) : bits .andNot .i64 x 2 = IntKind.i64.wrap (x - (if hasBit x 1 then 2 else 0)) := by
  show IntKind.i64.wrap (((BitVec.ofInt 64 x) &&& ~~~ (BitVec.ofInt 64 2)).toNat : Int) = _
  have h1 : (~~~ (BitVec.ofInt 64 2)).toNat = 2 ^ 64 - 3 := by decide
  rw [BitVec.toNat_and, h1, ofInt64]
  obtain ⟨y, hy⟩ : ∃ y : Nat, (x % 2 ^ 64).toNat = y := ⟨_, rfl⟩
  have hy2 : y < 2 ^ 64 := by omega
  have a1 : (y &&& (2 ^ 64 - 3)) / 2 ^ 3 = y / 2 ^ 3 &&& (2 ^ 64 - 3) / 2 ^ 3 := Nat.and_div_two_pow
  have a2 : (y &&& (2 ^ 64 - 3)) % 2 ^ 3 = y % 2 ^ 3 &&& (2 ^ 64 - 3) % 2 ^ 3 := Nat.and_mod_two_pow
  rw [show (2 ^ 64 - 3) / 2 ^ 3 = 2 ^ 61 - 1 from by decide, Nat.and_two_pow_sub_one_of_lt_two_pow (by omega)] at a1
  rw [show (2 ^ 64 - 3) % 2 ^ 3 = 5 from by decide] at a2
  have a3 := Nat.div_add_mod (y &&& (2 ^ 64 - 3)) 8
  simp only [show (2 : Nat) ^ 3 = 8 from rfl] at a1 a2
  rw [a1, a2] at a3
  have hb : hasBit x 1 ↔ y % 8 / 2 % 2 = 1 := by unfold hasBit; omega
  have hs : ∀ r : Nat, r < 8 → (r &&& 5) + (if r / 2 % 2 = 1 then 2 else 0) = r := by decide
  have hs2 := hs (y % 8) (by omega)
  rw [hy, ← a3, IntKind.wrap_i64, IntKind.wrap_i64]
  by_cases h : hasBit x 1
  · rw [if_pos (hb.1 h)] at hs2; rw [if_pos h]; omega
  · rw [if_neg (fun e => h (hb.2 e))] at hs2; rw [if_neg h]; omega
theorem or_1 (x : Int) : bits .or .i64 x 1 = IntKind.i64.wrap (x + (if hasBit x 0 then 0 else 1)) := by
  rw [show (1 : Int) = ((1 : Nat) : Int) from rfl, or_low x 1 (by omega)]
  have hs : ∀ r : Nat, r < 8 → (r ||| 1) = r + (if r % 2 = 1 then 0 else 1) := by decide
  have hs2 := hs (x % 8).toNat (by omega)
  have hb : hasBit x 0 ↔ (x % 8).toNat % 2 = 1 := by unfold hasBit; omega
  rw [hs2]
  by_cases h : hasBit x 0
  · rw [if_pos (hb.1 h), if_pos h]; congr 1; omega
  · rw [if_neg (fun e => h (hb.2 e)), if_neg h]; congr 1; omega
theorem or_2 (x : Int) : bits .or .i64 x 2 = IntKind.i64.wrap (x + (if hasBit x 1 then 0 else 2)) := by
  rw [show (2 : Int) = ((2 : Nat) : Int) from rfl, or_low x 2 (by omega)]
  have hs : ∀ r : Nat, r < 8 → (r ||| 2) = r + (if r / 2 % 2 = 1 then 0 else 2) := by decide
  have hs2 := hs (x % 8).toNat (by omega)
  have hb : hasBit x 1 ↔ (x % 8).toNat / 2 % 2 = 1 := by unfold hasBit; omega
  rw [hs2]
  by_cases h : hasBit x 1
  · rw [if_pos (hb.1 h), if_pos h]; congr 1; omega
  · rw [if_neg (fun e => h (hb.2 e)), if_neg h]; congr 1; omega
theorem or_4 (x : Int) : bits .or .i64 x 4 = IntKind.i64.wrap (x + (if hasBit x 2 then 0 else 4)) := by
  rw [show (4 : Int) = ((4 : Nat) : Int) from rfl, or_low x 4 (by omega)]
  have hs : ∀ r : Nat, r < 8 → (r ||| 4) = r + (if r / 4 % 2 = 1 then 0 else 4) := by decide
  have hs2 := hs (x % 8).toNat (by omega)
  have hb : hasBit x 2 ↔ (x % 8).toNat / 4 % 2 = 1 := by unfold hasBit; omega
  rw [hs2]
  by_cases h : hasBit x 2
  · rw [if_pos (hb.1 h), if_pos h]; congr 1; omega
  · rw [if_neg (fun e => h (hb.2 e)), if_neg h]; congr 1; omega
theorem res_scc {P : Program} {fn : Func} {tmps : Array Value} {a b c : Nat} {s r : TypeId} {bd cd : Addr} {u x : Value} {w : World} (h : fn.results = #[.tmp a, .cell b s, .cell c r]) (hq : tmps.getD b undef = .pointer (some bd)) (hr : tmps.getD c undef = .pointer (some cd))
    (hm : (loadVar s bd).run P w = .ok u w) (hn : (loadVar r cd).run P w = .ok x w) : (results fn tmps).run P w = .ok (.tuple #[tmps.getD a undef, u, x]) w := by
  unfold results
  rw [h]
  have hq2 : tmps[b]?.getD undef = .pointer (some bd) := by simpa using hq
  have hr2 : tmps[c]?.getD undef = .pointer (some cd) := by simpa using hr
  simp only [List.mapM_toArray, List.mapM_cons, List.mapM_nil]
  simp [Sem.run_bind, hq2, hr2]
  rw [show (Sem.run P (asAddr (Value.pointer (some bd))) w) = Result.ok bd w from rfl]
  simp [hm]
  rw [show (Sem.run P (asAddr (Value.pointer (some cd))) w) = Result.ok cd w from rfl]
  simp [hn]
def TupC (w : World) (r : Int × MFr × MAct) (e : Ending) (w' : World) : Prop := e = .returned (.tuple #[.int .i64 r.1, frV r.2.1, acV r.2.2]) ∧ Below w.heap.size w w'
def behM (old : Int) (b0 b2 st aw : Bool) : Int :=
  bif aw then bits .andNot .i64 (bif st && b0 then bits .or .i64 (bif b0 || b2 then wrap64 ((bif b2 then old else bits .or .i64 old 1) + 8) else (bif b2 then old else bits .or .i64 old 1)) 4 else (bif b0 || b2 then wrap64 ((bif b2 then old else bits .or .i64 old 1) + 8) else (bif b2 then old else bits .or .i64 old 1))) 2
  else (bif st && b0 then bits .or .i64 (bif b0 || b2 then wrap64 ((bif b2 then old else bits .or .i64 old 1) + 8) else (bif b2 then old else bits .or .i64 old 1)) 4 else (bif b0 || b2 then wrap64 ((bif b2 then old else bits .or .i64 old 1) + 8) else (bif b2 then old else bits .or .i64 old 1)))
theorem hasBit0 (x : Int) : hasBit x 0 ↔ x % 2 = 1 := by unfold hasBit; omega
theorem hasBit1 (x : Int) : hasBit x 1 ↔ x / 2 % 2 = 1 := by unfold hasBit; omega
theorem hasBit2 (x : Int) : hasBit x 2 ↔ x / 4 % 2 = 1 := by unfold hasBit; omega
theorem wrap_add (a b : Int) : IntKind.i64.wrap (IntKind.i64.wrap a + b) = IntKind.i64.wrap (a + b) := by simp only [IntKind.wrap_i64]; omega
theorem wrap_sub (a b : Int) : IntKind.i64.wrap (IntKind.i64.wrap a - b) = IntKind.i64.wrap (a - b) := by simp only [IntKind.wrap_i64]; omega
theorem bit_wrap0 (x : Int) : hasBit (IntKind.i64.wrap x) 0 ↔ hasBit x 0 := by rw [hasBit0, hasBit0, IntKind.wrap_i64]; omega
theorem bit_wrap1 (x : Int) : hasBit (IntKind.i64.wrap x) 1 ↔ hasBit x 1 := by rw [hasBit1, hasBit1, IntKind.wrap_i64]; omega
theorem bit_wrap2 (x : Int) : hasBit (IntKind.i64.wrap x) 2 ↔ hasBit x 2 := by rw [hasBit2, hasBit2, IntKind.wrap_i64]; omega
theorem wrap64_eq (x : Int) : wrap64 x = IntKind.i64.wrap x := by simp only [wrap64, IntKind.wrap_i64]; try omega
theorem behM_eq (f : MFr) : behM f.old (decide (hasBit f.old 0)) (decide (hasBit f.old 2)) f.starve f.awoke = stateM f := by
  rw [stateB]
  obtain ⟨op, stage, phase, old, since, left, awoke, starve, need, front⟩ := f
  simp only
  unfold behM stB
  by_cases h0 : hasBit old 0 <;> by_cases h1 : hasBit old 1 <;> by_cases h2 : hasBit old 2 <;> cases starve <;> cases awoke <;> simp only [h0, h1, h2, decide_true, decide_false, Bool.and_true, Bool.true_and, Bool.and_false, Bool.false_and, Bool.or_true, Bool.true_or, Bool.or_false, Bool.false_or, Bool.not_true, Bool.not_false, cond_true, cond_false, if_true, if_false, reduceIte, Bool.false_eq_true, Bool.true_eq_false, wrap64_eq, or_1, or_4, not_low, bit_wrap0, bit_wrap1, bit_wrap2, wrap_add, wrap_sub] <;> simp only [hasBit0, hasBit1, hasBit2] at h0 h1 h2 ⊢ <;> (repeat' split) <;> first | rfl | (congr 1; omega) | omega
end Go.Proofs.Ytglldhmdifnobaa
