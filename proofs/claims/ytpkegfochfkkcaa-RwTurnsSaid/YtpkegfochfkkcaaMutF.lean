/- Layer 15: words bit by bit, and what the landed mutex's small functions answer; no condition but those in each theorem. -/
import Derived.Test.YtpkegfochfkkcaaMutP
import Derived.Test.YtpkegfochfkkcaaAreG
import Derived.Laws.BitsAll
import Derived.Deep.RegionHeld3
import Derived.BigQuiet
import Derived.Deep.QuietTactic
namespace Go.Proofs.Ytpkegfochfkkcaa
set_option linter.unusedVariables false
set_option linter.unusedSimpArgs false
open Go.RowKit
theorem ofInt64 (x : Int) : (BitVec.ofInt 64 x).toNat = (x % 2 ^ 64).toNat := by
  rw [BitVec.toNat_ofInt]; rfl
theorem and_low (x : Int) (m : Nat) (hm : m < 8) : bits .and .i64 x (m : Int) = (((x % 8).toNat &&& m : Nat) : Int) := by
  show IntKind.i64.wrap (((BitVec.ofInt 64 x) &&& (BitVec.ofInt 64 (m : Int))).toNat : Int) = _
  have h1 : (BitVec.ofInt 64 (m : Int)).toNat = m := by rw [BitVec.ofInt_natCast, BitVec.toNat_ofNat]; exact Nat.mod_eq_of_lt (by omega)
  rw [BitVec.toNat_and, h1, ofInt64]
  obtain ⟨y, hy⟩ : ∃ y : Nat, (x % 2 ^ 64).toNat = y := ⟨_, rfl⟩
  have h2 : (x % 8).toNat = y % 8 := by omega
  rw [hy, h2]
  have h3 : y &&& m = (y % 8) &&& m := by
    have e : m = m &&& 7 := by
      have := Nat.and_two_pow_sub_one_eq_mod m 3
      simp at this; omega
    have e2 : y % 8 = y &&& 7 := (Nat.and_two_pow_sub_one_eq_mod y 3).symm
    rw [e2, Nat.and_assoc, Nat.and_comm 7 m, ← e]
  rw [h3]
  have h4 : (y % 8) &&& m < 8 := Nat.and_lt_two_pow (n := 3) _ (by omega)
  rw [IntKind.wrap_i64]; omega
theorem and_1 (x : Int) : (bits .and .i64 x 1 != 0) = decide (hasBit x 0) := by
  rw [show (1 : Int) = ((1 : Nat) : Int) from rfl, and_low x 1 (by omega)]
  have h : (x % 8).toNat < 8 := by omega
  have hb : hasBit x 0 ↔ (x % 8).toNat % 2 = 1 := by unfold hasBit; omega
  rw [show decide (hasBit x 0) = decide ((x % 8).toNat % 2 = 1) from decide_eq_decide.2 hb]
  clear hb
  generalize (x % 8).toNat = y at *
  revert y; decide
theorem and_4 (x : Int) : (bits .and .i64 x 4 != 0) = decide (hasBit x 2) := by
  rw [show (4 : Int) = ((4 : Nat) : Int) from rfl, and_low x 4 (by omega)]
  have h : (x % 8).toNat < 8 := by omega
  have hb : hasBit x 2 ↔ (x % 8).toNat / 4 % 2 = 1 := by unfold hasBit; omega
  rw [show decide (hasBit x 2) = decide ((x % 8).toNat / 4 % 2 = 1) from decide_eq_decide.2 hb]
  clear hb
  generalize (x % 8).toNat = y at *
  revert y; decide
theorem and_5 (x : Int) : (bits .and .i64 x 5 != 0) = (decide (hasBit x 0) || decide (hasBit x 2)) := by
  rw [show (5 : Int) = ((5 : Nat) : Int) from rfl, and_low x 5 (by omega)]
  have h : (x % 8).toNat < 8 := by omega
  have hb : hasBit x 2 ↔ (x % 8).toNat / 4 % 2 = 1 := by unfold hasBit; omega
  have hc : hasBit x 0 ↔ (x % 8).toNat % 2 = 1 := by unfold hasBit; omega
  rw [show decide (hasBit x 2) = decide ((x % 8).toNat / 4 % 2 = 1) from decide_eq_decide.2 hb, show decide (hasBit x 0) = decide ((x % 8).toNat % 2 = 1) from decide_eq_decide.2 hc]
  clear hb hc
  generalize (x % 8).toNat = y at *
  revert y; decide
theorem and_7 (x : Int) : (bits .and .i64 x 7 != 0) = (decide (hasBit x 0) || (decide (hasBit x 1) || decide (hasBit x 2))) := by
  rw [show (7 : Int) = ((7 : Nat) : Int) from rfl, and_low x 7 (by omega)]
  have h : (x % 8).toNat < 8 := by omega
  have hb : hasBit x 2 ↔ (x % 8).toNat / 4 % 2 = 1 := by unfold hasBit; omega
  have hd : hasBit x 1 ↔ (x % 8).toNat / 2 % 2 = 1 := by unfold hasBit; omega
  have hc : hasBit x 0 ↔ (x % 8).toNat % 2 = 1 := by unfold hasBit; omega
  rw [show decide (hasBit x 2) = decide ((x % 8).toNat / 4 % 2 = 1) from decide_eq_decide.2 hb, show decide (hasBit x 0) = decide ((x % 8).toNat % 2 = 1) from decide_eq_decide.2 hc, show decide (hasBit x 1) = decide ((x % 8).toNat / 2 % 2 = 1) from decide_eq_decide.2 hd]
  clear hb hd hc
  generalize (x % 8).toNat = y at *
  revert y; decide
theorem low_or (y m : Nat) (hm : m < 8) : y ||| m = 8 * (y / 8) + (y % 8 ||| m) := by
  have h1 : (y ||| m) / 2 ^ 3 = y / 2 ^ 3 ||| m / 2 ^ 3 := Nat.or_div_two_pow
  have h2 : (y ||| m) % 2 ^ 3 = y % 2 ^ 3 ||| m % 2 ^ 3 := Nat.or_mod_two_pow
  rw [show m / 2 ^ 3 = 0 by omega, Nat.or_zero] at h1
  rw [show m % 2 ^ 3 = m by omega] at h2
  have h3 := Nat.div_add_mod (y ||| m) 8
  simp only [show (2 : Nat) ^ 3 = 8 from rfl] at h1 h2
  rw [h1, h2] at h3
  exact h3.symm
theorem or_low (x : Int) (m : Nat) (hm : m < 8) : bits .or .i64 x (m : Int) = IntKind.i64.wrap (x - x % 8 + (((x % 8).toNat ||| m : Nat) : Int)) := by
  show IntKind.i64.wrap (((BitVec.ofInt 64 x) ||| (BitVec.ofInt 64 (m : Int))).toNat : Int) = _
  have h1 : (BitVec.ofInt 64 (m : Int)).toNat = m := by rw [BitVec.ofInt_natCast, BitVec.toNat_ofNat]; exact Nat.mod_eq_of_lt (by omega)
  rw [BitVec.toNat_or, h1, ofInt64, low_or _ _ hm]
  obtain ⟨y, hy⟩ : ∃ y : Nat, (x % 2 ^ 64).toNat = y := ⟨_, rfl⟩
  have h2 : (x % 8).toNat = y % 8 := by omega
  rw [hy, h2, IntKind.wrap_i64, IntKind.wrap_i64]
  generalize y % 8 ||| m = u at *
  omega
theorem not_low (x : Int) : bits .andNot .i64 x 2 = IntKind.i64.wrap (x - (if hasBit x 1 then 2 else 0)) := by
  show IntKind.i64.wrap (((BitVec.ofInt 64 x) &&& ~~~ (BitVec.ofInt 64 2)).toNat : Int) = _
  have h1 : (~~~ (BitVec.ofInt 64 2)).toNat = 2 ^ 64 - 3 := by decide
  rw [BitVec.toNat_and, h1, ofInt64]
  obtain ⟨y, hy⟩ : ∃ y : Nat, (x % 2 ^ 64).toNat = y := ⟨_, rfl⟩
  have hy2 : y < 2 ^ 64 := by omega
  have a1 : (y &&& (2 ^ 64 - 3)) / 2 ^ 3 = y / 2 ^ 3 &&& (2 ^ 64 - 3) / 2 ^ 3 := Nat.and_div_two_pow
  have a2 : (y &&& (2 ^ 64 - 3)) % 2 ^ 3 = y % 2 ^ 3 &&& (2 ^ 64 - 3) % 2 ^ 3 := Nat.and_mod_two_pow
  rw [show (2 ^ 64 - 3) / 2 ^ 3 = 2 ^ 61 - 1 from by decide, Nat.and_two_pow_sub_one_of_lt_two_pow (by omega)] at a1
  rw [show (2 ^ 64 - 3) % 2 ^ 3 = 5 from by decide] at a2
  have a3 := Nat.div_add_mod (y &&& (2 ^ 64 - 3)) 8
  simp only [show (2 : Nat) ^ 3 = 8 from rfl] at a1 a2
  rw [a1, a2] at a3
  have hb : hasBit x 1 ↔ y % 8 / 2 % 2 = 1 := by unfold hasBit; omega
  have hs : ∀ r : Nat, r < 8 → (r &&& 5) + (if r / 2 % 2 = 1 then 2 else 0) = r := by decide
  have hs2 := hs (y % 8) (by omega)
  rw [hy, ← a3, IntKind.wrap_i64, IntKind.wrap_i64]
  by_cases h : hasBit x 1
  · rw [if_pos (hb.1 h)] at hs2; rw [if_pos h]; omega
  · rw [if_neg (fun e => h (hb.2 e))] at hs2; rw [if_neg h]; omega
theorem or_1 (x : Int) : bits .or .i64 x 1 = IntKind.i64.wrap (x + (if hasBit x 0 then 0 else 1)) := by
  rw [show (1 : Int) = ((1 : Nat) : Int) from rfl, or_low x 1 (by omega)]
  have hs : ∀ r : Nat, r < 8 → (r ||| 1) = r + (if r % 2 = 1 then 0 else 1) := by decide
  have hs2 := hs (x % 8).toNat (by omega)
  have hb : hasBit x 0 ↔ (x % 8).toNat % 2 = 1 := by unfold hasBit; omega
  rw [hs2]
  by_cases h : hasBit x 0
  · rw [if_pos (hb.1 h), if_pos h]; congr 1; omega
  · rw [if_neg (fun e => h (hb.2 e)), if_neg h]; congr 1; omega
theorem or_2 (x : Int) : bits .or .i64 x 2 = IntKind.i64.wrap (x + (if hasBit x 1 then 0 else 2)) := by
  rw [show (2 : Int) = ((2 : Nat) : Int) from rfl, or_low x 2 (by omega)]
  have hs : ∀ r : Nat, r < 8 → (r ||| 2) = r + (if r / 2 % 2 = 1 then 0 else 2) := by decide
  have hs2 := hs (x % 8).toNat (by omega)
  have hb : hasBit x 1 ↔ (x % 8).toNat / 2 % 2 = 1 := by unfold hasBit; omega
  rw [hs2]
  by_cases h : hasBit x 1
  · rw [if_pos (hb.1 h), if_pos h]; congr 1; omega
  · rw [if_neg (fun e => h (hb.2 e)), if_neg h]; congr 1; omega
theorem or_4 (x : Int) : bits .or .i64 x 4 = IntKind.i64.wrap (x + (if hasBit x 2 then 0 else 4)) := by
  rw [show (4 : Int) = ((4 : Nat) : Int) from rfl, or_low x 4 (by omega)]
  have hs : ∀ r : Nat, r < 8 → (r ||| 4) = r + (if r / 4 % 2 = 1 then 0 else 4) := by decide
  have hs2 := hs (x % 8).toNat (by omega)
  have hb : hasBit x 2 ↔ (x % 8).toNat / 4 % 2 = 1 := by unfold hasBit; omega
  rw [hs2]
  by_cases h : hasBit x 2
  · rw [if_pos (hb.1 h), if_pos h]; congr 1; omega
  · rw [if_neg (fun e => h (hb.2 e)), if_neg h]; congr 1; omega
theorem res_scc {P : Program} {fn : Func} {tmps : Array Value} {a b c : Nat} {s r : TypeId} {bd cd : Addr} {u x : Value} {w : World} (h : fn.results = #[.tmp a, .cell b s, .cell c r]) (hq : tmps.getD b undef = .pointer (some bd)) (hr : tmps.getD c undef = .pointer (some cd))
    (hm : (loadVar s bd).run P w = .ok u w) (hn : (loadVar r cd).run P w = .ok x w) : (results fn tmps).run P w = .ok (.tuple #[tmps.getD a undef, u, x]) w := by
  unfold results
  rw [h]
  have hq2 : tmps[b]?.getD undef = .pointer (some bd) := by simpa using hq
  have hr2 : tmps[c]?.getD undef = .pointer (some cd) := by simpa using hr
  simp only [List.mapM_toArray, List.mapM_cons, List.mapM_nil]
  simp [Sem.run_bind, hq2, hr2]
  rw [show (Sem.run P (asAddr (Value.pointer (some bd))) w) = Result.ok bd w from rfl]
  simp [hm]
  rw [show (Sem.run P (asAddr (Value.pointer (some cd))) w) = Result.ok cd w from rfl]
  simp [hn]
def TupC (w : World) (r : Int × MFr × MAct) (e : Ending) (w' : World) : Prop := e = .returned (.tuple #[.int .i64 r.1, frV r.2.1, acV r.2.2]) ∧ Below w.heap.size w w'
set_option maxRecDepth 100000 in
set_option maxHeartbeats 16000000 in
theorem muHas_any (x m : Int) (r : Bool) (hr : (bits .and .i64 x m != 0) = r) (w : World) : Calls Try.prog 55 #[.int .i64 x, .int .i64 m] w (fun e w' => e = .returned (.bool r) ∧ w' = w) := by
  go_enter Try.func55, Try.ntmps55
  go_wp2
  go_ret
  exact ⟨rfl, rfl⟩
theorem muHas1 (x : Int) (w : World) : Calls Try.prog 55 #[.int .i64 x, .int .i64 1] w (fun e w' => e = .returned (.bool (decide (hasBit x 0))) ∧ w' = w) := muHas_any x 1 _ (and_1 x) w
theorem muHas4 (x : Int) (w : World) : Calls Try.prog 55 #[.int .i64 x, .int .i64 4] w (fun e w' => e = .returned (.bool (decide (hasBit x 2))) ∧ w' = w) := muHas_any x 4 _ (and_4 x) w
theorem muHas5 (x : Int) (w : World) : Calls Try.prog 55 #[.int .i64 x, .int .i64 5] w (fun e w' => e = .returned (.bool (decide (hasBit x 0) || decide (hasBit x 2))) ∧ w' = w) := muHas_any x 5 _ (and_5 x) w
theorem muHas7 (x : Int) (w : World) : Calls Try.prog 55 #[.int .i64 x, .int .i64 7] w (fun e w' => e = .returned (.bool (decide (hasBit x 0) || (decide (hasBit x 1) || decide (hasBit x 2)))) ∧ w' = w) := muHas_any x 7 _ (and_7 x) w
set_option maxRecDepth 100000 in
set_option maxHeartbeats 16000000 in
theorem muMany_any (x : Int) (w : World) : Calls Try.prog 57 #[.int .i64 x] w (fun e w' => e = .returned (.int .i64 (x / 8)) ∧ w' = w) := by
  go_enter Try.func57, Try.ntmps57
  go_wp2
  go_ret
  exact ⟨rfl, rfl⟩
set_option maxRecDepth 100000 in
set_option maxHeartbeats 16000000 in
theorem muDone_any (z : Int) (w : World) : Calls Try.prog 56 #[.int .i64 z] w (fun e w' => e = .returned (.tuple #[.int .i64 z, .agg #[.int .i64 0, .int .i64 0, .int .i64 0, .int .i64 0, .int .i64 0, .int .i64 0, .bool false, .bool false, .int .i64 0, .bool false], .agg #[.bool true, .bool false, .bool false, .int .i64 0, .int .i64 0, .int .u64 0, .slice none 0 0]]) ∧ Below w.heap.size w w') := by
  obtain ⟨v1, hv1, z1, v2, hv2, z2, F⟩ := boxes2 w (.cells #[.int .i64 0, .int .i64 0, .int .i64 0, .int .i64 0, .int .i64 0, .int .i64 0, .bool false, .bool false, .int .i64 0, .bool false] 31) (.cells #[.bool false, .bool false, .bool false, .int .i64 0, .int .i64 0, .int .u64 0, .slice none 0 0] 38)
  generalize hq : w.heap.size = q at *
  have FR := Lib.hid F
  clear F
  go_enter Try.func56, Try.ntmps56
  obtain ⟨mw3r, w3r, hw3r, hse, F⟩ := FR.out.put10 0 rfl (b := q) rfl (.int .i64 0) (.int .i64 0) (.int .i64 0) (.int .i64 0) (.int .i64 0) (.int .i64 0) (.bool false) (.bool false) (.int .i64 0) (.bool false)
  replace FR := F
  clear F hse
  obtain ⟨mw4r, w4r, hw4r, hse, F⟩ := FR.out.put7 1 rfl (b := q + 1) rfl (.bool true) (.bool false) (.bool false) (.int .i64 0) (.int .i64 0) (.int .u64 0) (.slice none 0 0)
  replace FR := F
  clear F hse
  go_wp2
  refine bodyPost_ret (res_scc Try.results56 (by rfl) (by rfl) (FR.out.load 0 rfl rfl Try.underlying31 (by kernel_rfl)) (FR.out.load 1 rfl rfl Try.underlying38 (by kernel_rfl))) rfl ?_
  exact ⟨rfl, FR.out.bel⟩
set_option maxRecDepth 100000 in
set_option maxHeartbeats 16000000 in
theorem muAtOnce_any (o0 : Int) (f : MFr) (hp : f.phase = 0) (now pat : Int) (w : World) : Calls Try.prog 50 #[.int .i64 o0, frV f] w (TupC w (lockM o0 f now pat)) := by
  obtain ⟨op, stage, phase, old, since, left, awoke, starve, need, front⟩ := f
  have hp2 : phase = 0 := hp
  subst hp2
  clear hp
  unfold frV frC
  simp only
  obtain ⟨v1, hv1, z1, v2, hv2, z2, v3, hv3, z3, F⟩ := boxes3 w (.cells #[.int .i64 op, .int .i64 stage, .int .i64 0, .int .i64 old, .int .i64 since, .int .i64 left, .bool awoke, .bool starve, .int .i64 need, .bool front] 31) (.cells #[.int .i64 0, .int .i64 0, .int .i64 0, .int .i64 0, .int .i64 0, .int .i64 0, .bool false, .bool false, .int .i64 0, .bool false] 31) (.cells #[.bool false, .bool false, .bool false, .int .i64 0, .int .i64 0, .int .u64 0, .slice none 0 0] 38)
  generalize hq : w.heap.size = q at *
  have FR := Lib.hid F
  clear F
  by_cases h0 : o0 = 0
  · subst h0
    have b0 : ((0 : Int) == 0) = true := rfl
    have HE := Lib.hid (show lockM 0 ⟨op, stage, 0, old, since, left, awoke, starve, need, front⟩ now pat = (1, noF, doneA) from if_pos ⟨rfl, rfl⟩)
    go_enter Try.func50, Try.ntmps50
    go_wp2_with fail
    refine (muDone_any 1 _).mono ?_
    rintro e w4 ⟨rfl, hb⟩
    replace FR := Lib.hid (FR.out.step hb)
    clear hb
    obtain ⟨mw5r, w5r, hw5r, hse, F⟩ := FR.out.put10 1 rfl (b := q + 1) rfl (.int .i64 0) (.int .i64 0) (.int .i64 0) (.int .i64 0) (.int .i64 0) (.int .i64 0) (.bool false) (.bool false) (.int .i64 0) (.bool false)
    replace FR := F
    clear F hse
    obtain ⟨mw6r, w6r, hw6r, hse, F⟩ := FR.out.put7 2 rfl (b := q + 2) rfl (.bool true) (.bool false) (.bool false) (.int .i64 0) (.int .i64 0) (.int .u64 0) (.slice none 0 0)
    replace FR := F
    clear F hse
    go_wp2
    refine bodyPost_ret (res_scc Try.results50 (by rfl) (by rfl) (FR.out.load 1 rfl rfl Try.underlying31 (by kernel_rfl)) (FR.out.load 2 rfl rfl Try.underlying38 (by kernel_rfl))) rfl ?_
    rw [HE.out]
    exact ⟨rfl, FR.out.out⟩
  · have b0 : (o0 == 0) = false := by simp [h0]
    have HE := Lib.hid (show lockM o0 ⟨op, stage, 0, old, since, left, awoke, starve, need, front⟩ now pat = (o0, ⟨op, stage, 1, old, since, left, awoke, starve, need, front⟩, noA) from by
      unfold lockM
      rw [if_neg (fun h => h0 h.2)]; exact if_pos (Or.inl rfl))
    clear h0
    go_enter Try.func50, Try.ntmps50
    have ac0 := row10 (b := q) (FR.out.at 0 rfl rfl)
    have af02 : v3.frozen? ⟨q, 2, none⟩ = false := FR.out.frozen 0 2 rfl rfl
    obtain ⟨w4p, hw4p⟩ : ∃ W, (v3.setCell ⟨q, 2, none⟩ (.int .i64 1)) = W := ⟨_, rfl⟩
    replace FR := Lib.hid (((FR.out.set 0 2 rfl rfl (.int .i64 1))).eqw hw4p)
    have bc0 := row10 (b := q) (FR.out.at 0 rfl rfl)
    go_wp2
    clear ac0 af02 bc0
    have HF0 := Lib.hid FR.out.drew
    obtain ⟨w5r, hw5r⟩ : ∃ W, w4p.drew.setCells (q + 1) 0 [.int .i64 op, .int .i64 stage, .int .i64 1, .int .i64 old, .int .i64 since, .int .i64 left, .bool awoke, .bool starve, .int .i64 need, .bool front] = W := ⟨_, rfl⟩
    have HF1 := Lib.hid ((HF0.out.all 1 rfl rfl (by rfl)).eqw hw5r)
    have hh1 := Lib.hid hw5r
    clear hw5r
    obtain ⟨w6r, hw6r⟩ : ∃ W, w5r.setCells (q + 2) 0 [.bool false, .bool false, .bool false, .int .i64 0, .int .i64 0, .int .u64 0, .slice none 0 0] = W := ⟨_, rfl⟩
    have HF2 := Lib.hid ((HF1.out.all 2 rfl rfl (by rfl)).eqw hw6r)
    have hh2 := Lib.hid hw6r
    clear hw6r
    refine wp_region_noPanic ?_
    refine wp_region_held_drew (S := (fun wv => Hid (wv.heap[q]? = some (.cells #[.int .i64 op, .int .i64 stage, .int .i64 1, .int .i64 old, .int .i64 since, .int .i64 left, .bool awoke, .bool starve, .int .i64 need, .bool front] 31)))) (by kernel_rfl) (Lib.hid (HF0.out.blk 0 _ rfl)) (fun hS => ?_)
    refine wpAnyH_take (i := 0) (oi := ⟨some 14, .move (.tmp 0), 2, "lock.go:20", #[], none⟩) (v := ?_) rfl (by kernel_rfl) (by kernel_rfl) (by kernel_rfl) (fun _ _ _ h => h) (Or.inl ⟨by rfl, ?_⟩) hS ?_
    rotate_left
    · intro wv _; go_simp; try with_reducible rfl
    try simp only [Act.put, List.setIfInBounds_toArray, List.set_cons_zero, List.set_cons_succ]
    refine wpAnyH_take (i := 1) (oi := ⟨some 15, .load 31 (.tmp 3), 31, "lock.go:20", #[⟨3, .gcOnly .lateStores⟩], none⟩) (v := .agg (([.int .i64 op, .int .i64 stage, .int .i64 1, .int .i64 old, .int .i64 since, .int .i64 left, .bool awoke, .bool starve, .int .i64 need, .bool front] : List Value)).toArray) rfl (by kernel_rfl) (by kernel_rfl) (by kernel_rfl) (fun _ _ _ h => h) (yieldsIf_load_mid (by rfl) _ _ (by rfl) (q) (0) (by rfl) _ _ (fun wv hS => blk_rngl hS.out) Try.underlying31 (by rfl) (by kernel_rfl)) hS ?_
    try simp only [Act.put, List.setIfInBounds_toArray, List.set_cons_zero, List.set_cons_succ]
    refine wpAnyH_take (i := 2) (oi := ⟨some 16, .build 38 #[], 38, "lock.go:20", #[⟨4, .gcOnly .lateStores⟩], none⟩) (v := ?_) rfl (by kernel_rfl) (by kernel_rfl) (by kernel_rfl) (fun _ _ _ h => h) (Or.inl ⟨by rfl, ?_⟩) hS ?_
    rotate_left
    · intro wv _; go_simp; try with_reducible rfl
    try simp only [Act.put, List.setIfInBounds_toArray, List.set_cons_zero, List.set_cons_succ]
    refine wpAnyH_take (i := 3) (oi := ⟨some 4, .assign (.tmp 14), 2, "lock.go:20", #[⟨0, .data⟩, ⟨0, .phase⟩, ⟨1, .textOnly .lateStores⟩, ⟨2, .textOnly .lateStores⟩], none⟩) (v := ?_) rfl (by kernel_rfl) (by kernel_rfl) (by kernel_rfl) (fun _ _ _ h => h) (Or.inl ⟨by rfl, ?_⟩) hS ?_
    rotate_left
    · intro wv _; go_simp; try with_reducible rfl
    try simp only [Act.put, List.setIfInBounds_toArray, List.set_cons_zero, List.set_cons_succ]
    refine wpAnyH_ready (rs := [4]) (by kernel_rfl) (by simp) (AllReadyH.cons (o := ⟨none, .store 31 (.tmp 5) (.tmp 15), 0, "lock.go:20", #[⟨1, .data⟩, ⟨3, .chain⟩, ⟨0, .phase⟩, ⟨1, .phase⟩, ⟨2, .textOnly .lateStores⟩, ⟨3, .phase⟩], none⟩) rfl (fun K hK => ?_) AllReadyH.nil)
    refine op_storeS (by rfl) rfl rfl rfl (there_blk (HF0.out.blk 1 _ rfl) rfl) (by kernel_rfl) (by simp [Value.oneCell']) hh1.out ?_
    replace hS := Lib.hid (HF1.out.blk 0 _ rfl)
    refine Shut.out hK _ _ hS (fun _ => ?_)
    clear hK K
    try simp only [Act.put, List.setIfInBounds_toArray, List.set_cons_zero, List.set_cons_succ]
    refine wpAnyH_ready (rs := [5]) (by kernel_rfl) (by simp) (AllReadyH.cons (o := ⟨none, .store 38 (.tmp 6) (.tmp 16), 0, "lock.go:20", #[⟨2, .data⟩, ⟨4, .chain⟩, ⟨0, .phase⟩, ⟨1, .phase⟩, ⟨2, .phase⟩, ⟨3, .phase⟩, ⟨4, .phase⟩], none⟩) rfl (fun K hK => ?_) AllReadyH.nil)
    refine op_storeS (by rfl) rfl rfl rfl (there_blk (HF1.out.blk 2 _ rfl) rfl) (by kernel_rfl) (by simp [Value.oneCell']) hh2.out ?_
    replace hS := Lib.hid (HF2.out.blk 0 _ rfl)
    refine Shut.out hK _ _ hS (fun _ => ?_)
    clear hK K
    try simp only [Act.put, List.setIfInBounds_toArray, List.set_cons_zero, List.set_cons_succ]
    refine wpAnyH_done (by kernel_rfl) ?_ _
    refine NoPanic.normal ?_
    go_wp2
    refine bodyPost_ret (res_scc Try.results50 (by rfl) (by rfl) (HF2.out.load 1 rfl rfl Try.underlying31 (by kernel_rfl)) (HF2.out.load 2 rfl rfl Try.underlying38 (by kernel_rfl))) rfl ?_
    replace FR := HF2
    rw [HE.out]
    exact ⟨rfl, FR.out.out⟩
set_option maxRecDepth 100000 in
set_option maxHeartbeats 16000000 in
theorem muLooked_any (o0 : Int) (f : MFr) (w : World) : Calls Try.prog 51 #[.int .i64 o0, frV f] w (fun e w' => e = .returned (frV { f with old := o0, phase := 2 }) ∧ Below w.heap.size w w') := by
  obtain ⟨op, stage, phase, old, since, left, awoke, starve, need, front⟩ := f
  unfold frV frC
  simp only
  obtain ⟨v1, hv1, z1, v2, hv2, z2, F⟩ := boxes2 w (.cells #[.int .i64 op, .int .i64 stage, .int .i64 phase, .int .i64 old, .int .i64 since, .int .i64 left, .bool awoke, .bool starve, .int .i64 need, .bool front] 31) (.cells #[.int .i64 0, .int .i64 0, .int .i64 0, .int .i64 0, .int .i64 0, .int .i64 0, .bool false, .bool false, .int .i64 0, .bool false] 31)
  generalize hq : w.heap.size = q at *
  have FR := Lib.hid F
  clear F
  go_enter Try.func51, Try.ntmps51
  have ac0 := row10 (b := q) (FR.out.at 0 rfl rfl)
  have af02 : v2.frozen? ⟨q, 2, none⟩ = false := FR.out.frozen 0 2 rfl rfl
  have af03 : v2.frozen? ⟨q, 3, none⟩ = false := FR.out.frozen 0 3 rfl rfl
  obtain ⟨w3p, hw3p⟩ : ∃ W, ((v2.setCell ⟨q, 3, none⟩ (.int .i64 o0)).setCell ⟨q, 2, none⟩ (.int .i64 2)) = W := ⟨_, rfl⟩
  replace FR := Lib.hid ((((FR.out.set 0 3 rfl rfl (.int .i64 o0)).set 0 2 rfl rfl (.int .i64 2))).eqw hw3p)
  have bc0 := row10 (b := q) (FR.out.at 0 rfl rfl)
  obtain ⟨mw4r, w4r, hw4r, hse, F⟩ := FR.out.put10 1 rfl (b := q + 1) rfl (.int .i64 op) (.int .i64 stage) (.int .i64 2) (.int .i64 o0) (.int .i64 since) (.int .i64 left) (.bool awoke) (.bool starve) (.int .i64 need) (.bool front)
  replace FR := F
  clear F hse
  go_wp2
  refine bodyPost_ret (res_c Try.results51 (by rfl) (FR.out.load 1 rfl rfl Try.underlying31 (by kernel_rfl))) rfl ?_
  exact ⟨rfl, FR.out.bel⟩
def behM (old : Int) (b0 b2 st aw : Bool) : Int :=
  bif aw then bits .andNot .i64 (bif st && b0 then bits .or .i64 (bif b0 || b2 then wrap64 ((bif b2 then old else bits .or .i64 old 1) + 8) else (bif b2 then old else bits .or .i64 old 1)) 4 else (bif b0 || b2 then wrap64 ((bif b2 then old else bits .or .i64 old 1) + 8) else (bif b2 then old else bits .or .i64 old 1))) 2
  else (bif st && b0 then bits .or .i64 (bif b0 || b2 then wrap64 ((bif b2 then old else bits .or .i64 old 1) + 8) else (bif b2 then old else bits .or .i64 old 1)) 4 else (bif b0 || b2 then wrap64 ((bif b2 then old else bits .or .i64 old 1) + 8) else (bif b2 then old else bits .or .i64 old 1)))
theorem hasBit0 (x : Int) : hasBit x 0 ↔ x % 2 = 1 := by unfold hasBit; omega
theorem hasBit1 (x : Int) : hasBit x 1 ↔ x / 2 % 2 = 1 := by unfold hasBit; omega
theorem hasBit2 (x : Int) : hasBit x 2 ↔ x / 4 % 2 = 1 := by unfold hasBit; omega
theorem wrap_add (a b : Int) : IntKind.i64.wrap (IntKind.i64.wrap a + b) = IntKind.i64.wrap (a + b) := by simp only [IntKind.wrap_i64]; omega
theorem wrap_sub (a b : Int) : IntKind.i64.wrap (IntKind.i64.wrap a - b) = IntKind.i64.wrap (a - b) := by simp only [IntKind.wrap_i64]; omega
theorem bit_wrap0 (x : Int) : hasBit (IntKind.i64.wrap x) 0 ↔ hasBit x 0 := by rw [hasBit0, hasBit0, IntKind.wrap_i64]; omega
theorem bit_wrap1 (x : Int) : hasBit (IntKind.i64.wrap x) 1 ↔ hasBit x 1 := by rw [hasBit1, hasBit1, IntKind.wrap_i64]; omega
theorem bit_wrap2 (x : Int) : hasBit (IntKind.i64.wrap x) 2 ↔ hasBit x 2 := by rw [hasBit2, hasBit2, IntKind.wrap_i64]; omega
theorem wrap64_eq (x : Int) : wrap64 x = IntKind.i64.wrap x := by simp only [wrap64, IntKind.wrap_i64]; try omega
theorem behM_eq (f : MFr) : behM f.old (decide (hasBit f.old 0)) (decide (hasBit f.old 2)) f.starve f.awoke = stateM f := by
  rw [stateB]
  obtain ⟨op, stage, phase, old, since, left, awoke, starve, need, front⟩ := f
  simp only
  unfold behM stB
  by_cases h0 : hasBit old 0 <;> by_cases h1 : hasBit old 1 <;> by_cases h2 : hasBit old 2 <;> cases starve <;> cases awoke <;> simp only [h0, h1, h2, decide_true, decide_false, Bool.and_true, Bool.true_and, Bool.and_false, Bool.false_and, Bool.or_true, Bool.true_or, Bool.or_false, Bool.false_or, Bool.not_true, Bool.not_false, cond_true, cond_false, if_true, if_false, reduceIte, Bool.false_eq_true, Bool.true_eq_false, wrap64_eq, or_1, or_4, not_low, bit_wrap0, bit_wrap1, bit_wrap2, wrap_add, wrap_sub] <;> simp only [hasBit0, hasBit1, hasBit2] at h0 h1 h2 ⊢ <;> (repeat' split) <;> first | rfl | (congr 1; omega) | omega
set_option maxRecDepth 100000 in
set_option maxHeartbeats 16000000 in
theorem muBehind_any (f : MFr) (w : World) : Calls Try.prog 58 #[frV f] w (fun e w' => e = .returned (.int .i64 (stateM f)) ∧ Below w.heap.size w w') := by
  rw [← behM_eq]
  obtain ⟨op, stage, phase, old, since, left, awoke, starve, need, front⟩ := f
  unfold frV frC
  simp only
  have B0 := fun (W : World) => muHas1 old W
  have B2 := fun (W : World) => muHas4 old W
  have B5 := fun (W : World) => muHas5 old W
  generalize decide (hasBit old 0) = b0 at *
  generalize decide (hasBit old 2) = b2 at *
  replace B0 := Lib.hid B0; replace B2 := Lib.hid B2
  obtain ⟨v1, hv1, z1, F⟩ := boxes1 w (.cells #[.int .i64 op, .int .i64 stage, .int .i64 phase, .int .i64 old, .int .i64 since, .int .i64 left, .bool awoke, .bool starve, .int .i64 need, .bool front] 31)
  generalize hq : w.heap.size = q at *
  have FR := Lib.hid F
  clear F
  cases b0
  · cases b2
    · cases starve
      · cases awoke
        · replace B5 := Lib.hid B5
          go_enter Try.func58, Try.ntmps58
          have ac0 := row10 (b := q) (FR.out.at 0 rfl rfl)
          go_wp2_with fail
          refine (B2.out _).mono ?_
          rintro e wz ⟨rfl, hw⟩
          obtain rfl := hw.symm
          go_wp2_with fail
          refine (B5.out _).mono ?_
          rintro e wz ⟨rfl, hw⟩
          obtain rfl := hw.symm
          go_wp2
          go_ret
          exact ⟨rfl, FR.out.bel⟩
        · replace B5 := Lib.hid B5
          go_enter Try.func58, Try.ntmps58
          have ac0 := row10 (b := q) (FR.out.at 0 rfl rfl)
          go_wp2_with fail
          refine (B2.out _).mono ?_
          rintro e wz ⟨rfl, hw⟩
          obtain rfl := hw.symm
          go_wp2_with fail
          refine (B5.out _).mono ?_
          rintro e wz ⟨rfl, hw⟩
          obtain rfl := hw.symm
          go_wp2
          go_ret
          exact ⟨rfl, FR.out.bel⟩
      · cases awoke
        · replace B5 := Lib.hid B5
          go_enter Try.func58, Try.ntmps58
          have ac0 := row10 (b := q) (FR.out.at 0 rfl rfl)
          go_wp2_with fail
          refine (B2.out _).mono ?_
          rintro e wz ⟨rfl, hw⟩
          obtain rfl := hw.symm
          go_wp2_with fail
          refine (B5.out _).mono ?_
          rintro e wz ⟨rfl, hw⟩
          obtain rfl := hw.symm
          go_wp2_with fail
          refine (B0.out _).mono ?_
          rintro e wz ⟨rfl, hw⟩
          obtain rfl := hw.symm
          go_wp2
          go_ret
          exact ⟨rfl, FR.out.bel⟩
        · replace B5 := Lib.hid B5
          go_enter Try.func58, Try.ntmps58
          have ac0 := row10 (b := q) (FR.out.at 0 rfl rfl)
          go_wp2_with fail
          refine (B2.out _).mono ?_
          rintro e wz ⟨rfl, hw⟩
          obtain rfl := hw.symm
          go_wp2_with fail
          refine (B5.out _).mono ?_
          rintro e wz ⟨rfl, hw⟩
          obtain rfl := hw.symm
          go_wp2_with fail
          refine (B0.out _).mono ?_
          rintro e wz ⟨rfl, hw⟩
          obtain rfl := hw.symm
          go_wp2
          go_ret
          exact ⟨rfl, FR.out.bel⟩
    · cases starve
      · cases awoke
        · replace B5 := Lib.hid B5
          go_enter Try.func58, Try.ntmps58
          have ac0 := row10 (b := q) (FR.out.at 0 rfl rfl)
          go_wp2_with fail
          refine (B2.out _).mono ?_
          rintro e wz ⟨rfl, hw⟩
          obtain rfl := hw.symm
          go_wp2_with fail
          refine (B5.out _).mono ?_
          rintro e wz ⟨rfl, hw⟩
          obtain rfl := hw.symm
          go_wp2
          go_ret
          exact ⟨rfl, FR.out.bel⟩
        · replace B5 := Lib.hid B5
          go_enter Try.func58, Try.ntmps58
          have ac0 := row10 (b := q) (FR.out.at 0 rfl rfl)
          go_wp2_with fail
          refine (B2.out _).mono ?_
          rintro e wz ⟨rfl, hw⟩
          obtain rfl := hw.symm
          go_wp2_with fail
          refine (B5.out _).mono ?_
          rintro e wz ⟨rfl, hw⟩
          obtain rfl := hw.symm
          go_wp2
          go_ret
          exact ⟨rfl, FR.out.bel⟩
      · cases awoke
        · replace B5 := Lib.hid B5
          go_enter Try.func58, Try.ntmps58
          have ac0 := row10 (b := q) (FR.out.at 0 rfl rfl)
          go_wp2_with fail
          refine (B2.out _).mono ?_
          rintro e wz ⟨rfl, hw⟩
          obtain rfl := hw.symm
          go_wp2_with fail
          refine (B5.out _).mono ?_
          rintro e wz ⟨rfl, hw⟩
          obtain rfl := hw.symm
          go_wp2_with fail
          refine (B0.out _).mono ?_
          rintro e wz ⟨rfl, hw⟩
          obtain rfl := hw.symm
          go_wp2
          go_ret
          exact ⟨rfl, FR.out.bel⟩
        · replace B5 := Lib.hid B5
          go_enter Try.func58, Try.ntmps58
          have ac0 := row10 (b := q) (FR.out.at 0 rfl rfl)
          go_wp2_with fail
          refine (B2.out _).mono ?_
          rintro e wz ⟨rfl, hw⟩
          obtain rfl := hw.symm
          go_wp2_with fail
          refine (B5.out _).mono ?_
          rintro e wz ⟨rfl, hw⟩
          obtain rfl := hw.symm
          go_wp2_with fail
          refine (B0.out _).mono ?_
          rintro e wz ⟨rfl, hw⟩
          obtain rfl := hw.symm
          go_wp2
          go_ret
          exact ⟨rfl, FR.out.bel⟩
  · cases b2
    · cases starve
      · cases awoke
        · replace B5 := Lib.hid B5
          go_enter Try.func58, Try.ntmps58
          have ac0 := row10 (b := q) (FR.out.at 0 rfl rfl)
          go_wp2_with fail
          refine (B2.out _).mono ?_
          rintro e wz ⟨rfl, hw⟩
          obtain rfl := hw.symm
          go_wp2_with fail
          refine (B5.out _).mono ?_
          rintro e wz ⟨rfl, hw⟩
          obtain rfl := hw.symm
          go_wp2
          go_ret
          exact ⟨rfl, FR.out.bel⟩
        · replace B5 := Lib.hid B5
          go_enter Try.func58, Try.ntmps58
          have ac0 := row10 (b := q) (FR.out.at 0 rfl rfl)
          go_wp2_with fail
          refine (B2.out _).mono ?_
          rintro e wz ⟨rfl, hw⟩
          obtain rfl := hw.symm
          go_wp2_with fail
          refine (B5.out _).mono ?_
          rintro e wz ⟨rfl, hw⟩
          obtain rfl := hw.symm
          go_wp2
          go_ret
          exact ⟨rfl, FR.out.bel⟩
      · cases awoke
        · replace B5 := Lib.hid B5
          go_enter Try.func58, Try.ntmps58
          have ac0 := row10 (b := q) (FR.out.at 0 rfl rfl)
          go_wp2_with fail
          refine (B2.out _).mono ?_
          rintro e wz ⟨rfl, hw⟩
          obtain rfl := hw.symm
          go_wp2_with fail
          refine (B5.out _).mono ?_
          rintro e wz ⟨rfl, hw⟩
          obtain rfl := hw.symm
          go_wp2_with fail
          refine (B0.out _).mono ?_
          rintro e wz ⟨rfl, hw⟩
          obtain rfl := hw.symm
          go_wp2
          go_ret
          exact ⟨rfl, FR.out.bel⟩
        · replace B5 := Lib.hid B5
          go_enter Try.func58, Try.ntmps58
          have ac0 := row10 (b := q) (FR.out.at 0 rfl rfl)
          go_wp2_with fail
          refine (B2.out _).mono ?_
          rintro e wz ⟨rfl, hw⟩
          obtain rfl := hw.symm
          go_wp2_with fail
          refine (B5.out _).mono ?_
          rintro e wz ⟨rfl, hw⟩
          obtain rfl := hw.symm
          go_wp2_with fail
          refine (B0.out _).mono ?_
          rintro e wz ⟨rfl, hw⟩
          obtain rfl := hw.symm
          go_wp2
          go_ret
          exact ⟨rfl, FR.out.bel⟩
    · cases starve
      · cases awoke
        · replace B5 := Lib.hid B5
          go_enter Try.func58, Try.ntmps58
          have ac0 := row10 (b := q) (FR.out.at 0 rfl rfl)
          go_wp2_with fail
          refine (B2.out _).mono ?_
          rintro e wz ⟨rfl, hw⟩
          obtain rfl := hw.symm
          go_wp2_with fail
          refine (B5.out _).mono ?_
          rintro e wz ⟨rfl, hw⟩
          obtain rfl := hw.symm
          go_wp2
          go_ret
          exact ⟨rfl, FR.out.bel⟩
        · replace B5 := Lib.hid B5
          go_enter Try.func58, Try.ntmps58
          have ac0 := row10 (b := q) (FR.out.at 0 rfl rfl)
          go_wp2_with fail
          refine (B2.out _).mono ?_
          rintro e wz ⟨rfl, hw⟩
          obtain rfl := hw.symm
          go_wp2_with fail
          refine (B5.out _).mono ?_
          rintro e wz ⟨rfl, hw⟩
          obtain rfl := hw.symm
          go_wp2
          go_ret
          exact ⟨rfl, FR.out.bel⟩
      · cases awoke
        · replace B5 := Lib.hid B5
          go_enter Try.func58, Try.ntmps58
          have ac0 := row10 (b := q) (FR.out.at 0 rfl rfl)
          go_wp2_with fail
          refine (B2.out _).mono ?_
          rintro e wz ⟨rfl, hw⟩
          obtain rfl := hw.symm
          go_wp2_with fail
          refine (B5.out _).mono ?_
          rintro e wz ⟨rfl, hw⟩
          obtain rfl := hw.symm
          go_wp2_with fail
          refine (B0.out _).mono ?_
          rintro e wz ⟨rfl, hw⟩
          obtain rfl := hw.symm
          go_wp2
          go_ret
          exact ⟨rfl, FR.out.bel⟩
        · replace B5 := Lib.hid B5
          go_enter Try.func58, Try.ntmps58
          have ac0 := row10 (b := q) (FR.out.at 0 rfl rfl)
          go_wp2_with fail
          refine (B2.out _).mono ?_
          rintro e wz ⟨rfl, hw⟩
          obtain rfl := hw.symm
          go_wp2_with fail
          refine (B5.out _).mono ?_
          rintro e wz ⟨rfl, hw⟩
          obtain rfl := hw.symm
          go_wp2_with fail
          refine (B0.out _).mono ?_
          rintro e wz ⟨rfl, hw⟩
          obtain rfl := hw.symm
          go_wp2
          go_ret
          exact ⟨rfl, FR.out.bel⟩
set_option maxRecDepth 100000 in
set_option maxHeartbeats 16000000 in
theorem muCame_any (o0 : Int) (f : MFr) (hp : f.phase = 2) (now pat : Int) (w : World) : Calls Try.prog 52 #[.int .i64 o0, frV f, .int .i64 now] w (TupC w (lockM o0 f now pat)) := by
  obtain ⟨op, stage, phase, old, since, left, awoke, starve, need, front⟩ := f
  have hp2 : phase = 2 := hp
  subst hp2
  clear hp
  have BC := Lib.hid (fun (s1 n1 p1 : Int) (b1 : Bool) (W : World) => (show Calls Try.prog 58 #[.agg #[.int .i64 op, .int .i64 stage, .int .i64 p1, .int .i64 old, .int .i64 s1, .int .i64 left, .bool awoke, .bool starve, .int .i64 n1, .bool b1]] W (fun e w' => e = .returned (.int .i64 (stateM ⟨op, stage, 2, old, since, left, awoke, starve, need, front⟩)) ∧ Below W.heap.size W w') from muBehind_any ⟨op, stage, p1, old, s1, left, awoke, starve, n1, b1⟩ W))
  unfold frV frC
  simp only
  obtain ⟨v1, hv1, z1, v2, hv2, z2, v3, hv3, z3, F⟩ := boxes3 w (.cells #[.int .i64 op, .int .i64 stage, .int .i64 2, .int .i64 old, .int .i64 since, .int .i64 left, .bool awoke, .bool starve, .int .i64 need, .bool front] 31) (.cells #[.int .i64 0, .int .i64 0, .int .i64 0, .int .i64 0, .int .i64 0, .int .i64 0, .bool false, .bool false, .int .i64 0, .bool false] 31) (.cells #[.bool false, .bool false, .bool false, .int .i64 0, .int .i64 0, .int .u64 0, .slice none 0 0] 38)
  generalize hq : w.heap.size = q at *
  have FR := Lib.hid F
  clear F
  by_cases h0 : o0 = old
  rotate_left
  · have b0 : (o0 != old) = true := by simp [h0]
    have HE := Lib.hid (show lockM o0 ⟨op, stage, 2, old, since, left, awoke, starve, need, front⟩ now pat = (o0, ⟨op, stage, 1, old, since, left, awoke, starve, need, front⟩, noA) from by
      unfold lockM
      rw [if_neg (fun h => absurd (show (2 : Int) = 0 from h.1) (by decide)), if_pos (Or.inr ⟨rfl, h0⟩)])
    clear h0 BC
    go_enter Try.func52, Try.ntmps52
    have zc0 := row10 (b := q) (FR.out.at 0 rfl rfl)
    have ac0 := row10 (b := q) (FR.out.at 0 rfl rfl)
    have af02 : v3.frozen? ⟨q, 2, none⟩ = false := FR.out.frozen 0 2 rfl rfl
    obtain ⟨w4p, hw4p⟩ : ∃ W, (v3.setCell ⟨q, 2, none⟩ (.int .i64 1)) = W := ⟨_, rfl⟩
    replace FR := Lib.hid (((FR.out.set 0 2 rfl rfl (.int .i64 1))).eqw hw4p)
    have bc0 := row10 (b := q) (FR.out.at 0 rfl rfl)
    go_wp2
    clear ac0 af02 bc0
    have HF0 := Lib.hid FR.out.drew
    obtain ⟨w5r, hw5r⟩ : ∃ W, w4p.drew.setCells (q + 1) 0 [.int .i64 op, .int .i64 stage, .int .i64 1, .int .i64 old, .int .i64 since, .int .i64 left, .bool awoke, .bool starve, .int .i64 need, .bool front] = W := ⟨_, rfl⟩
    have HF1 := Lib.hid ((HF0.out.all 1 rfl rfl (by rfl)).eqw hw5r)
    have hh1 := Lib.hid hw5r
    clear hw5r
    obtain ⟨w6r, hw6r⟩ : ∃ W, w5r.setCells (q + 2) 0 [.bool false, .bool false, .bool false, .int .i64 0, .int .i64 0, .int .u64 0, .slice none 0 0] = W := ⟨_, rfl⟩
    have HF2 := Lib.hid ((HF1.out.all 2 rfl rfl (by rfl)).eqw hw6r)
    have hh2 := Lib.hid hw6r
    clear hw6r
    refine wp_region_noPanic ?_
    refine wp_region_held_drew (S := (fun wv => Hid (wv.heap[q]? = some (.cells #[.int .i64 op, .int .i64 stage, .int .i64 1, .int .i64 old, .int .i64 since, .int .i64 left, .bool awoke, .bool starve, .int .i64 need, .bool front] 31)))) (by kernel_rfl) (Lib.hid (HF0.out.blk 0 _ rfl)) (fun hS => ?_)
    refine wpAnyH_take (i := 0) (oi := ⟨some 14, .move (.tmp 0), 2, "lock.go:34", #[], none⟩) (v := ?_) rfl (by kernel_rfl) (by kernel_rfl) (by kernel_rfl) (fun _ _ _ h => h) (Or.inl ⟨by rfl, ?_⟩) hS ?_
    rotate_left
    · intro wv _; go_simp; try with_reducible rfl
    try simp only [Act.put, List.setIfInBounds_toArray, List.set_cons_zero, List.set_cons_succ]
    refine wpAnyH_take (i := 1) (oi := ⟨some 15, .load 31 (.tmp 4), 31, "lock.go:34", #[⟨3, .gcOnly .lateStores⟩], none⟩) (v := .agg (([.int .i64 op, .int .i64 stage, .int .i64 1, .int .i64 old, .int .i64 since, .int .i64 left, .bool awoke, .bool starve, .int .i64 need, .bool front] : List Value)).toArray) rfl (by kernel_rfl) (by kernel_rfl) (by kernel_rfl) (fun _ _ _ h => h) (yieldsIf_load_mid (by rfl) _ _ (by rfl) (q) (0) (by rfl) _ _ (fun wv hS => blk_rngl hS.out) Try.underlying31 (by rfl) (by kernel_rfl)) hS ?_
    try simp only [Act.put, List.setIfInBounds_toArray, List.set_cons_zero, List.set_cons_succ]
    refine wpAnyH_take (i := 2) (oi := ⟨some 16, .build 38 #[], 38, "lock.go:34", #[⟨4, .gcOnly .lateStores⟩], none⟩) (v := ?_) rfl (by kernel_rfl) (by kernel_rfl) (by kernel_rfl) (fun _ _ _ h => h) (Or.inl ⟨by rfl, ?_⟩) hS ?_
    rotate_left
    · intro wv _; go_simp; try with_reducible rfl
    try simp only [Act.put, List.setIfInBounds_toArray, List.set_cons_zero, List.set_cons_succ]
    refine wpAnyH_take (i := 3) (oi := ⟨some 6, .assign (.tmp 14), 2, "lock.go:34", #[⟨0, .data⟩, ⟨0, .phase⟩, ⟨1, .textOnly .lateStores⟩, ⟨2, .textOnly .lateStores⟩], none⟩) (v := ?_) rfl (by kernel_rfl) (by kernel_rfl) (by kernel_rfl) (fun _ _ _ h => h) (Or.inl ⟨by rfl, ?_⟩) hS ?_
    rotate_left
    · intro wv _; go_simp; try with_reducible rfl
    try simp only [Act.put, List.setIfInBounds_toArray, List.set_cons_zero, List.set_cons_succ]
    refine wpAnyH_ready (rs := [4]) (by kernel_rfl) (by simp) (AllReadyH.cons (o := ⟨none, .store 31 (.tmp 7) (.tmp 15), 0, "lock.go:34", #[⟨1, .data⟩, ⟨3, .chain⟩, ⟨0, .phase⟩, ⟨1, .phase⟩, ⟨2, .textOnly .lateStores⟩, ⟨3, .phase⟩], none⟩) rfl (fun K hK => ?_) AllReadyH.nil)
    refine op_storeS (by rfl) rfl rfl rfl (there_blk (HF0.out.blk 1 _ rfl) rfl) (by kernel_rfl) (by simp [Value.oneCell']) hh1.out ?_
    replace hS := Lib.hid (HF1.out.blk 0 _ rfl)
    refine Shut.out hK _ _ hS (fun _ => ?_)
    clear hK K
    try simp only [Act.put, List.setIfInBounds_toArray, List.set_cons_zero, List.set_cons_succ]
    refine wpAnyH_ready (rs := [5]) (by kernel_rfl) (by simp) (AllReadyH.cons (o := ⟨none, .store 38 (.tmp 8) (.tmp 16), 0, "lock.go:34", #[⟨2, .data⟩, ⟨4, .chain⟩, ⟨0, .phase⟩, ⟨1, .phase⟩, ⟨2, .phase⟩, ⟨3, .phase⟩, ⟨4, .phase⟩], none⟩) rfl (fun K hK => ?_) AllReadyH.nil)
    refine op_storeS (by rfl) rfl rfl rfl (there_blk (HF1.out.blk 2 _ rfl) rfl) (by kernel_rfl) (by simp [Value.oneCell']) hh2.out ?_
    replace hS := Lib.hid (HF2.out.blk 0 _ rfl)
    refine Shut.out hK _ _ hS (fun _ => ?_)
    clear hK K
    try simp only [Act.put, List.setIfInBounds_toArray, List.set_cons_zero, List.set_cons_succ]
    refine wpAnyH_done (by kernel_rfl) ?_ _
    refine NoPanic.normal ?_
    go_wp2
    refine bodyPost_ret (res_scc Try.results52 (by rfl) (by rfl) (HF2.out.load 1 rfl rfl Try.underlying31 (by kernel_rfl)) (HF2.out.load 2 rfl rfl Try.underlying38 (by kernel_rfl))) rfl ?_
    replace FR := HF2
    rw [HE.out]
    exact ⟨rfl, FR.out.out⟩
  have b0 : (o0 != old) = false := by simp [h0]
  have HO : lockM o0 ⟨op, stage, 2, old, since, left, awoke, starve, need, front⟩ now pat = (if ¬ hasBit old 0 ∧ ¬ hasBit old 2 then (stateM ⟨op, stage, 2, old, since, left, awoke, starve, need, front⟩, noF, doneA) else (stateM ⟨op, stage, 2, old, since, left, awoke, starve, need, front⟩, ⟨op, stage, 3, old, if since < 0 then now else since, left, awoke, starve, 2, decide (0 ≤ since)⟩, noA)) := by
    unfold lockM
    rw [if_neg (fun h => absurd (show (2 : Int) = 0 from h.1) (by decide)), if_neg (fun h => by rcases h with h | h; exact absurd (show (2 : Int) = 0 from h) (by decide); exact h.2 h0), if_neg (fun h => absurd (show (2 : Int) = 1 from h) (by decide)), if_pos rfl]
  have B5 := fun (W : World) => muHas5 old W
  obtain ⟨z, hz⟩ : ∃ z, stateM ⟨op, stage, 2, old, since, left, awoke, starve, need, front⟩ = z := ⟨_, rfl⟩
  rw [hz] at BC HO
  clear hz h0
  cases hbb : (decide (hasBit old 0) || decide (hasBit old 2))
  · rw [hbb] at B5
    replace B5 := Lib.hid B5
    have HE := Lib.hid (HO.trans (if_pos (by
      rw [Bool.or_eq_false_iff] at hbb
      exact ⟨of_decide_eq_false hbb.1, of_decide_eq_false hbb.2⟩)))
    clear HO hbb
    go_enter Try.func52, Try.ntmps52
    have ac0 := row10 (b := q) (FR.out.at 0 rfl rfl)
    go_wp2_with fail
    refine (B5.out _).mono ?_
    rintro e wz ⟨rfl, hw⟩
    obtain rfl := hw.symm
    go_wp2_with fail
    refine (BC.out _ _ _ _ _).mono ?_
    rintro e w7 ⟨rfl, hb⟩
    clear ac0
    replace FR := Lib.hid (FR.out.step hb)
    clear hb
    go_wp2_with fail
    refine (muDone_any z _).mono ?_
    rintro e w8 ⟨rfl, hb⟩
    replace FR := Lib.hid (FR.out.step hb)
    clear hb
    obtain ⟨mw5r, w5r, hw5r, hse, F⟩ := FR.out.put10 1 rfl (b := q + 1) rfl (.int .i64 0) (.int .i64 0) (.int .i64 0) (.int .i64 0) (.int .i64 0) (.int .i64 0) (.bool false) (.bool false) (.int .i64 0) (.bool false)
    replace FR := F
    clear F hse
    obtain ⟨mw6r, w6r, hw6r, hse, F⟩ := FR.out.put7 2 rfl (b := q + 2) rfl (.bool true) (.bool false) (.bool false) (.int .i64 0) (.int .i64 0) (.int .u64 0) (.slice none 0 0)
    replace FR := F
    clear F hse
    go_wp2
    refine bodyPost_ret (res_scc Try.results52 (by rfl) (by rfl) (FR.out.load 1 rfl rfl Try.underlying31 (by kernel_rfl)) (FR.out.load 2 rfl rfl Try.underlying38 (by kernel_rfl))) rfl ?_
    rw [HE.out]
    exact ⟨rfl, FR.out.out⟩
  · rw [hbb] at B5
    replace B5 := Lib.hid B5
    replace HO := HO.trans (if_neg (fun h => by
      rw [Bool.or_eq_true] at hbb
      rcases hbb with hb | hb
      · exact h.1 (of_decide_eq_true hb)
      · exact h.2 (of_decide_eq_true hb)))
    clear hbb
    by_cases hs : 0 ≤ since
    · have c0 : decide (0 ≤ since) = true := by simpa using hs
      have HE := Lib.hid (show lockM o0 ⟨op, stage, 2, old, since, left, awoke, starve, need, front⟩ now pat = (z, ⟨op, stage, 3, old, since, left, awoke, starve, 2, true⟩, noA) from HO.trans (by rw [c0, if_neg (by omega)]))
      clear HO hs
      go_enter Try.func52, Try.ntmps52
      have ac0 := row10 (b := q) (FR.out.at 0 rfl rfl)
      have af09 : v3.frozen? ⟨q, 9, none⟩ = false := FR.out.frozen 0 9 rfl rfl
      go_wp2_with fail
      refine (B5.out _).mono ?_
      rintro e wz ⟨rfl, hw⟩
      obtain rfl := hw.symm
      obtain ⟨w4p, hw4p⟩ : ∃ W, (v3.setCell ⟨q, 9, none⟩ (.bool true)) = W := ⟨_, rfl⟩
      replace FR := Lib.hid (((FR.out.set 0 9 rfl rfl (.bool true))).eqw hw4p)
      have cc0 := row10 (b := q) (FR.out.at 0 rfl rfl)
      have cf08 : w4p.frozen? ⟨q, 8, none⟩ = false := FR.out.frozen 0 8 rfl rfl
      obtain ⟨w5p, hw5p⟩ : ∃ W, (w4p.setCell ⟨q, 8, none⟩ (.int .i64 2)) = W := ⟨_, rfl⟩
      replace FR := Lib.hid (((FR.out.set 0 8 rfl rfl (.int .i64 2))).eqw hw5p)
      have dc0 := row10 (b := q) (FR.out.at 0 rfl rfl)
      have df02 : w5p.frozen? ⟨q, 2, none⟩ = false := FR.out.frozen 0 2 rfl rfl
      obtain ⟨w6p, hw6p⟩ : ∃ W, (w5p.setCell ⟨q, 2, none⟩ (.int .i64 3)) = W := ⟨_, rfl⟩
      replace FR := Lib.hid (((FR.out.set 0 2 rfl rfl (.int .i64 3))).eqw hw6p)
      have ec0 := row10 (b := q) (FR.out.at 0 rfl rfl)
      go_wp2
      have HF0 := Lib.hid FR.out.drew
      refine wp_region_noPanic ?_
      refine wp_region_held_drew (S := (fun wv => Hid (wv.heap[q]? = some (.cells #[.int .i64 op, .int .i64 stage, .int .i64 3, .int .i64 old, .int .i64 since, .int .i64 left, .bool awoke, .bool starve, .int .i64 2, .bool true] 31)))) (by kernel_rfl) (Lib.hid (HF0.out.blk 0 _ rfl)) (fun hS => ?_)
      refine wpAnyH_take (i := 0) (oi := ⟨some 38, .load 31 (.tmp 4), 31, "lock.go:46", #[], none⟩) (v := .agg (([.int .i64 op, .int .i64 stage, .int .i64 3, .int .i64 old, .int .i64 since, .int .i64 left, .bool awoke, .bool starve, .int .i64 2, .bool true] : List Value)).toArray) rfl (by kernel_rfl) (by kernel_rfl) (by kernel_rfl) (fun _ _ _ h => h) (yieldsIf_load_mid (by rfl) _ _ (by rfl) (q) (0) (by rfl) _ _ (fun wv hS => blk_rngl hS.out) Try.underlying31 (by rfl) (by kernel_rfl)) hS ?_
      try simp only [Act.put, List.setIfInBounds_toArray, List.set_cons_zero, List.set_cons_succ]
      refine wpAnyH_take (i := 2) (oi := ⟨some 40, .load 31 (.tmp 4), 31, "lock.go:46", #[⟨4, .gcOnly .lateStores⟩], none⟩) (v := .agg (([.int .i64 op, .int .i64 stage, .int .i64 3, .int .i64 old, .int .i64 since, .int .i64 left, .bool awoke, .bool starve, .int .i64 2, .bool true] : List Value)).toArray) rfl (by kernel_rfl) (by kernel_rfl) (by kernel_rfl) (fun _ _ _ h => h) (yieldsIf_load_mid (by rfl) _ _ (by rfl) (q) (0) (by rfl) _ _ (fun wv hS => blk_rngl hS.out) Try.underlying31 (by rfl) (by kernel_rfl)) hS ?_
      try simp only [Act.put, List.setIfInBounds_toArray, List.set_cons_zero, List.set_cons_succ]
      refine wpAnyH_take (i := 3) (oi := ⟨some 41, .build 38 #[], 38, "lock.go:46", #[⟨5, .gcOnly .lateStores⟩], none⟩) (v := ?_) rfl (by kernel_rfl) (by kernel_rfl) (by kernel_rfl) (fun _ _ _ h => h) (Or.inl ⟨by rfl, ?_⟩) hS ?_
      rotate_left
      · intro wv _; go_simp; try with_reducible rfl
      try simp only [Act.put, List.setIfInBounds_toArray, List.set_cons_zero, List.set_cons_succ]
      refine wpAnyH_ready (rs := [1]) (by kernel_rfl) (by simp) (AllReadyH.cons (o := ⟨some 39, .call { callee := .value (.func 58), args := #[.tmp 38], argTypes := #[31] }, 2, "lock.go:46", #[⟨0, .data⟩], none⟩) rfl (fun K hK => ?_) AllReadyH.nil)
      go_simp
      refine (BC.out _ _ _ _ _).mono ?_; rintro e u1 ⟨rfl, hb⟩
      replace HF0 := Lib.hid (HF0.out.step hb)
      obtain ⟨w7r, hw7r⟩ : ∃ W, u1.setCells (q + 1) 0 [.int .i64 op, .int .i64 stage, .int .i64 3, .int .i64 old, .int .i64 since, .int .i64 left, .bool awoke, .bool starve, .int .i64 2, .bool true] = W := ⟨_, rfl⟩
      have HF1 := Lib.hid ((HF0.out.all 1 rfl rfl (by rfl)).eqw hw7r)
      have hh1 := Lib.hid hw7r
      clear hw7r
      obtain ⟨w8r, hw8r⟩ : ∃ W, w7r.setCells (q + 2) 0 [.bool false, .bool false, .bool false, .int .i64 0, .int .i64 0, .int .u64 0, .slice none 0 0] = W := ⟨_, rfl⟩
      have HF2 := Lib.hid ((HF1.out.all 2 rfl rfl (by rfl)).eqw hw8r)
      have hh2 := Lib.hid hw8r
      clear hw8r
      replace hS := Lib.hid (HF0.out.blk 0 _ rfl)
      clear hb
      go_wp2_with fail
      refine Shut.out hK _ _ hS (fun _ => ?_)
      clear hK K
      try simp only [Act.put, List.setIfInBounds_toArray, List.set_cons_zero, List.set_cons_succ]
      refine wpAnyH_take (i := 4) (oi := ⟨some 6, .assign (.tmp 39), 2, "lock.go:46", #[⟨1, .data⟩, ⟨1, .chain⟩, ⟨0, .phase⟩, ⟨1, .phase⟩, ⟨2, .textOnly .lateStores⟩, ⟨3, .textOnly .lateStores⟩], none⟩) (v := ?_) rfl (by kernel_rfl) (by kernel_rfl) (by kernel_rfl) (fun _ _ _ h => h) (Or.inl ⟨by rfl, ?_⟩) hS ?_
      rotate_left
      · intro wv _; go_simp; try with_reducible rfl
      try simp only [Act.put, List.setIfInBounds_toArray, List.set_cons_zero, List.set_cons_succ]
      refine wpAnyH_ready (rs := [5]) (by kernel_rfl) (by simp) (AllReadyH.cons (o := ⟨none, .store 31 (.tmp 7) (.tmp 40), 0, "lock.go:46", #[⟨2, .data⟩, ⟨4, .chain⟩, ⟨0, .phase⟩, ⟨1, .phase⟩, ⟨2, .phase⟩, ⟨3, .textOnly .lateStores⟩, ⟨4, .phase⟩], none⟩) rfl (fun K hK => ?_) AllReadyH.nil)
      refine op_storeS (by rfl) rfl rfl rfl (there_blk (HF0.out.blk 1 _ rfl) rfl) (by kernel_rfl) (by simp [Value.oneCell']) hh1.out ?_
      replace hS := Lib.hid (HF1.out.blk 0 _ rfl)
      refine Shut.out hK _ _ hS (fun _ => ?_)
      clear hK K
      try simp only [Act.put, List.setIfInBounds_toArray, List.set_cons_zero, List.set_cons_succ]
      refine wpAnyH_ready (rs := [6]) (by kernel_rfl) (by simp) (AllReadyH.cons (o := ⟨none, .store 38 (.tmp 8) (.tmp 41), 0, "lock.go:46", #[⟨3, .data⟩, ⟨5, .chain⟩, ⟨0, .phase⟩, ⟨1, .phase⟩, ⟨2, .phase⟩, ⟨3, .phase⟩, ⟨4, .phase⟩, ⟨5, .phase⟩], none⟩) rfl (fun K hK => ?_) AllReadyH.nil)
      refine op_storeS (by rfl) rfl rfl rfl (there_blk (HF1.out.blk 2 _ rfl) rfl) (by kernel_rfl) (by simp [Value.oneCell']) hh2.out ?_
      replace hS := Lib.hid (HF2.out.blk 0 _ rfl)
      refine Shut.out hK _ _ hS (fun _ => ?_)
      clear hK K
      try simp only [Act.put, List.setIfInBounds_toArray, List.set_cons_zero, List.set_cons_succ]
      refine wpAnyH_done (by kernel_rfl) ?_ _
      refine NoPanic.normal ?_
      go_wp2
      refine bodyPost_ret (res_scc Try.results52 (by rfl) (by rfl) (HF2.out.load 1 rfl rfl Try.underlying31 (by kernel_rfl)) (HF2.out.load 2 rfl rfl Try.underlying38 (by kernel_rfl))) rfl ?_
      replace FR := HF2
      rw [HE.out]
      exact ⟨rfl, FR.out.out⟩
    · have c0 : decide (0 ≤ since) = false := by simp; omega
      have HE := Lib.hid (show lockM o0 ⟨op, stage, 2, old, since, left, awoke, starve, need, front⟩ now pat = (z, ⟨op, stage, 3, old, now, left, awoke, starve, 2, false⟩, noA) from HO.trans (by rw [c0, if_pos (by omega)]))
      clear HO hs
      go_enter Try.func52, Try.ntmps52
      have ac0 := row10 (b := q) (FR.out.at 0 rfl rfl)
      have af09 : v3.frozen? ⟨q, 9, none⟩ = false := FR.out.frozen 0 9 rfl rfl
      go_wp2_with fail
      refine (B5.out _).mono ?_
      rintro e wz ⟨rfl, hw⟩
      obtain rfl := hw.symm
      obtain ⟨w4p, hw4p⟩ : ∃ W, (v3.setCell ⟨q, 9, none⟩ (.bool false)) = W := ⟨_, rfl⟩
      replace FR := Lib.hid (((FR.out.set 0 9 rfl rfl (.bool false))).eqw hw4p)
      have bc0 := row10 (b := q) (FR.out.at 0 rfl rfl)
      have bf04 : w4p.frozen? ⟨q, 4, none⟩ = false := FR.out.frozen 0 4 rfl rfl
      obtain ⟨w5p, hw5p⟩ : ∃ W, (w4p.setCell ⟨q, 4, none⟩ (.int .i64 now)) = W := ⟨_, rfl⟩
      replace FR := Lib.hid (((FR.out.set 0 4 rfl rfl (.int .i64 now))).eqw hw5p)
      have cc0 := row10 (b := q) (FR.out.at 0 rfl rfl)
      have cf08 : w5p.frozen? ⟨q, 8, none⟩ = false := FR.out.frozen 0 8 rfl rfl
      obtain ⟨w6p, hw6p⟩ : ∃ W, (w5p.setCell ⟨q, 8, none⟩ (.int .i64 2)) = W := ⟨_, rfl⟩
      replace FR := Lib.hid (((FR.out.set 0 8 rfl rfl (.int .i64 2))).eqw hw6p)
      have dc0 := row10 (b := q) (FR.out.at 0 rfl rfl)
      have df02 : w6p.frozen? ⟨q, 2, none⟩ = false := FR.out.frozen 0 2 rfl rfl
      obtain ⟨w7p, hw7p⟩ : ∃ W, (w6p.setCell ⟨q, 2, none⟩ (.int .i64 3)) = W := ⟨_, rfl⟩
      replace FR := Lib.hid (((FR.out.set 0 2 rfl rfl (.int .i64 3))).eqw hw7p)
      have ec0 := row10 (b := q) (FR.out.at 0 rfl rfl)
      go_wp2
      have HF0 := Lib.hid FR.out.drew
      refine wp_region_noPanic ?_
      refine wp_region_held_drew (S := (fun wv => Hid (wv.heap[q]? = some (.cells #[.int .i64 op, .int .i64 stage, .int .i64 3, .int .i64 old, .int .i64 now, .int .i64 left, .bool awoke, .bool starve, .int .i64 2, .bool false] 31)))) (by kernel_rfl) (Lib.hid (HF0.out.blk 0 _ rfl)) (fun hS => ?_)
      refine wpAnyH_take (i := 0) (oi := ⟨some 38, .load 31 (.tmp 4), 31, "lock.go:46", #[], none⟩) (v := .agg (([.int .i64 op, .int .i64 stage, .int .i64 3, .int .i64 old, .int .i64 now, .int .i64 left, .bool awoke, .bool starve, .int .i64 2, .bool false] : List Value)).toArray) rfl (by kernel_rfl) (by kernel_rfl) (by kernel_rfl) (fun _ _ _ h => h) (yieldsIf_load_mid (by rfl) _ _ (by rfl) (q) (0) (by rfl) _ _ (fun wv hS => blk_rngl hS.out) Try.underlying31 (by rfl) (by kernel_rfl)) hS ?_
      try simp only [Act.put, List.setIfInBounds_toArray, List.set_cons_zero, List.set_cons_succ]
      refine wpAnyH_take (i := 2) (oi := ⟨some 40, .load 31 (.tmp 4), 31, "lock.go:46", #[⟨4, .gcOnly .lateStores⟩], none⟩) (v := .agg (([.int .i64 op, .int .i64 stage, .int .i64 3, .int .i64 old, .int .i64 now, .int .i64 left, .bool awoke, .bool starve, .int .i64 2, .bool false] : List Value)).toArray) rfl (by kernel_rfl) (by kernel_rfl) (by kernel_rfl) (fun _ _ _ h => h) (yieldsIf_load_mid (by rfl) _ _ (by rfl) (q) (0) (by rfl) _ _ (fun wv hS => blk_rngl hS.out) Try.underlying31 (by rfl) (by kernel_rfl)) hS ?_
      try simp only [Act.put, List.setIfInBounds_toArray, List.set_cons_zero, List.set_cons_succ]
      refine wpAnyH_take (i := 3) (oi := ⟨some 41, .build 38 #[], 38, "lock.go:46", #[⟨5, .gcOnly .lateStores⟩], none⟩) (v := ?_) rfl (by kernel_rfl) (by kernel_rfl) (by kernel_rfl) (fun _ _ _ h => h) (Or.inl ⟨by rfl, ?_⟩) hS ?_
      rotate_left
      · intro wv _; go_simp; try with_reducible rfl
      try simp only [Act.put, List.setIfInBounds_toArray, List.set_cons_zero, List.set_cons_succ]
      refine wpAnyH_ready (rs := [1]) (by kernel_rfl) (by simp) (AllReadyH.cons (o := ⟨some 39, .call { callee := .value (.func 58), args := #[.tmp 38], argTypes := #[31] }, 2, "lock.go:46", #[⟨0, .data⟩], none⟩) rfl (fun K hK => ?_) AllReadyH.nil)
      go_simp
      refine (BC.out _ _ _ _ _).mono ?_; rintro e u1 ⟨rfl, hb⟩
      replace HF0 := Lib.hid (HF0.out.step hb)
      obtain ⟨w8r, hw8r⟩ : ∃ W, u1.setCells (q + 1) 0 [.int .i64 op, .int .i64 stage, .int .i64 3, .int .i64 old, .int .i64 now, .int .i64 left, .bool awoke, .bool starve, .int .i64 2, .bool false] = W := ⟨_, rfl⟩
      have HF1 := Lib.hid ((HF0.out.all 1 rfl rfl (by rfl)).eqw hw8r)
      have hh1 := Lib.hid hw8r
      clear hw8r
      obtain ⟨w9r, hw9r⟩ : ∃ W, w8r.setCells (q + 2) 0 [.bool false, .bool false, .bool false, .int .i64 0, .int .i64 0, .int .u64 0, .slice none 0 0] = W := ⟨_, rfl⟩
      have HF2 := Lib.hid ((HF1.out.all 2 rfl rfl (by rfl)).eqw hw9r)
      have hh2 := Lib.hid hw9r
      clear hw9r
      replace hS := Lib.hid (HF0.out.blk 0 _ rfl)
      clear hb
      go_wp2_with fail
      refine Shut.out hK _ _ hS (fun _ => ?_)
      clear hK K
      try simp only [Act.put, List.setIfInBounds_toArray, List.set_cons_zero, List.set_cons_succ]
      refine wpAnyH_take (i := 4) (oi := ⟨some 6, .assign (.tmp 39), 2, "lock.go:46", #[⟨1, .data⟩, ⟨1, .chain⟩, ⟨0, .phase⟩, ⟨1, .phase⟩, ⟨2, .textOnly .lateStores⟩, ⟨3, .textOnly .lateStores⟩], none⟩) (v := ?_) rfl (by kernel_rfl) (by kernel_rfl) (by kernel_rfl) (fun _ _ _ h => h) (Or.inl ⟨by rfl, ?_⟩) hS ?_
      rotate_left
      · intro wv _; go_simp; try with_reducible rfl
      try simp only [Act.put, List.setIfInBounds_toArray, List.set_cons_zero, List.set_cons_succ]
      refine wpAnyH_ready (rs := [5]) (by kernel_rfl) (by simp) (AllReadyH.cons (o := ⟨none, .store 31 (.tmp 7) (.tmp 40), 0, "lock.go:46", #[⟨2, .data⟩, ⟨4, .chain⟩, ⟨0, .phase⟩, ⟨1, .phase⟩, ⟨2, .phase⟩, ⟨3, .textOnly .lateStores⟩, ⟨4, .phase⟩], none⟩) rfl (fun K hK => ?_) AllReadyH.nil)
      refine op_storeS (by rfl) rfl rfl rfl (there_blk (HF0.out.blk 1 _ rfl) rfl) (by kernel_rfl) (by simp [Value.oneCell']) hh1.out ?_
      replace hS := Lib.hid (HF1.out.blk 0 _ rfl)
      refine Shut.out hK _ _ hS (fun _ => ?_)
      clear hK K
      try simp only [Act.put, List.setIfInBounds_toArray, List.set_cons_zero, List.set_cons_succ]
      refine wpAnyH_ready (rs := [6]) (by kernel_rfl) (by simp) (AllReadyH.cons (o := ⟨none, .store 38 (.tmp 8) (.tmp 41), 0, "lock.go:46", #[⟨3, .data⟩, ⟨5, .chain⟩, ⟨0, .phase⟩, ⟨1, .phase⟩, ⟨2, .phase⟩, ⟨3, .phase⟩, ⟨4, .phase⟩, ⟨5, .phase⟩], none⟩) rfl (fun K hK => ?_) AllReadyH.nil)
      refine op_storeS (by rfl) rfl rfl rfl (there_blk (HF1.out.blk 2 _ rfl) rfl) (by kernel_rfl) (by simp [Value.oneCell']) hh2.out ?_
      replace hS := Lib.hid (HF2.out.blk 0 _ rfl)
      refine Shut.out hK _ _ hS (fun _ => ?_)
      clear hK K
      try simp only [Act.put, List.setIfInBounds_toArray, List.set_cons_zero, List.set_cons_succ]
      refine wpAnyH_done (by kernel_rfl) ?_ _
      refine NoPanic.normal ?_
      go_wp2
      refine bodyPost_ret (res_scc Try.results52 (by rfl) (by rfl) (HF2.out.load 1 rfl rfl Try.underlying31 (by kernel_rfl)) (HF2.out.load 2 rfl rfl Try.underlying38 (by kernel_rfl))) rfl ?_
      replace FR := HF2
      rw [HE.out]
      exact ⟨rfl, FR.out.out⟩
set_option maxRecDepth 100000 in
set_option maxHeartbeats 16000000 in
theorem muWoken_any (o0 : Int) (f : MFr) (now pat : Int) (w : World) : Calls Try.prog 53 #[.int .i64 o0, frV f, .int .i64 now, .int .i64 pat] w (fun e w' => e = .returned (frV { f with starve := f.starve || decide (pat < IntKind.i64.wrap (now - f.since)), old := o0, phase := if hasBit o0 2 then 4 else 2, awoke := f.awoke || decide (¬ hasBit o0 2) }) ∧ Below w.heap.size w w') := by
  obtain ⟨op, stage, phase, old, since, left, awoke, starve, need, front⟩ := f
  have B2 := fun (W : World) => muHas4 o0 W
  unfold frV frC
  simp only
  obtain ⟨x, hx⟩ : ∃ x, IntKind.i64.wrap (now - since) = x := ⟨_, rfl⟩
  obtain ⟨cv, hcv⟩ : ∃ b, decide (pat < x) = b := ⟨_, rfl⟩
  rw [hx, hcv]
  obtain ⟨v1, hv1, z1, v2, hv2, z2, F⟩ := boxes2 w (.cells #[.int .i64 op, .int .i64 stage, .int .i64 phase, .int .i64 old, .int .i64 since, .int .i64 left, .bool awoke, .bool starve, .int .i64 need, .bool front] 31) (.cells #[.int .i64 0, .int .i64 0, .int .i64 0, .int .i64 0, .int .i64 0, .int .i64 0, .bool false, .bool false, .int .i64 0, .bool false] 31)
  generalize hq : w.heap.size = q at *
  have FR := Lib.hid F
  clear F
  cases hb2 : decide (hasBit o0 2)
  · rw [hb2] at B2
    replace B2 := Lib.hid B2
    rw [if_neg (of_decide_eq_false hb2), decide_eq_true (of_decide_eq_false hb2), Bool.or_true]
    clear hb2
    cases starve
    · rw [Bool.false_or]
      go_enter Try.func53, Try.ntmps53
      have ac0 := row10 (b := q) (FR.out.at 0 rfl rfl)
      have af07 : v2.frozen? ⟨q, 7, none⟩ = false := FR.out.frozen 0 7 rfl rfl
      obtain ⟨w3p, hw3p⟩ : ∃ W, (v2.setCell ⟨q, 7, none⟩ (.bool cv)) = W := ⟨_, rfl⟩
      replace FR := Lib.hid (((FR.out.set 0 7 rfl rfl (.bool cv))).eqw hw3p)
      have bc0 := row10 (b := q) (FR.out.at 0 rfl rfl)
      have bf03 : w3p.frozen? ⟨q, 3, none⟩ = false := FR.out.frozen 0 3 rfl rfl
      obtain ⟨w4p, hw4p⟩ : ∃ W, (w3p.setCell ⟨q, 3, none⟩ (.int .i64 o0)) = W := ⟨_, rfl⟩
      replace FR := Lib.hid (((FR.out.set 0 3 rfl rfl (.int .i64 o0))).eqw hw4p)
      have cc0 := row10 (b := q) (FR.out.at 0 rfl rfl)
      go_wp2_with fail
      refine (B2.out _).mono ?_
      rintro e wz ⟨rfl, hw⟩
      obtain rfl := hw.symm
      clear ac0 af07 bc0 bf03 cc0
      have ac0 := row10 (b := q) (FR.out.at 0 rfl rfl)
      have af06 : w4p.frozen? ⟨q, 6, none⟩ = false := FR.out.frozen 0 6 rfl rfl
      obtain ⟨w5p, hw5p⟩ : ∃ W, (w4p.setCell ⟨q, 6, none⟩ (.bool true)) = W := ⟨_, rfl⟩
      replace FR := Lib.hid (((FR.out.set 0 6 rfl rfl (.bool true))).eqw hw5p)
      have bc0 := row10 (b := q) (FR.out.at 0 rfl rfl)
      have bf02 : w5p.frozen? ⟨q, 2, none⟩ = false := FR.out.frozen 0 2 rfl rfl
      obtain ⟨w6p, hw6p⟩ : ∃ W, (w5p.setCell ⟨q, 2, none⟩ (.int .i64 2)) = W := ⟨_, rfl⟩
      replace FR := Lib.hid (((FR.out.set 0 2 rfl rfl (.int .i64 2))).eqw hw6p)
      have cc0 := row10 (b := q) (FR.out.at 0 rfl rfl)
      obtain ⟨mw7r, w7r, hw7r, hse, F⟩ := FR.out.put10 1 rfl (b := q + 1) rfl (.int .i64 op) (.int .i64 stage) (.int .i64 2) (.int .i64 o0) (.int .i64 since) (.int .i64 left) (.bool true) (.bool cv) (.int .i64 need) (.bool front)
      replace FR := F
      clear F hse
      go_wp2
      refine bodyPost_ret (res_c Try.results53 (by rfl) (FR.out.load 1 rfl rfl Try.underlying31 (by kernel_rfl))) rfl ?_
      exact ⟨rfl, FR.out.bel⟩
    · rw [Bool.true_or]
      go_enter Try.func53, Try.ntmps53
      have ac0 := row10 (b := q) (FR.out.at 0 rfl rfl)
      have af07 : v2.frozen? ⟨q, 7, none⟩ = false := FR.out.frozen 0 7 rfl rfl
      obtain ⟨w3p, hw3p⟩ : ∃ W, (v2.setCell ⟨q, 7, none⟩ (.bool true)) = W := ⟨_, rfl⟩
      replace FR := Lib.hid (((FR.out.set 0 7 rfl rfl (.bool true))).eqw hw3p)
      have bc0 := row10 (b := q) (FR.out.at 0 rfl rfl)
      have bf03 : w3p.frozen? ⟨q, 3, none⟩ = false := FR.out.frozen 0 3 rfl rfl
      obtain ⟨w4p, hw4p⟩ : ∃ W, (w3p.setCell ⟨q, 3, none⟩ (.int .i64 o0)) = W := ⟨_, rfl⟩
      replace FR := Lib.hid (((FR.out.set 0 3 rfl rfl (.int .i64 o0))).eqw hw4p)
      have cc0 := row10 (b := q) (FR.out.at 0 rfl rfl)
      go_wp2_with fail
      refine (B2.out _).mono ?_
      rintro e wz ⟨rfl, hw⟩
      obtain rfl := hw.symm
      clear ac0 af07 bc0 bf03 cc0
      have ac0 := row10 (b := q) (FR.out.at 0 rfl rfl)
      have af06 : w4p.frozen? ⟨q, 6, none⟩ = false := FR.out.frozen 0 6 rfl rfl
      obtain ⟨w5p, hw5p⟩ : ∃ W, (w4p.setCell ⟨q, 6, none⟩ (.bool true)) = W := ⟨_, rfl⟩
      replace FR := Lib.hid (((FR.out.set 0 6 rfl rfl (.bool true))).eqw hw5p)
      have bc0 := row10 (b := q) (FR.out.at 0 rfl rfl)
      have bf02 : w5p.frozen? ⟨q, 2, none⟩ = false := FR.out.frozen 0 2 rfl rfl
      obtain ⟨w6p, hw6p⟩ : ∃ W, (w5p.setCell ⟨q, 2, none⟩ (.int .i64 2)) = W := ⟨_, rfl⟩
      replace FR := Lib.hid (((FR.out.set 0 2 rfl rfl (.int .i64 2))).eqw hw6p)
      have cc0 := row10 (b := q) (FR.out.at 0 rfl rfl)
      obtain ⟨mw7r, w7r, hw7r, hse, F⟩ := FR.out.put10 1 rfl (b := q + 1) rfl (.int .i64 op) (.int .i64 stage) (.int .i64 2) (.int .i64 o0) (.int .i64 since) (.int .i64 left) (.bool true) (.bool true) (.int .i64 need) (.bool front)
      replace FR := F
      clear F hse
      go_wp2
      refine bodyPost_ret (res_c Try.results53 (by rfl) (FR.out.load 1 rfl rfl Try.underlying31 (by kernel_rfl))) rfl ?_
      exact ⟨rfl, FR.out.bel⟩
  · rw [hb2] at B2
    replace B2 := Lib.hid B2
    rw [if_pos (of_decide_eq_true hb2), decide_eq_false (not_not_intro (of_decide_eq_true hb2)), Bool.or_false]
    clear hb2
    cases starve
    · rw [Bool.false_or]
      go_enter Try.func53, Try.ntmps53
      have ac0 := row10 (b := q) (FR.out.at 0 rfl rfl)
      have af07 : v2.frozen? ⟨q, 7, none⟩ = false := FR.out.frozen 0 7 rfl rfl
      obtain ⟨w3p, hw3p⟩ : ∃ W, (v2.setCell ⟨q, 7, none⟩ (.bool cv)) = W := ⟨_, rfl⟩
      replace FR := Lib.hid (((FR.out.set 0 7 rfl rfl (.bool cv))).eqw hw3p)
      have bc0 := row10 (b := q) (FR.out.at 0 rfl rfl)
      have bf03 : w3p.frozen? ⟨q, 3, none⟩ = false := FR.out.frozen 0 3 rfl rfl
      obtain ⟨w4p, hw4p⟩ : ∃ W, (w3p.setCell ⟨q, 3, none⟩ (.int .i64 o0)) = W := ⟨_, rfl⟩
      replace FR := Lib.hid (((FR.out.set 0 3 rfl rfl (.int .i64 o0))).eqw hw4p)
      have cc0 := row10 (b := q) (FR.out.at 0 rfl rfl)
      go_wp2_with fail
      refine (B2.out _).mono ?_
      rintro e wz ⟨rfl, hw⟩
      obtain rfl := hw.symm
      clear ac0 af07 bc0 bf03 cc0
      have ac0 := row10 (b := q) (FR.out.at 0 rfl rfl)
      have af02 : w4p.frozen? ⟨q, 2, none⟩ = false := FR.out.frozen 0 2 rfl rfl
      obtain ⟨w5p, hw5p⟩ : ∃ W, (w4p.setCell ⟨q, 2, none⟩ (.int .i64 4)) = W := ⟨_, rfl⟩
      replace FR := Lib.hid (((FR.out.set 0 2 rfl rfl (.int .i64 4))).eqw hw5p)
      have bc0 := row10 (b := q) (FR.out.at 0 rfl rfl)
      obtain ⟨mw6r, w6r, hw6r, hse, F⟩ := FR.out.put10 1 rfl (b := q + 1) rfl (.int .i64 op) (.int .i64 stage) (.int .i64 4) (.int .i64 o0) (.int .i64 since) (.int .i64 left) (.bool awoke) (.bool cv) (.int .i64 need) (.bool front)
      replace FR := F
      clear F hse
      go_wp2
      refine bodyPost_ret (res_c Try.results53 (by rfl) (FR.out.load 1 rfl rfl Try.underlying31 (by kernel_rfl))) rfl ?_
      exact ⟨rfl, FR.out.bel⟩
    · rw [Bool.true_or]
      go_enter Try.func53, Try.ntmps53
      have ac0 := row10 (b := q) (FR.out.at 0 rfl rfl)
      have af07 : v2.frozen? ⟨q, 7, none⟩ = false := FR.out.frozen 0 7 rfl rfl
      obtain ⟨w3p, hw3p⟩ : ∃ W, (v2.setCell ⟨q, 7, none⟩ (.bool true)) = W := ⟨_, rfl⟩
      replace FR := Lib.hid (((FR.out.set 0 7 rfl rfl (.bool true))).eqw hw3p)
      have bc0 := row10 (b := q) (FR.out.at 0 rfl rfl)
      have bf03 : w3p.frozen? ⟨q, 3, none⟩ = false := FR.out.frozen 0 3 rfl rfl
      obtain ⟨w4p, hw4p⟩ : ∃ W, (w3p.setCell ⟨q, 3, none⟩ (.int .i64 o0)) = W := ⟨_, rfl⟩
      replace FR := Lib.hid (((FR.out.set 0 3 rfl rfl (.int .i64 o0))).eqw hw4p)
      have cc0 := row10 (b := q) (FR.out.at 0 rfl rfl)
      go_wp2_with fail
      refine (B2.out _).mono ?_
      rintro e wz ⟨rfl, hw⟩
      obtain rfl := hw.symm
      clear ac0 af07 bc0 bf03 cc0
      have ac0 := row10 (b := q) (FR.out.at 0 rfl rfl)
      have af02 : w4p.frozen? ⟨q, 2, none⟩ = false := FR.out.frozen 0 2 rfl rfl
      obtain ⟨w5p, hw5p⟩ : ∃ W, (w4p.setCell ⟨q, 2, none⟩ (.int .i64 4)) = W := ⟨_, rfl⟩
      replace FR := Lib.hid (((FR.out.set 0 2 rfl rfl (.int .i64 4))).eqw hw5p)
      have bc0 := row10 (b := q) (FR.out.at 0 rfl rfl)
      obtain ⟨mw6r, w6r, hw6r, hse, F⟩ := FR.out.put10 1 rfl (b := q + 1) rfl (.int .i64 op) (.int .i64 stage) (.int .i64 4) (.int .i64 o0) (.int .i64 since) (.int .i64 left) (.bool awoke) (.bool true) (.int .i64 need) (.bool front)
      replace FR := F
      clear F hse
      go_wp2
      refine bodyPost_ret (res_c Try.results53 (by rfl) (FR.out.load 1 rfl rfl Try.underlying31 (by kernel_rfl))) rfl ?_
      exact ⟨rfl, FR.out.bel⟩
set_option maxRecDepth 100000 in
set_option maxHeartbeats 16000000 in
theorem muHanded_any (o0 : Int) (f : MFr) (hp : f.phase = 4) (now pat : Int) (w : World) : Calls Try.prog 54 #[.int .i64 o0, frV f] w (TupC w (lockM o0 f now pat)) := by
  obtain ⟨op, stage, phase, old, since, left, awoke, starve, need, front⟩ := f
  have hp2 : phase = 4 := hp
  subst hp2
  clear hp
  have HO : lockM o0 ⟨op, stage, 4, old, since, left, awoke, starve, need, front⟩ now pat = (IntKind.i64.wrap (o0 - (if starve = false ∨ old / 8 = 1 then 11 else 7)), noF, doneA) := by
    unfold lockM
    rw [if_neg (fun h => (show ¬ ((4 : Int) = 0) by decide) h.1), if_neg (fun h => by rcases h with h | h; exact (show ¬ ((4 : Int) = 0) by decide) h; exact (show ¬ ((4 : Int) = 2) by decide) h.1), if_neg (fun h => (show ¬ ((4 : Int) = 1) by decide) h), if_neg (fun h => (show ¬ ((4 : Int) = 2) by decide) h), if_neg (fun h => (show ¬ ((4 : Int) = 3) by decide) h), if_pos rfl]
  have MY := fun (W : World) => muMany_any old W
  obtain ⟨x, hx⟩ : ∃ x, old / 8 = x := ⟨_, rfl⟩
  rw [hx] at HO MY
  replace MY := Lib.hid MY
  clear hx
  obtain ⟨y, hy⟩ : ∃ y, IntKind.i64.wrap (o0 + (-7)) = y := ⟨_, rfl⟩
  obtain ⟨z, hz⟩ : ∃ z, IntKind.i64.wrap (y - 4) = z := ⟨_, rfl⟩
  unfold frV frC
  simp only
  obtain ⟨v1, hv1, z1, v2, hv2, z2, v3, hv3, z3, F⟩ := boxes3 w (.cells #[.int .i64 op, .int .i64 stage, .int .i64 4, .int .i64 old, .int .i64 since, .int .i64 left, .bool awoke, .bool starve, .int .i64 need, .bool front] 31) (.cells #[.int .i64 0, .int .i64 0, .int .i64 0, .int .i64 0, .int .i64 0, .int .i64 0, .bool false, .bool false, .int .i64 0, .bool false] 31) (.cells #[.bool false, .bool false, .bool false, .int .i64 0, .int .i64 0, .int .u64 0, .slice none 0 0] 38)
  generalize hq : w.heap.size = q at *
  have FR := Lib.hid F
  clear F
  cases starve
  · have HCOND : (false = false ∨ x = 1) := Or.inl rfl
    have HE := Lib.hid (show lockM o0 ⟨op, stage, 4, old, since, left, awoke, false, need, front⟩ now pat = (z, noF, doneA) from HO.trans (by rw [if_pos HCOND]; rw [← hz, ← hy]; simp only [IntKind.wrap_i64]; congr 1 <;> omega))
    clear HO HCOND
    go_enter Try.func54, Try.ntmps54
    have ac0 := row10 (b := q) (FR.out.at 0 rfl rfl)
    go_wp2_with fail
    refine (muDone_any z _).mono ?_
    rintro e w7 ⟨rfl, hb⟩
    clear ac0
    replace FR := Lib.hid (FR.out.step hb)
    clear hb
    obtain ⟨mw4r, w4r, hw4r, hse, F⟩ := FR.out.put10 1 rfl (b := q + 1) rfl (.int .i64 0) (.int .i64 0) (.int .i64 0) (.int .i64 0) (.int .i64 0) (.int .i64 0) (.bool false) (.bool false) (.int .i64 0) (.bool false)
    replace FR := F
    clear F hse
    obtain ⟨mw5r, w5r, hw5r, hse, F⟩ := FR.out.put7 2 rfl (b := q + 2) rfl (.bool true) (.bool false) (.bool false) (.int .i64 0) (.int .i64 0) (.int .u64 0) (.slice none 0 0)
    replace FR := F
    clear F hse
    go_wp2
    refine bodyPost_ret (res_scc Try.results54 (by rfl) (by rfl) (FR.out.load 1 rfl rfl Try.underlying31 (by kernel_rfl)) (FR.out.load 2 rfl rfl Try.underlying38 (by kernel_rfl))) rfl ?_
    rw [HE.out]
    exact ⟨rfl, FR.out.out⟩
  · by_cases h1 : x = 1
    · have e1 : (x == 1) = true := by simp [h1]
      have HCOND : (true = false ∨ x = 1) := Or.inr h1
      have HE := Lib.hid (show lockM o0 ⟨op, stage, 4, old, since, left, awoke, true, need, front⟩ now pat = (z, noF, doneA) from HO.trans (by rw [if_pos HCOND]; rw [← hz, ← hy]; simp only [IntKind.wrap_i64]; congr 1 <;> omega))
      clear HO HCOND
      go_enter Try.func54, Try.ntmps54
      have ac0 := row10 (b := q) (FR.out.at 0 rfl rfl)
      go_wp2_with fail
      refine (MY.out _).mono ?_
      rintro e wz ⟨rfl, hw⟩
      obtain rfl := hw.symm
      go_wp2_with fail
      refine (muDone_any z _).mono ?_
      rintro e w7 ⟨rfl, hb⟩
      clear ac0
      replace FR := Lib.hid (FR.out.step hb)
      clear hb
      obtain ⟨mw4r, w4r, hw4r, hse, F⟩ := FR.out.put10 1 rfl (b := q + 1) rfl (.int .i64 0) (.int .i64 0) (.int .i64 0) (.int .i64 0) (.int .i64 0) (.int .i64 0) (.bool false) (.bool false) (.int .i64 0) (.bool false)
      replace FR := F
      clear F hse
      obtain ⟨mw5r, w5r, hw5r, hse, F⟩ := FR.out.put7 2 rfl (b := q + 2) rfl (.bool true) (.bool false) (.bool false) (.int .i64 0) (.int .i64 0) (.int .u64 0) (.slice none 0 0)
      replace FR := F
      clear F hse
      go_wp2
      refine bodyPost_ret (res_scc Try.results54 (by rfl) (by rfl) (FR.out.load 1 rfl rfl Try.underlying31 (by kernel_rfl)) (FR.out.load 2 rfl rfl Try.underlying38 (by kernel_rfl))) rfl ?_
      rw [HE.out]
      exact ⟨rfl, FR.out.out⟩
    · have e1 : (x == 1) = false := by simp [h1]
      have HCOND : ¬ (true = false ∨ x = 1) := fun h => by rcases h with h | h; cases h; exact h1 h
      have HE := Lib.hid (show lockM o0 ⟨op, stage, 4, old, since, left, awoke, true, need, front⟩ now pat = (y, noF, doneA) from HO.trans (by rw [if_neg HCOND]; rw [← hy]; simp only [IntKind.wrap_i64]; congr 1 <;> omega))
      clear HO HCOND
      go_enter Try.func54, Try.ntmps54
      have ac0 := row10 (b := q) (FR.out.at 0 rfl rfl)
      go_wp2_with fail
      refine (MY.out _).mono ?_
      rintro e wz ⟨rfl, hw⟩
      obtain rfl := hw.symm
      go_wp2_with fail
      refine (muDone_any y _).mono ?_
      rintro e w7 ⟨rfl, hb⟩
      clear ac0
      replace FR := Lib.hid (FR.out.step hb)
      clear hb
      obtain ⟨mw4r, w4r, hw4r, hse, F⟩ := FR.out.put10 1 rfl (b := q + 1) rfl (.int .i64 0) (.int .i64 0) (.int .i64 0) (.int .i64 0) (.int .i64 0) (.int .i64 0) (.bool false) (.bool false) (.int .i64 0) (.bool false)
      replace FR := F
      clear F hse
      obtain ⟨mw5r, w5r, hw5r, hse, F⟩ := FR.out.put7 2 rfl (b := q + 2) rfl (.bool true) (.bool false) (.bool false) (.int .i64 0) (.int .i64 0) (.int .u64 0) (.slice none 0 0)
      replace FR := F
      clear F hse
      go_wp2
      refine bodyPost_ret (res_scc Try.results54 (by rfl) (by rfl) (FR.out.load 1 rfl rfl Try.underlying31 (by kernel_rfl)) (FR.out.load 2 rfl rfl Try.underlying38 (by kernel_rfl))) rfl ?_
      rw [HE.out]
      exact ⟨rfl, FR.out.out⟩
end Go.Proofs.Ytpkegfochfkkcaa
