/- Layer 16: what the landed rw's own small functions answer; no condition but a stage. -/
import Derived.Test.YtpkegfochfkkcaaRwB
import Derived.Test.YtpkegfochfkkcaaStp
namespace Go.Proofs.Ytpkegfochfkkcaa
set_option linter.unusedVariables false
set_option linter.unusedSimpArgs false
open Go.RowKit
set_option maxRecDepth 100000 in
set_option maxHeartbeats 16000000 in
theorem rwCome_any (kd o0 o1 o2 o3 o4 o5 wa to : Int) (A : Option Addr) (n c : Nat) (B : Option Addr) (m d : Nat) (f : MFr) (hs : f.stage = 0) (w : World) : Calls Try.prog 22 #[obV kd o0 o1 o2 o3 o4 o5 wa to A n c B m d, frV f] w (StepR w kd o1 o2 o3 wa to A n c B m d (rlockW o0 o4 o5 f)) := by
  obtain ⟨op, stage, phase, old, since, left, awoke, starve, need, front⟩ := f
  have hs2 : stage = 0 := hs
  subst hs2
  clear hs
  unfold obV frV frC
  simp only
  obtain ⟨v1, hv1, z1, v2, hv2, z2, v3, hv3, z3, v4, hv4, z4, v5, hv5, z5, F⟩ := boxes5 w (.cells #[.int .i64 kd, .int .i64 o0, .int .i64 o1, .int .i64 o2, .int .i64 o3, .int .i64 o4, .int .i64 o5, .int .u32 wa, .int .u32 to, .slice A n c, .slice B m d] 29) (.cells #[.int .i64 op, .int .i64 0, .int .i64 phase, .int .i64 old, .int .i64 since, .int .i64 left, .bool awoke, .bool starve, .int .i64 need, .bool front] 31) (.cells #[.int .i64 0, .int .i64 0, .int .i64 0, .int .i64 0, .int .i64 0, .int .i64 0, .int .i64 0, .int .u32 0, .int .u32 0, .slice none 0 0, .slice none 0 0] 29) (.cells #[.int .i64 0, .int .i64 0, .int .i64 0, .int .i64 0, .int .i64 0, .int .i64 0, .bool false, .bool false, .int .i64 0, .bool false] 31) (.cells #[.bool false, .bool false, .bool false, .int .i64 0, .int .i64 0, .int .u64 0, .slice none 0 0] 38)
  generalize hq : w.heap.size = q at *
  have FR := Lib.hid F
  clear F
  obtain ⟨x, hx⟩ : ∃ x, IntKind.i64.wrap (o4 + 1) = x := ⟨_, rfl⟩
  have HO : rlockW o0 o4 o5 ⟨op, 0, phase, old, since, left, awoke, starve, need, front⟩ = (if x < 0 then ((o0, x, o5), ⟨op, 1, phase, old, since, left, awoke, starve, 4, front⟩, noA) else ((o0, x, o5), noF, doneA)) := by
    unfold rlockW
    rw [if_neg (show ¬ ((0 : Int) = 1) by decide), if_neg (fun h => h rfl), hx]
  by_cases hx0 : x < 0
  · have c0 : decide (0 ≤ x) = false := decide_eq_false (Int.not_le.2 hx0)
    have HE := Lib.hid (HO.trans (if_pos hx0))
    clear HO hx0
    go_enter Try.func22, Try.ntmps22
    have ac0 := row11 (b := q) (FR.out.at 0 rfl rfl)
    have af05 : v5.frozen? ⟨q, 5, none⟩ = false := FR.out.frozen 0 5 rfl rfl
    have ac1 := row10 (b := q + 1) (FR.out.at 1 rfl rfl)
    obtain ⟨w6p, hw6p⟩ : ∃ W, (v5.setCell ⟨q, 5, none⟩ (.int .i64 x)) = W := ⟨_, rfl⟩
    replace FR := Lib.hid (((FR.out.set 0 5 rfl rfl (.int .i64 x))).eqw hw6p)
    have bc0 := row11 (b := q) (FR.out.at 0 rfl rfl)
    have bc1 := row10 (b := q + 1) (FR.out.at 1 rfl rfl)
    have bf11 : w6p.frozen? ⟨q + 1, 1, none⟩ = false := FR.out.frozen 1 1 rfl rfl
    have bf18 : w6p.frozen? ⟨q + 1, 8, none⟩ = false := FR.out.frozen 1 8 rfl rfl
    obtain ⟨w7p, hw7p⟩ : ∃ W, ((w6p.setCell ⟨q + 1, 8, none⟩ (.int .i64 4)).setCell ⟨q + 1, 1, none⟩ (.int .i64 1)) = W := ⟨_, rfl⟩
    replace FR := Lib.hid ((((FR.out.set 1 8 rfl rfl (.int .i64 4)).set 1 1 rfl rfl (.int .i64 1))).eqw hw7p)
    have cc0 := row11 (b := q) (FR.out.at 0 rfl rfl)
    have cc1 := row10 (b := q + 1) (FR.out.at 1 rfl rfl)
    go_wp2
    clear ac0 af05 ac1 bc0 bc1 bf11 bf18 cc0 cc1
    have HF0 := Lib.hid FR.out.drew
    obtain ⟨w8r, hw8r⟩ : ∃ W, w7p.drew.setCells (q + 2) 0 [.int .i64 kd, .int .i64 o0, .int .i64 o1, .int .i64 o2, .int .i64 o3, .int .i64 x, .int .i64 o5, .int .u32 wa, .int .u32 to, .slice A n c, .slice B m d] = W := ⟨_, rfl⟩
    have HF1 := Lib.hid ((HF0.out.all 2 rfl rfl (by rfl)).eqw hw8r)
    have hh1 := Lib.hid hw8r
    clear hw8r
    obtain ⟨w9r, hw9r⟩ : ∃ W, w8r.setCells (q + 3) 0 [.int .i64 op, .int .i64 1, .int .i64 phase, .int .i64 old, .int .i64 since, .int .i64 left, .bool awoke, .bool starve, .int .i64 4, .bool front] = W := ⟨_, rfl⟩
    have HF2 := Lib.hid ((HF1.out.all 3 rfl rfl (by rfl)).eqw hw9r)
    have hh2 := Lib.hid hw9r
    clear hw9r
    obtain ⟨w10r, hw10r⟩ : ∃ W, w9r.setCells (q + 4) 0 [.bool false, .bool false, .bool false, .int .i64 0, .int .i64 0, .int .u64 0, .slice none 0 0] = W := ⟨_, rfl⟩
    have HF3 := Lib.hid ((HF2.out.all 4 rfl rfl (by rfl)).eqw hw10r)
    have hh3 := Lib.hid hw10r
    clear hw10r
    refine wp_region_noPanic ?_
    refine wp_region_held_drew (S := (fun wv => Hid (wv.heap[q]? = some (.cells #[.int .i64 kd, .int .i64 o0, .int .i64 o1, .int .i64 o2, .int .i64 o3, .int .i64 x, .int .i64 o5, .int .u32 wa, .int .u32 to, .slice A n c, .slice B m d] 29) ∧ wv.heap[q + 1]? = some (.cells #[.int .i64 op, .int .i64 1, .int .i64 phase, .int .i64 old, .int .i64 since, .int .i64 left, .bool awoke, .bool starve, .int .i64 4, .bool front] 31)))) (by kernel_rfl) (Lib.hid (And.intro (HF0.out.blk 0 _ rfl) (HF0.out.blk 1 _ rfl))) (fun hS => ?_)
    refine wpAnyH_take (i := 0) (oi := ⟨some 24, .load 29 (.tmp 2), 29, "read.go:29", #[], none⟩) (v := .agg (([.int .i64 kd, .int .i64 o0, .int .i64 o1, .int .i64 o2, .int .i64 o3, .int .i64 x, .int .i64 o5, .int .u32 wa, .int .u32 to, .slice A n c, .slice B m d] : List Value)).toArray) rfl (by kernel_rfl) (by kernel_rfl) (by kernel_rfl) (fun _ _ _ h => h) (yieldsIf_load_mid (by rfl) _ _ (by rfl) (q) (0) (by rfl) _ _ (fun wv hS => blk_rngl hS.out.1) Try.underlying29 (by rfl) (by kernel_rfl)) hS ?_
    try simp only [Act.put, List.setIfInBounds_toArray, List.set_cons_zero, List.set_cons_succ]
    refine wpAnyH_take (i := 1) (oi := ⟨some 25, .load 31 (.tmp 3), 31, "read.go:29", #[⟨3, .gcOnly .lateStores⟩], none⟩) (v := .agg (([.int .i64 op, .int .i64 1, .int .i64 phase, .int .i64 old, .int .i64 since, .int .i64 left, .bool awoke, .bool starve, .int .i64 4, .bool front] : List Value)).toArray) rfl (by kernel_rfl) (by kernel_rfl) (by kernel_rfl) (fun _ _ _ h => h) (yieldsIf_load_mid (by rfl) _ _ (by rfl) (q + 1) (0) (by rfl) _ _ (fun wv hS => blk_rngl hS.out.2) Try.underlying31 (by rfl) (by kernel_rfl)) hS ?_
    try simp only [Act.put, List.setIfInBounds_toArray, List.set_cons_zero, List.set_cons_succ]
    refine wpAnyH_take (i := 2) (oi := ⟨some 26, .build 38 #[], 38, "read.go:29", #[⟨4, .gcOnly .lateStores⟩], none⟩) (v := ?_) rfl (by kernel_rfl) (by kernel_rfl) (by kernel_rfl) (fun _ _ _ h => h) (Or.inl ⟨by rfl, ?_⟩) hS ?_
    rotate_left
    · intro wv _; go_simp; try with_reducible rfl
    try simp only [Act.put, List.setIfInBounds_toArray, List.set_cons_zero, List.set_cons_succ]
    refine wpAnyH_ready (rs := [3]) (by kernel_rfl) (by simp) (AllReadyH.cons (o := ⟨none, .store 29 (.tmp 4) (.tmp 24), 0, "read.go:29", #[⟨0, .data⟩, ⟨0, .phase⟩, ⟨1, .textOnly .lateStores⟩, ⟨2, .textOnly .lateStores⟩], none⟩) rfl (fun K hK => ?_) AllReadyH.nil)
    refine op_storeS (by rfl) rfl rfl rfl (there_blk (HF0.out.blk 2 _ rfl) rfl) (by kernel_rfl) (by simp [Value.oneCell']) hh1.out ?_
    replace hS := Lib.hid (And.intro (HF1.out.blk 0 _ rfl) (HF1.out.blk 1 _ rfl))
    refine Shut.out hK _ _ hS (fun _ => ?_)
    clear hK K
    try simp only [Act.put, List.setIfInBounds_toArray, List.set_cons_zero, List.set_cons_succ]
    refine wpAnyH_ready (rs := [4]) (by kernel_rfl) (by simp) (AllReadyH.cons (o := ⟨none, .store 31 (.tmp 5) (.tmp 25), 0, "read.go:29", #[⟨1, .data⟩, ⟨3, .chain⟩, ⟨0, .phase⟩, ⟨1, .phase⟩, ⟨2, .textOnly .lateStores⟩, ⟨3, .phase⟩], none⟩) rfl (fun K hK => ?_) AllReadyH.nil)
    refine op_storeS (by rfl) rfl rfl rfl (there_blk (HF1.out.blk 3 _ rfl) rfl) (by kernel_rfl) (by simp [Value.oneCell']) hh2.out ?_
    replace hS := Lib.hid (And.intro (HF2.out.blk 0 _ rfl) (HF2.out.blk 1 _ rfl))
    refine Shut.out hK _ _ hS (fun _ => ?_)
    clear hK K
    try simp only [Act.put, List.setIfInBounds_toArray, List.set_cons_zero, List.set_cons_succ]
    refine wpAnyH_ready (rs := [5]) (by kernel_rfl) (by simp) (AllReadyH.cons (o := ⟨none, .store 38 (.tmp 6) (.tmp 26), 0, "read.go:29", #[⟨2, .data⟩, ⟨4, .chain⟩, ⟨0, .phase⟩, ⟨1, .phase⟩, ⟨2, .phase⟩, ⟨3, .phase⟩, ⟨4, .phase⟩], none⟩) rfl (fun K hK => ?_) AllReadyH.nil)
    refine op_storeS (by rfl) rfl rfl rfl (there_blk (HF2.out.blk 4 _ rfl) rfl) (by kernel_rfl) (by simp [Value.oneCell']) hh3.out ?_
    replace hS := Lib.hid (And.intro (HF3.out.blk 0 _ rfl) (HF3.out.blk 1 _ rfl))
    refine Shut.out hK _ _ hS (fun _ => ?_)
    clear hK K
    try simp only [Act.put, List.setIfInBounds_toArray, List.set_cons_zero, List.set_cons_succ]
    refine wpAnyH_done (by kernel_rfl) ?_ _
    refine NoPanic.normal ?_
    go_wp2
    refine bodyPost_ret (res_ccc Try.results22 (by rfl) (by rfl) (by rfl) (HF3.out.load 2 rfl rfl Try.underlying29 (by kernel_rfl)) (HF3.out.load 3 rfl rfl Try.underlying31 (by kernel_rfl)) (HF3.out.load 4 rfl rfl Try.underlying38 (by kernel_rfl))) rfl ?_
    replace FR := HF3
    rw [HE.out]
    exact ⟨rfl, FR.out.out⟩
  · have c0 : decide (0 ≤ x) = true := decide_eq_true (Int.not_lt.1 hx0)
    have HE := Lib.hid (HO.trans (if_neg hx0))
    clear HO hx0
    go_enter Try.func22, Try.ntmps22
    have ac0 := row11 (b := q) (FR.out.at 0 rfl rfl)
    have af05 : v5.frozen? ⟨q, 5, none⟩ = false := FR.out.frozen 0 5 rfl rfl
    have ac1 := row10 (b := q + 1) (FR.out.at 1 rfl rfl)
    obtain ⟨w6p, hw6p⟩ : ∃ W, (v5.setCell ⟨q, 5, none⟩ (.int .i64 x)) = W := ⟨_, rfl⟩
    replace FR := Lib.hid (((FR.out.set 0 5 rfl rfl (.int .i64 x))).eqw hw6p)
    have bc0 := row11 (b := q) (FR.out.at 0 rfl rfl)
    have bc1 := row10 (b := q + 1) (FR.out.at 1 rfl rfl)
    go_wp2_with fail
    refine (stDone_any _ _ _ _ _ _ _ _ _ _ _ _ _ _ _ _).mono ?_
    rintro e w7 ⟨rfl, hb⟩
    clear ac0 af05 ac1 bc0 bc1
    clear hw6p
    replace FR := Lib.hid (FR.out.step hb)
    clear hb
    obtain ⟨mw7r, w7r, hw7r, hse, F⟩ := FR.out.put11 2 rfl (b := q + 2) rfl (.int .i64 kd) (.int .i64 o0) (.int .i64 o1) (.int .i64 o2) (.int .i64 o3) (.int .i64 x) (.int .i64 o5) (.int .u32 wa) (.int .u32 to) (.slice A n c) (.slice B m d)
    replace FR := F
    clear F hse
    obtain ⟨mw8r, w8r, hw8r, hse, F⟩ := FR.out.put10 3 rfl (b := q + 3) rfl (.int .i64 0) (.int .i64 0) (.int .i64 0) (.int .i64 0) (.int .i64 0) (.int .i64 0) (.bool false) (.bool false) (.int .i64 0) (.bool false)
    replace FR := F
    clear F hse
    obtain ⟨mw9r, w9r, hw9r, hse, F⟩ := FR.out.put7 4 rfl (b := q + 4) rfl (.bool true) (.bool false) (.bool false) (.int .i64 0) (.int .i64 0) (.int .u64 0) (.slice none 0 0)
    replace FR := F
    clear F hse
    go_wp2
    refine bodyPost_ret (res_ccc Try.results22 (by rfl) (by rfl) (by rfl) (FR.out.load 2 rfl rfl Try.underlying29 (by kernel_rfl)) (FR.out.load 3 rfl rfl Try.underlying31 (by kernel_rfl)) (FR.out.load 4 rfl rfl Try.underlying38 (by kernel_rfl))) rfl ?_
    rw [HE.out]
    exact ⟨rfl, FR.out.out⟩
set_option maxRecDepth 100000 in
set_option maxHeartbeats 16000000 in
theorem rwLeave_any (kd o0 o1 o2 o3 o4 o5 wa to : Int) (A : Option Addr) (n c : Nat) (B : Option Addr) (m d : Nat) (f : MFr) (hs : f.stage = 0) (w : World) : Calls Try.prog 26 #[obV kd o0 o1 o2 o3 o4 o5 wa to A n c B m d, frV f] w (StepR w kd o1 o2 o3 wa to A n c B m d (runlockW o0 o4 o5 f)) := by
  obtain ⟨op, stage, phase, old, since, left, awoke, starve, need, front⟩ := f
  have hs2 : stage = 0 := hs
  subst hs2
  clear hs
  unfold obV frV frC
  simp only
  obtain ⟨v1, hv1, z1, v2, hv2, z2, v3, hv3, z3, v4, hv4, z4, v5, hv5, z5, F⟩ := boxes5 w (.cells #[.int .i64 kd, .int .i64 o0, .int .i64 o1, .int .i64 o2, .int .i64 o3, .int .i64 o4, .int .i64 o5, .int .u32 wa, .int .u32 to, .slice A n c, .slice B m d] 29) (.cells #[.int .i64 op, .int .i64 0, .int .i64 phase, .int .i64 old, .int .i64 since, .int .i64 left, .bool awoke, .bool starve, .int .i64 need, .bool front] 31) (.cells #[.int .i64 0, .int .i64 0, .int .i64 0, .int .i64 0, .int .i64 0, .int .i64 0, .int .i64 0, .int .u32 0, .int .u32 0, .slice none 0 0, .slice none 0 0] 29) (.cells #[.int .i64 0, .int .i64 0, .int .i64 0, .int .i64 0, .int .i64 0, .int .i64 0, .bool false, .bool false, .int .i64 0, .bool false] 31) (.cells #[.bool false, .bool false, .bool false, .int .i64 0, .int .i64 0, .int .u64 0, .slice none 0 0] 38)
  generalize hq : w.heap.size = q at *
  have FR := Lib.hid F
  clear F
  obtain ⟨x, hx⟩ : ∃ x, IntKind.i64.wrap (o4 - 1) = x := ⟨_, rfl⟩
  have HO : runlockW o0 o4 o5 ⟨op, 0, phase, old, since, left, awoke, starve, need, front⟩ = (if o4 = 0 ∨ o4 = -1048576 then ((o0, o4, o5), noF, faultA) else if x < 0 then ((o0, x, o5), ⟨op, 1, phase, old, since, left, awoke, starve, need, front⟩, noA) else ((o0, x, o5), noF, doneA)) := by
    unfold runlockW
    rw [if_pos rfl, hx]
  by_cases h0 : o4 = 0
  · have c0 : (o4 == 0) = true := by simp [h0]
    have HE := Lib.hid (HO.trans (if_pos (Or.inl h0)))
    clear HO h0
    go_enter Try.func26, Try.ntmps26
    have ac0 := row11 (b := q) (FR.out.at 0 rfl rfl)
    have ac1 := row10 (b := q + 1) (FR.out.at 1 rfl rfl)
    go_wp2_with fail
    refine (stFault_any _ _ _ _ _ _ _ _ _ _ _ _ _ _ _ _ _).mono ?_
    rintro e w7 ⟨rfl, hb⟩
    clear ac0 ac1
    replace FR := Lib.hid (FR.out.step hb)
    clear hb
    obtain ⟨mw6r, w6r, hw6r, hse, F⟩ := FR.out.put11 2 rfl (b := q + 2) rfl (.int .i64 kd) (.int .i64 o0) (.int .i64 o1) (.int .i64 o2) (.int .i64 o3) (.int .i64 o4) (.int .i64 o5) (.int .u32 wa) (.int .u32 to) (.slice A n c) (.slice B m d)
    replace FR := F
    clear F hse
    obtain ⟨mw7r, w7r, hw7r, hse, F⟩ := FR.out.put10 3 rfl (b := q + 3) rfl (.int .i64 0) (.int .i64 0) (.int .i64 0) (.int .i64 0) (.int .i64 0) (.int .i64 0) (.bool false) (.bool false) (.int .i64 0) (.bool false)
    replace FR := F
    clear F hse
    obtain ⟨mw8r, w8r, hw8r, hse, F⟩ := FR.out.put7 4 rfl (b := q + 4) rfl (.bool false) (.bool false) (.bool false) (.int .i64 0) (.int .i64 1) (.int .u64 0) (.slice none 0 0)
    replace FR := F
    clear F hse
    go_wp2
    refine bodyPost_ret (res_ccc Try.results26 (by rfl) (by rfl) (by rfl) (FR.out.load 2 rfl rfl Try.underlying29 (by kernel_rfl)) (FR.out.load 3 rfl rfl Try.underlying31 (by kernel_rfl)) (FR.out.load 4 rfl rfl Try.underlying38 (by kernel_rfl))) rfl ?_
    rw [HE.out]
    exact ⟨rfl, FR.out.out⟩
  · have c0 : (o4 == 0) = false := by simp [h0]
    by_cases h1 : o4 = -1048576
    · have c1 : (o4 == -1048576) = true := by simp [h1]
      have HE := Lib.hid (HO.trans (if_pos (Or.inr h1)))
      clear HO h0 h1
      go_enter Try.func26, Try.ntmps26
      have ac0 := row11 (b := q) (FR.out.at 0 rfl rfl)
      have ac1 := row10 (b := q + 1) (FR.out.at 1 rfl rfl)
      go_wp2_with fail
      refine (stFault_any _ _ _ _ _ _ _ _ _ _ _ _ _ _ _ _ _).mono ?_
      rintro e w7 ⟨rfl, hb⟩
      clear ac0 ac1
      replace FR := Lib.hid (FR.out.step hb)
      clear hb
      obtain ⟨mw6r, w6r, hw6r, hse, F⟩ := FR.out.put11 2 rfl (b := q + 2) rfl (.int .i64 kd) (.int .i64 o0) (.int .i64 o1) (.int .i64 o2) (.int .i64 o3) (.int .i64 o4) (.int .i64 o5) (.int .u32 wa) (.int .u32 to) (.slice A n c) (.slice B m d)
      replace FR := F
      clear F hse
      obtain ⟨mw7r, w7r, hw7r, hse, F⟩ := FR.out.put10 3 rfl (b := q + 3) rfl (.int .i64 0) (.int .i64 0) (.int .i64 0) (.int .i64 0) (.int .i64 0) (.int .i64 0) (.bool false) (.bool false) (.int .i64 0) (.bool false)
      replace FR := F
      clear F hse
      obtain ⟨mw8r, w8r, hw8r, hse, F⟩ := FR.out.put7 4 rfl (b := q + 4) rfl (.bool false) (.bool false) (.bool false) (.int .i64 0) (.int .i64 1) (.int .u64 0) (.slice none 0 0)
      replace FR := F
      clear F hse
      go_wp2
      refine bodyPost_ret (res_ccc Try.results26 (by rfl) (by rfl) (by rfl) (FR.out.load 2 rfl rfl Try.underlying29 (by kernel_rfl)) (FR.out.load 3 rfl rfl Try.underlying31 (by kernel_rfl)) (FR.out.load 4 rfl rfl Try.underlying38 (by kernel_rfl))) rfl ?_
      rw [HE.out]
      exact ⟨rfl, FR.out.out⟩
    · have c1 : (o4 == -1048576) = false := by simp [h1]
      replace HO := HO.trans (if_neg (fun h => by rcases h with h | h; exact h0 h; exact h1 h))
      clear h0 h1
      by_cases hx0 : x < 0
      · have c2 : decide (0 ≤ x) = false := decide_eq_false (Int.not_le.2 hx0)
        have HE := Lib.hid (HO.trans (if_pos hx0))
        clear HO hx0
        go_enter Try.func26, Try.ntmps26
        have ac0 := row11 (b := q) (FR.out.at 0 rfl rfl)
        have af05 : v5.frozen? ⟨q, 5, none⟩ = false := FR.out.frozen 0 5 rfl rfl
        have ac1 := row10 (b := q + 1) (FR.out.at 1 rfl rfl)
        obtain ⟨w6p, hw6p⟩ : ∃ W, (v5.setCell ⟨q, 5, none⟩ (.int .i64 x)) = W := ⟨_, rfl⟩
        replace FR := Lib.hid (((FR.out.set 0 5 rfl rfl (.int .i64 x))).eqw hw6p)
        have bc0 := row11 (b := q) (FR.out.at 0 rfl rfl)
        have bc1 := row10 (b := q + 1) (FR.out.at 1 rfl rfl)
        have bf11 : w6p.frozen? ⟨q + 1, 1, none⟩ = false := FR.out.frozen 1 1 rfl rfl
        obtain ⟨w7p, hw7p⟩ : ∃ W, (w6p.setCell ⟨q + 1, 1, none⟩ (.int .i64 1)) = W := ⟨_, rfl⟩
        replace FR := Lib.hid (((FR.out.set 1 1 rfl rfl (.int .i64 1))).eqw hw7p)
        have cc0 := row11 (b := q) (FR.out.at 0 rfl rfl)
        have cc1 := row10 (b := q + 1) (FR.out.at 1 rfl rfl)
        go_wp2
        clear ac0 af05 ac1 bc0 bc1 bf11 cc0 cc1
        have HF0 := Lib.hid FR.out.drew
        obtain ⟨w8r, hw8r⟩ : ∃ W, w7p.drew.setCells (q + 2) 0 [.int .i64 kd, .int .i64 o0, .int .i64 o1, .int .i64 o2, .int .i64 o3, .int .i64 x, .int .i64 o5, .int .u32 wa, .int .u32 to, .slice A n c, .slice B m d] = W := ⟨_, rfl⟩
        have HF1 := Lib.hid ((HF0.out.all 2 rfl rfl (by rfl)).eqw hw8r)
        have hh1 := Lib.hid hw8r
        clear hw8r
        obtain ⟨w9r, hw9r⟩ : ∃ W, w8r.setCells (q + 3) 0 [.int .i64 op, .int .i64 1, .int .i64 phase, .int .i64 old, .int .i64 since, .int .i64 left, .bool awoke, .bool starve, .int .i64 need, .bool front] = W := ⟨_, rfl⟩
        have HF2 := Lib.hid ((HF1.out.all 3 rfl rfl (by rfl)).eqw hw9r)
        have hh2 := Lib.hid hw9r
        clear hw9r
        obtain ⟨w10r, hw10r⟩ : ∃ W, w9r.setCells (q + 4) 0 [.bool false, .bool false, .bool false, .int .i64 0, .int .i64 0, .int .u64 0, .slice none 0 0] = W := ⟨_, rfl⟩
        have HF3 := Lib.hid ((HF2.out.all 4 rfl rfl (by rfl)).eqw hw10r)
        have hh3 := Lib.hid hw10r
        clear hw10r
        refine wp_region_noPanic ?_
        refine wp_region_held_drew (S := (fun wv => Hid (wv.heap[q]? = some (.cells #[.int .i64 kd, .int .i64 o0, .int .i64 o1, .int .i64 o2, .int .i64 o3, .int .i64 x, .int .i64 o5, .int .u32 wa, .int .u32 to, .slice A n c, .slice B m d] 29) ∧ wv.heap[q + 1]? = some (.cells #[.int .i64 op, .int .i64 1, .int .i64 phase, .int .i64 old, .int .i64 since, .int .i64 left, .bool awoke, .bool starve, .int .i64 need, .bool front] 31)))) (by kernel_rfl) (Lib.hid (And.intro (HF0.out.blk 0 _ rfl) (HF0.out.blk 1 _ rfl))) (fun hS => ?_)
        refine wpAnyH_take (i := 0) (oi := ⟨some 38, .load 29 (.tmp 2), 29, "read.go:42", #[], none⟩) (v := .agg (([.int .i64 kd, .int .i64 o0, .int .i64 o1, .int .i64 o2, .int .i64 o3, .int .i64 x, .int .i64 o5, .int .u32 wa, .int .u32 to, .slice A n c, .slice B m d] : List Value)).toArray) rfl (by kernel_rfl) (by kernel_rfl) (by kernel_rfl) (fun _ _ _ h => h) (yieldsIf_load_mid (by rfl) _ _ (by rfl) (q) (0) (by rfl) _ _ (fun wv hS => blk_rngl hS.out.1) Try.underlying29 (by rfl) (by kernel_rfl)) hS ?_
        try simp only [Act.put, List.setIfInBounds_toArray, List.set_cons_zero, List.set_cons_succ]
        refine wpAnyH_take (i := 1) (oi := ⟨some 39, .load 31 (.tmp 3), 31, "read.go:42", #[⟨3, .gcOnly .lateStores⟩], none⟩) (v := .agg (([.int .i64 op, .int .i64 1, .int .i64 phase, .int .i64 old, .int .i64 since, .int .i64 left, .bool awoke, .bool starve, .int .i64 need, .bool front] : List Value)).toArray) rfl (by kernel_rfl) (by kernel_rfl) (by kernel_rfl) (fun _ _ _ h => h) (yieldsIf_load_mid (by rfl) _ _ (by rfl) (q + 1) (0) (by rfl) _ _ (fun wv hS => blk_rngl hS.out.2) Try.underlying31 (by rfl) (by kernel_rfl)) hS ?_
        try simp only [Act.put, List.setIfInBounds_toArray, List.set_cons_zero, List.set_cons_succ]
        refine wpAnyH_take (i := 2) (oi := ⟨some 40, .build 38 #[], 38, "read.go:42", #[⟨4, .gcOnly .lateStores⟩], none⟩) (v := ?_) rfl (by kernel_rfl) (by kernel_rfl) (by kernel_rfl) (fun _ _ _ h => h) (Or.inl ⟨by rfl, ?_⟩) hS ?_
        rotate_left
        · intro wv _; go_simp; try with_reducible rfl
        try simp only [Act.put, List.setIfInBounds_toArray, List.set_cons_zero, List.set_cons_succ]
        refine wpAnyH_ready (rs := [3]) (by kernel_rfl) (by simp) (AllReadyH.cons (o := ⟨none, .store 29 (.tmp 4) (.tmp 38), 0, "read.go:42", #[⟨0, .data⟩, ⟨0, .phase⟩, ⟨1, .textOnly .lateStores⟩, ⟨2, .textOnly .lateStores⟩], none⟩) rfl (fun K hK => ?_) AllReadyH.nil)
        refine op_storeS (by rfl) rfl rfl rfl (there_blk (HF0.out.blk 2 _ rfl) rfl) (by kernel_rfl) (by simp [Value.oneCell']) hh1.out ?_
        replace hS := Lib.hid (And.intro (HF1.out.blk 0 _ rfl) (HF1.out.blk 1 _ rfl))
        refine Shut.out hK _ _ hS (fun _ => ?_)
        clear hK K
        try simp only [Act.put, List.setIfInBounds_toArray, List.set_cons_zero, List.set_cons_succ]
        refine wpAnyH_ready (rs := [4]) (by kernel_rfl) (by simp) (AllReadyH.cons (o := ⟨none, .store 31 (.tmp 5) (.tmp 39), 0, "read.go:42", #[⟨1, .data⟩, ⟨3, .chain⟩, ⟨0, .phase⟩, ⟨1, .phase⟩, ⟨2, .textOnly .lateStores⟩, ⟨3, .phase⟩], none⟩) rfl (fun K hK => ?_) AllReadyH.nil)
        refine op_storeS (by rfl) rfl rfl rfl (there_blk (HF1.out.blk 3 _ rfl) rfl) (by kernel_rfl) (by simp [Value.oneCell']) hh2.out ?_
        replace hS := Lib.hid (And.intro (HF2.out.blk 0 _ rfl) (HF2.out.blk 1 _ rfl))
        refine Shut.out hK _ _ hS (fun _ => ?_)
        clear hK K
        try simp only [Act.put, List.setIfInBounds_toArray, List.set_cons_zero, List.set_cons_succ]
        refine wpAnyH_ready (rs := [5]) (by kernel_rfl) (by simp) (AllReadyH.cons (o := ⟨none, .store 38 (.tmp 6) (.tmp 40), 0, "read.go:42", #[⟨2, .data⟩, ⟨4, .chain⟩, ⟨0, .phase⟩, ⟨1, .phase⟩, ⟨2, .phase⟩, ⟨3, .phase⟩, ⟨4, .phase⟩], none⟩) rfl (fun K hK => ?_) AllReadyH.nil)
        refine op_storeS (by rfl) rfl rfl rfl (there_blk (HF2.out.blk 4 _ rfl) rfl) (by kernel_rfl) (by simp [Value.oneCell']) hh3.out ?_
        replace hS := Lib.hid (And.intro (HF3.out.blk 0 _ rfl) (HF3.out.blk 1 _ rfl))
        refine Shut.out hK _ _ hS (fun _ => ?_)
        clear hK K
        try simp only [Act.put, List.setIfInBounds_toArray, List.set_cons_zero, List.set_cons_succ]
        refine wpAnyH_done (by kernel_rfl) ?_ _
        refine NoPanic.normal ?_
        go_wp2
        refine bodyPost_ret (res_ccc Try.results26 (by rfl) (by rfl) (by rfl) (HF3.out.load 2 rfl rfl Try.underlying29 (by kernel_rfl)) (HF3.out.load 3 rfl rfl Try.underlying31 (by kernel_rfl)) (HF3.out.load 4 rfl rfl Try.underlying38 (by kernel_rfl))) rfl ?_
        replace FR := HF3
        rw [HE.out]
        exact ⟨rfl, FR.out.out⟩
      · have c2 : decide (0 ≤ x) = true := decide_eq_true (Int.not_lt.1 hx0)
        have HE := Lib.hid (HO.trans (if_neg hx0))
        clear HO hx0
        go_enter Try.func26, Try.ntmps26
        have ac0 := row11 (b := q) (FR.out.at 0 rfl rfl)
        have af05 : v5.frozen? ⟨q, 5, none⟩ = false := FR.out.frozen 0 5 rfl rfl
        have ac1 := row10 (b := q + 1) (FR.out.at 1 rfl rfl)
        obtain ⟨w6p, hw6p⟩ : ∃ W, (v5.setCell ⟨q, 5, none⟩ (.int .i64 x)) = W := ⟨_, rfl⟩
        replace FR := Lib.hid (((FR.out.set 0 5 rfl rfl (.int .i64 x))).eqw hw6p)
        have bc0 := row11 (b := q) (FR.out.at 0 rfl rfl)
        have bc1 := row10 (b := q + 1) (FR.out.at 1 rfl rfl)
        go_wp2_with fail
        refine (stDone_any _ _ _ _ _ _ _ _ _ _ _ _ _ _ _ _).mono ?_
        rintro e w7 ⟨rfl, hb⟩
        clear ac0 af05 ac1 bc0 bc1
        clear hw6p
        replace FR := Lib.hid (FR.out.step hb)
        clear hb
        obtain ⟨mw7r, w7r, hw7r, hse, F⟩ := FR.out.put11 2 rfl (b := q + 2) rfl (.int .i64 kd) (.int .i64 o0) (.int .i64 o1) (.int .i64 o2) (.int .i64 o3) (.int .i64 x) (.int .i64 o5) (.int .u32 wa) (.int .u32 to) (.slice A n c) (.slice B m d)
        replace FR := F
        clear F hse
        obtain ⟨mw8r, w8r, hw8r, hse, F⟩ := FR.out.put10 3 rfl (b := q + 3) rfl (.int .i64 0) (.int .i64 0) (.int .i64 0) (.int .i64 0) (.int .i64 0) (.int .i64 0) (.bool false) (.bool false) (.int .i64 0) (.bool false)
        replace FR := F
        clear F hse
        obtain ⟨mw9r, w9r, hw9r, hse, F⟩ := FR.out.put7 4 rfl (b := q + 4) rfl (.bool true) (.bool false) (.bool false) (.int .i64 0) (.int .i64 0) (.int .u64 0) (.slice none 0 0)
        replace FR := F
        clear F hse
        go_wp2
        refine bodyPost_ret (res_ccc Try.results26 (by rfl) (by rfl) (by rfl) (FR.out.load 2 rfl rfl Try.underlying29 (by kernel_rfl)) (FR.out.load 3 rfl rfl Try.underlying31 (by kernel_rfl)) (FR.out.load 4 rfl rfl Try.underlying38 (by kernel_rfl))) rfl ?_
        rw [HE.out]
        exact ⟨rfl, FR.out.out⟩
set_option maxRecDepth 100000 in
set_option maxHeartbeats 16000000 in
theorem rwWaited_any (kd o0 o1 o2 o3 o4 o5 wa to : Int) (A : Option Addr) (n c : Nat) (B : Option Addr) (m d : Nat) (f : MFr) (hs : f.stage = 1) (w : World) : Calls Try.prog 27 #[obV kd o0 o1 o2 o3 o4 o5 wa to A n c B m d, frV f] w (StepR w kd o1 o2 o3 wa to A n c B m d (runlockW o0 o4 o5 f)) := by
  obtain ⟨op, stage, phase, old, since, left, awoke, starve, need, front⟩ := f
  have hs2 : stage = 1 := hs
  subst hs2
  clear hs
  unfold obV frV frC
  simp only
  obtain ⟨v1, hv1, z1, v2, hv2, z2, v3, hv3, z3, v4, hv4, z4, v5, hv5, z5, F⟩ := boxes5 w (.cells #[.int .i64 kd, .int .i64 o0, .int .i64 o1, .int .i64 o2, .int .i64 o3, .int .i64 o4, .int .i64 o5, .int .u32 wa, .int .u32 to, .slice A n c, .slice B m d] 29) (.cells #[.int .i64 op, .int .i64 1, .int .i64 phase, .int .i64 old, .int .i64 since, .int .i64 left, .bool awoke, .bool starve, .int .i64 need, .bool front] 31) (.cells #[.int .i64 0, .int .i64 0, .int .i64 0, .int .i64 0, .int .i64 0, .int .i64 0, .int .i64 0, .int .u32 0, .int .u32 0, .slice none 0 0, .slice none 0 0] 29) (.cells #[.int .i64 0, .int .i64 0, .int .i64 0, .int .i64 0, .int .i64 0, .int .i64 0, .bool false, .bool false, .int .i64 0, .bool false] 31) (.cells #[.bool false, .bool false, .bool false, .int .i64 0, .int .i64 0, .int .u64 0, .slice none 0 0] 38)
  generalize hq : w.heap.size = q at *
  have FR := Lib.hid F
  clear F
  obtain ⟨x, hx⟩ : ∃ x, IntKind.i64.wrap (o5 - 1) = x := ⟨_, rfl⟩
  have HO : runlockW o0 o4 o5 ⟨op, 1, phase, old, since, left, awoke, starve, need, front⟩ = (if x = 0 then ((o0, o4, x), ⟨op, 2, phase, old, since, left, awoke, starve, need, front⟩, noA) else ((o0, o4, x), noF, doneA)) := by
    unfold runlockW
    rw [if_neg (show ¬ ((1 : Int) = 0) by decide), if_pos rfl, hx]
  by_cases hx0 : x = 0
  · have c0 : (x != 0) = false := by simp [hx0]
    have HE := Lib.hid (HO.trans (if_pos hx0))
    clear HO hx0
    go_enter Try.func27, Try.ntmps27
    have ac0 := row11 (b := q) (FR.out.at 0 rfl rfl)
    have af06 : v5.frozen? ⟨q, 6, none⟩ = false := FR.out.frozen 0 6 rfl rfl
    have ac1 := row10 (b := q + 1) (FR.out.at 1 rfl rfl)
    obtain ⟨w6p, hw6p⟩ : ∃ W, (v5.setCell ⟨q, 6, none⟩ (.int .i64 x)) = W := ⟨_, rfl⟩
    replace FR := Lib.hid (((FR.out.set 0 6 rfl rfl (.int .i64 x))).eqw hw6p)
    have bc0 := row11 (b := q) (FR.out.at 0 rfl rfl)
    have bc1 := row10 (b := q + 1) (FR.out.at 1 rfl rfl)
    have bf11 : w6p.frozen? ⟨q + 1, 1, none⟩ = false := FR.out.frozen 1 1 rfl rfl
    obtain ⟨w7p, hw7p⟩ : ∃ W, (w6p.setCell ⟨q + 1, 1, none⟩ (.int .i64 2)) = W := ⟨_, rfl⟩
    replace FR := Lib.hid (((FR.out.set 1 1 rfl rfl (.int .i64 2))).eqw hw7p)
    have cc0 := row11 (b := q) (FR.out.at 0 rfl rfl)
    have cc1 := row10 (b := q + 1) (FR.out.at 1 rfl rfl)
    go_wp2
    clear ac0 af06 ac1 bc0 bc1 bf11 cc0 cc1
    have HF0 := Lib.hid FR.out.drew
    obtain ⟨w8r, hw8r⟩ : ∃ W, w7p.drew.setCells (q + 2) 0 [.int .i64 kd, .int .i64 o0, .int .i64 o1, .int .i64 o2, .int .i64 o3, .int .i64 o4, .int .i64 x, .int .u32 wa, .int .u32 to, .slice A n c, .slice B m d] = W := ⟨_, rfl⟩
    have HF1 := Lib.hid ((HF0.out.all 2 rfl rfl (by rfl)).eqw hw8r)
    have hh1 := Lib.hid hw8r
    clear hw8r
    obtain ⟨w9r, hw9r⟩ : ∃ W, w8r.setCells (q + 3) 0 [.int .i64 op, .int .i64 2, .int .i64 phase, .int .i64 old, .int .i64 since, .int .i64 left, .bool awoke, .bool starve, .int .i64 need, .bool front] = W := ⟨_, rfl⟩
    have HF2 := Lib.hid ((HF1.out.all 3 rfl rfl (by rfl)).eqw hw9r)
    have hh2 := Lib.hid hw9r
    clear hw9r
    obtain ⟨w10r, hw10r⟩ : ∃ W, w9r.setCells (q + 4) 0 [.bool false, .bool false, .bool false, .int .i64 0, .int .i64 0, .int .u64 0, .slice none 0 0] = W := ⟨_, rfl⟩
    have HF3 := Lib.hid ((HF2.out.all 4 rfl rfl (by rfl)).eqw hw10r)
    have hh3 := Lib.hid hw10r
    clear hw10r
    refine wp_region_noPanic ?_
    refine wp_region_held_drew (S := (fun wv => Hid (wv.heap[q]? = some (.cells #[.int .i64 kd, .int .i64 o0, .int .i64 o1, .int .i64 o2, .int .i64 o3, .int .i64 o4, .int .i64 x, .int .u32 wa, .int .u32 to, .slice A n c, .slice B m d] 29) ∧ wv.heap[q + 1]? = some (.cells #[.int .i64 op, .int .i64 2, .int .i64 phase, .int .i64 old, .int .i64 since, .int .i64 left, .bool awoke, .bool starve, .int .i64 need, .bool front] 31)))) (by kernel_rfl) (Lib.hid (And.intro (HF0.out.blk 0 _ rfl) (HF0.out.blk 1 _ rfl))) (fun hS => ?_)
    refine wpAnyH_take (i := 0) (oi := ⟨some 23, .load 29 (.tmp 2), 29, "read.go:53", #[], none⟩) (v := .agg (([.int .i64 kd, .int .i64 o0, .int .i64 o1, .int .i64 o2, .int .i64 o3, .int .i64 o4, .int .i64 x, .int .u32 wa, .int .u32 to, .slice A n c, .slice B m d] : List Value)).toArray) rfl (by kernel_rfl) (by kernel_rfl) (by kernel_rfl) (fun _ _ _ h => h) (yieldsIf_load_mid (by rfl) _ _ (by rfl) (q) (0) (by rfl) _ _ (fun wv hS => blk_rngl hS.out.1) Try.underlying29 (by rfl) (by kernel_rfl)) hS ?_
    try simp only [Act.put, List.setIfInBounds_toArray, List.set_cons_zero, List.set_cons_succ]
    refine wpAnyH_take (i := 1) (oi := ⟨some 24, .load 31 (.tmp 3), 31, "read.go:53", #[⟨3, .gcOnly .lateStores⟩], none⟩) (v := .agg (([.int .i64 op, .int .i64 2, .int .i64 phase, .int .i64 old, .int .i64 since, .int .i64 left, .bool awoke, .bool starve, .int .i64 need, .bool front] : List Value)).toArray) rfl (by kernel_rfl) (by kernel_rfl) (by kernel_rfl) (fun _ _ _ h => h) (yieldsIf_load_mid (by rfl) _ _ (by rfl) (q + 1) (0) (by rfl) _ _ (fun wv hS => blk_rngl hS.out.2) Try.underlying31 (by rfl) (by kernel_rfl)) hS ?_
    try simp only [Act.put, List.setIfInBounds_toArray, List.set_cons_zero, List.set_cons_succ]
    refine wpAnyH_take (i := 2) (oi := ⟨some 25, .build 38 #[], 38, "read.go:53", #[⟨4, .gcOnly .lateStores⟩], none⟩) (v := ?_) rfl (by kernel_rfl) (by kernel_rfl) (by kernel_rfl) (fun _ _ _ h => h) (Or.inl ⟨by rfl, ?_⟩) hS ?_
    rotate_left
    · intro wv _; go_simp; try with_reducible rfl
    try simp only [Act.put, List.setIfInBounds_toArray, List.set_cons_zero, List.set_cons_succ]
    refine wpAnyH_ready (rs := [3]) (by kernel_rfl) (by simp) (AllReadyH.cons (o := ⟨none, .store 29 (.tmp 4) (.tmp 23), 0, "read.go:53", #[⟨0, .data⟩, ⟨0, .phase⟩, ⟨1, .textOnly .lateStores⟩, ⟨2, .textOnly .lateStores⟩], none⟩) rfl (fun K hK => ?_) AllReadyH.nil)
    refine op_storeS (by rfl) rfl rfl rfl (there_blk (HF0.out.blk 2 _ rfl) rfl) (by kernel_rfl) (by simp [Value.oneCell']) hh1.out ?_
    replace hS := Lib.hid (And.intro (HF1.out.blk 0 _ rfl) (HF1.out.blk 1 _ rfl))
    refine Shut.out hK _ _ hS (fun _ => ?_)
    clear hK K
    try simp only [Act.put, List.setIfInBounds_toArray, List.set_cons_zero, List.set_cons_succ]
    refine wpAnyH_ready (rs := [4]) (by kernel_rfl) (by simp) (AllReadyH.cons (o := ⟨none, .store 31 (.tmp 5) (.tmp 24), 0, "read.go:53", #[⟨1, .data⟩, ⟨3, .chain⟩, ⟨0, .phase⟩, ⟨1, .phase⟩, ⟨2, .textOnly .lateStores⟩, ⟨3, .phase⟩], none⟩) rfl (fun K hK => ?_) AllReadyH.nil)
    refine op_storeS (by rfl) rfl rfl rfl (there_blk (HF1.out.blk 3 _ rfl) rfl) (by kernel_rfl) (by simp [Value.oneCell']) hh2.out ?_
    replace hS := Lib.hid (And.intro (HF2.out.blk 0 _ rfl) (HF2.out.blk 1 _ rfl))
    refine Shut.out hK _ _ hS (fun _ => ?_)
    clear hK K
    try simp only [Act.put, List.setIfInBounds_toArray, List.set_cons_zero, List.set_cons_succ]
    refine wpAnyH_ready (rs := [5]) (by kernel_rfl) (by simp) (AllReadyH.cons (o := ⟨none, .store 38 (.tmp 6) (.tmp 25), 0, "read.go:53", #[⟨2, .data⟩, ⟨4, .chain⟩, ⟨0, .phase⟩, ⟨1, .phase⟩, ⟨2, .phase⟩, ⟨3, .phase⟩, ⟨4, .phase⟩], none⟩) rfl (fun K hK => ?_) AllReadyH.nil)
    refine op_storeS (by rfl) rfl rfl rfl (there_blk (HF2.out.blk 4 _ rfl) rfl) (by kernel_rfl) (by simp [Value.oneCell']) hh3.out ?_
    replace hS := Lib.hid (And.intro (HF3.out.blk 0 _ rfl) (HF3.out.blk 1 _ rfl))
    refine Shut.out hK _ _ hS (fun _ => ?_)
    clear hK K
    try simp only [Act.put, List.setIfInBounds_toArray, List.set_cons_zero, List.set_cons_succ]
    refine wpAnyH_done (by kernel_rfl) ?_ _
    refine NoPanic.normal ?_
    go_wp2
    refine bodyPost_ret (res_ccc Try.results27 (by rfl) (by rfl) (by rfl) (HF3.out.load 2 rfl rfl Try.underlying29 (by kernel_rfl)) (HF3.out.load 3 rfl rfl Try.underlying31 (by kernel_rfl)) (HF3.out.load 4 rfl rfl Try.underlying38 (by kernel_rfl))) rfl ?_
    replace FR := HF3
    rw [HE.out]
    exact ⟨rfl, FR.out.out⟩
  · have c0 : (x != 0) = true := by simp [hx0]
    have HE := Lib.hid (HO.trans (if_neg hx0))
    clear HO hx0
    go_enter Try.func27, Try.ntmps27
    have ac0 := row11 (b := q) (FR.out.at 0 rfl rfl)
    have af06 : v5.frozen? ⟨q, 6, none⟩ = false := FR.out.frozen 0 6 rfl rfl
    have ac1 := row10 (b := q + 1) (FR.out.at 1 rfl rfl)
    obtain ⟨w6p, hw6p⟩ : ∃ W, (v5.setCell ⟨q, 6, none⟩ (.int .i64 x)) = W := ⟨_, rfl⟩
    replace FR := Lib.hid (((FR.out.set 0 6 rfl rfl (.int .i64 x))).eqw hw6p)
    have bc0 := row11 (b := q) (FR.out.at 0 rfl rfl)
    have bc1 := row10 (b := q + 1) (FR.out.at 1 rfl rfl)
    go_wp2_with fail
    refine (stDone_any _ _ _ _ _ _ _ _ _ _ _ _ _ _ _ _).mono ?_
    rintro e w7 ⟨rfl, hb⟩
    clear ac0 af06 ac1 bc0 bc1
    clear hw6p
    replace FR := Lib.hid (FR.out.step hb)
    clear hb
    obtain ⟨mw7r, w7r, hw7r, hse, F⟩ := FR.out.put11 2 rfl (b := q + 2) rfl (.int .i64 kd) (.int .i64 o0) (.int .i64 o1) (.int .i64 o2) (.int .i64 o3) (.int .i64 o4) (.int .i64 x) (.int .u32 wa) (.int .u32 to) (.slice A n c) (.slice B m d)
    replace FR := F
    clear F hse
    obtain ⟨mw8r, w8r, hw8r, hse, F⟩ := FR.out.put10 3 rfl (b := q + 3) rfl (.int .i64 0) (.int .i64 0) (.int .i64 0) (.int .i64 0) (.int .i64 0) (.int .i64 0) (.bool false) (.bool false) (.int .i64 0) (.bool false)
    replace FR := F
    clear F hse
    obtain ⟨mw9r, w9r, hw9r, hse, F⟩ := FR.out.put7 4 rfl (b := q + 4) rfl (.bool true) (.bool false) (.bool false) (.int .i64 0) (.int .i64 0) (.int .u64 0) (.slice none 0 0)
    replace FR := F
    clear F hse
    go_wp2
    refine bodyPost_ret (res_ccc Try.results27 (by rfl) (by rfl) (by rfl) (FR.out.load 2 rfl rfl Try.underlying29 (by kernel_rfl)) (FR.out.load 3 rfl rfl Try.underlying31 (by kernel_rfl)) (FR.out.load 4 rfl rfl Try.underlying38 (by kernel_rfl))) rfl ?_
    rw [HE.out]
    exact ⟨rfl, FR.out.out⟩
set_option maxRecDepth 100000 in
set_option maxHeartbeats 16000000 in
theorem rwToWrite_any (kd o0 o1 o2 o3 o4 o5 wa to : Int) (A : Option Addr) (n c : Nat) (B : Option Addr) (m d : Nat) (f : MFr) (hs : f.stage = 1) (now pat : Int) (w : World) : Calls Try.prog 32 #[obV kd o0 o1 o2 o3 o4 o5 wa to A n c B m d, frV f] w (StepR w kd o1 o2 o3 wa to A n c B m d (wlockW o0 o4 o5 f now pat)) := by
  obtain ⟨op, stage, phase, old, since, left, awoke, starve, need, front⟩ := f
  have hs2 : stage = 1 := hs
  subst hs2
  clear hs
  unfold obV frV frC
  simp only
  obtain ⟨v1, hv1, z1, v2, hv2, z2, v3, hv3, z3, v4, hv4, z4, v5, hv5, z5, F⟩ := boxes5 w (.cells #[.int .i64 kd, .int .i64 o0, .int .i64 o1, .int .i64 o2, .int .i64 o3, .int .i64 o4, .int .i64 o5, .int .u32 wa, .int .u32 to, .slice A n c, .slice B m d] 29) (.cells #[.int .i64 op, .int .i64 1, .int .i64 phase, .int .i64 old, .int .i64 since, .int .i64 left, .bool awoke, .bool starve, .int .i64 need, .bool front] 31) (.cells #[.int .i64 0, .int .i64 0, .int .i64 0, .int .i64 0, .int .i64 0, .int .i64 0, .int .i64 0, .int .u32 0, .int .u32 0, .slice none 0 0, .slice none 0 0] 29) (.cells #[.int .i64 0, .int .i64 0, .int .i64 0, .int .i64 0, .int .i64 0, .int .i64 0, .bool false, .bool false, .int .i64 0, .bool false] 31) (.cells #[.bool false, .bool false, .bool false, .int .i64 0, .int .i64 0, .int .u64 0, .slice none 0 0] 38)
  generalize hq : w.heap.size = q at *
  have FR := Lib.hid F
  clear F
  obtain ⟨x, hx⟩ : ∃ x, IntKind.i64.wrap (o4 - 1048576) = x := ⟨_, rfl⟩
  have HO : wlockW o0 o4 o5 ⟨op, 1, phase, old, since, left, awoke, starve, need, front⟩ now pat = (if o4 = 0 then ((o0, x, o5), noF, doneA) else ((o0, x, o5), ⟨op, 2, phase, old, since, o4, awoke, starve, need, front⟩, noA)) := by
    unfold wlockW
    rw [if_neg (show ¬ ((1 : Int) = 0) by decide), if_pos rfl, hx]
  by_cases h0 : o4 = 0
  · have c0 : (o4 == 0) = true := by simp [h0]
    have HE := Lib.hid (HO.trans (if_pos h0))
    clear HO h0
    go_enter Try.func32, Try.ntmps32
    have ac0 := row11 (b := q) (FR.out.at 0 rfl rfl)
    have ac1 := row10 (b := q + 1) (FR.out.at 1 rfl rfl)
    have af15 : v5.frozen? ⟨q + 1, 5, none⟩ = false := FR.out.frozen 1 5 rfl rfl
    obtain ⟨w6p, hw6p⟩ : ∃ W, (v5.setCell ⟨q + 1, 5, none⟩ (.int .i64 o4)) = W := ⟨_, rfl⟩
    replace FR := Lib.hid (((FR.out.set 1 5 rfl rfl (.int .i64 o4))).eqw hw6p)
    have bc0 := row11 (b := q) (FR.out.at 0 rfl rfl)
    have bf05 : w6p.frozen? ⟨q, 5, none⟩ = false := FR.out.frozen 0 5 rfl rfl
    have bc1 := row10 (b := q + 1) (FR.out.at 1 rfl rfl)
    obtain ⟨w7p, hw7p⟩ : ∃ W, (w6p.setCell ⟨q, 5, none⟩ (.int .i64 x)) = W := ⟨_, rfl⟩
    replace FR := Lib.hid (((FR.out.set 0 5 rfl rfl (.int .i64 x))).eqw hw7p)
    have cc0 := row11 (b := q) (FR.out.at 0 rfl rfl)
    have cc1 := row10 (b := q + 1) (FR.out.at 1 rfl rfl)
    go_wp2_with fail
    refine (stDone_any _ _ _ _ _ _ _ _ _ _ _ _ _ _ _ _).mono ?_
    rintro e w7 ⟨rfl, hb⟩
    clear ac0 ac1 af15 bc0 bf05 bc1 cc0 cc1
    clear hw6p hw7p
    replace FR := Lib.hid (FR.out.step hb)
    clear hb
    obtain ⟨mw8r, w8r, hw8r, hse, F⟩ := FR.out.put11 2 rfl (b := q + 2) rfl (.int .i64 kd) (.int .i64 o0) (.int .i64 o1) (.int .i64 o2) (.int .i64 o3) (.int .i64 x) (.int .i64 o5) (.int .u32 wa) (.int .u32 to) (.slice A n c) (.slice B m d)
    replace FR := F
    clear F hse
    obtain ⟨mw9r, w9r, hw9r, hse, F⟩ := FR.out.put10 3 rfl (b := q + 3) rfl (.int .i64 0) (.int .i64 0) (.int .i64 0) (.int .i64 0) (.int .i64 0) (.int .i64 0) (.bool false) (.bool false) (.int .i64 0) (.bool false)
    replace FR := F
    clear F hse
    obtain ⟨mw10r, w10r, hw10r, hse, F⟩ := FR.out.put7 4 rfl (b := q + 4) rfl (.bool true) (.bool false) (.bool false) (.int .i64 0) (.int .i64 0) (.int .u64 0) (.slice none 0 0)
    replace FR := F
    clear F hse
    go_wp2
    refine bodyPost_ret (res_ccc Try.results32 (by rfl) (by rfl) (by rfl) (FR.out.load 2 rfl rfl Try.underlying29 (by kernel_rfl)) (FR.out.load 3 rfl rfl Try.underlying31 (by kernel_rfl)) (FR.out.load 4 rfl rfl Try.underlying38 (by kernel_rfl))) rfl ?_
    rw [HE.out]
    exact ⟨rfl, FR.out.out⟩
  · have c0 : (o4 == 0) = false := by simp [h0]
    have HE := Lib.hid (HO.trans (if_neg h0))
    clear HO h0
    go_enter Try.func32, Try.ntmps32
    have ac0 := row11 (b := q) (FR.out.at 0 rfl rfl)
    have ac1 := row10 (b := q + 1) (FR.out.at 1 rfl rfl)
    have af15 : v5.frozen? ⟨q + 1, 5, none⟩ = false := FR.out.frozen 1 5 rfl rfl
    obtain ⟨w6p, hw6p⟩ : ∃ W, (v5.setCell ⟨q + 1, 5, none⟩ (.int .i64 o4)) = W := ⟨_, rfl⟩
    replace FR := Lib.hid (((FR.out.set 1 5 rfl rfl (.int .i64 o4))).eqw hw6p)
    have bc0 := row11 (b := q) (FR.out.at 0 rfl rfl)
    have bf05 : w6p.frozen? ⟨q, 5, none⟩ = false := FR.out.frozen 0 5 rfl rfl
    have bc1 := row10 (b := q + 1) (FR.out.at 1 rfl rfl)
    obtain ⟨w7p, hw7p⟩ : ∃ W, (w6p.setCell ⟨q, 5, none⟩ (.int .i64 x)) = W := ⟨_, rfl⟩
    replace FR := Lib.hid (((FR.out.set 0 5 rfl rfl (.int .i64 x))).eqw hw7p)
    have cc0 := row11 (b := q) (FR.out.at 0 rfl rfl)
    have cc1 := row10 (b := q + 1) (FR.out.at 1 rfl rfl)
    have cf11 : w7p.frozen? ⟨q + 1, 1, none⟩ = false := FR.out.frozen 1 1 rfl rfl
    obtain ⟨w8p, hw8p⟩ : ∃ W, (w7p.setCell ⟨q + 1, 1, none⟩ (.int .i64 2)) = W := ⟨_, rfl⟩
    replace FR := Lib.hid (((FR.out.set 1 1 rfl rfl (.int .i64 2))).eqw hw8p)
    have dc0 := row11 (b := q) (FR.out.at 0 rfl rfl)
    have dc1 := row10 (b := q + 1) (FR.out.at 1 rfl rfl)
    go_wp2
    clear ac0 ac1 af15 bc0 bf05 bc1 cc0 cc1 cf11 dc0 dc1
    have HF0 := Lib.hid FR.out.drew
    obtain ⟨w9r, hw9r⟩ : ∃ W, w8p.drew.setCells (q + 2) 0 [.int .i64 kd, .int .i64 o0, .int .i64 o1, .int .i64 o2, .int .i64 o3, .int .i64 x, .int .i64 o5, .int .u32 wa, .int .u32 to, .slice A n c, .slice B m d] = W := ⟨_, rfl⟩
    have HF1 := Lib.hid ((HF0.out.all 2 rfl rfl (by rfl)).eqw hw9r)
    have hh1 := Lib.hid hw9r
    clear hw9r
    obtain ⟨w10r, hw10r⟩ : ∃ W, w9r.setCells (q + 3) 0 [.int .i64 op, .int .i64 2, .int .i64 phase, .int .i64 old, .int .i64 since, .int .i64 o4, .bool awoke, .bool starve, .int .i64 need, .bool front] = W := ⟨_, rfl⟩
    have HF2 := Lib.hid ((HF1.out.all 3 rfl rfl (by rfl)).eqw hw10r)
    have hh2 := Lib.hid hw10r
    clear hw10r
    obtain ⟨w11r, hw11r⟩ : ∃ W, w10r.setCells (q + 4) 0 [.bool false, .bool false, .bool false, .int .i64 0, .int .i64 0, .int .u64 0, .slice none 0 0] = W := ⟨_, rfl⟩
    have HF3 := Lib.hid ((HF2.out.all 4 rfl rfl (by rfl)).eqw hw11r)
    have hh3 := Lib.hid hw11r
    clear hw11r
    refine wp_region_noPanic ?_
    refine wp_region_held_drew (S := (fun wv => Hid (wv.heap[q]? = some (.cells #[.int .i64 kd, .int .i64 o0, .int .i64 o1, .int .i64 o2, .int .i64 o3, .int .i64 x, .int .i64 o5, .int .u32 wa, .int .u32 to, .slice A n c, .slice B m d] 29) ∧ wv.heap[q + 1]? = some (.cells #[.int .i64 op, .int .i64 2, .int .i64 phase, .int .i64 old, .int .i64 since, .int .i64 o4, .bool awoke, .bool starve, .int .i64 need, .bool front] 31)))) (by kernel_rfl) (Lib.hid (And.intro (HF0.out.blk 0 _ rfl) (HF0.out.blk 1 _ rfl))) (fun hS => ?_)
    refine wpAnyH_take (i := 0) (oi := ⟨some 26, .load 29 (.tmp 2), 29, "write.go:40", #[], none⟩) (v := .agg (([.int .i64 kd, .int .i64 o0, .int .i64 o1, .int .i64 o2, .int .i64 o3, .int .i64 x, .int .i64 o5, .int .u32 wa, .int .u32 to, .slice A n c, .slice B m d] : List Value)).toArray) rfl (by kernel_rfl) (by kernel_rfl) (by kernel_rfl) (fun _ _ _ h => h) (yieldsIf_load_mid (by rfl) _ _ (by rfl) (q) (0) (by rfl) _ _ (fun wv hS => blk_rngl hS.out.1) Try.underlying29 (by rfl) (by kernel_rfl)) hS ?_
    try simp only [Act.put, List.setIfInBounds_toArray, List.set_cons_zero, List.set_cons_succ]
    refine wpAnyH_take (i := 1) (oi := ⟨some 27, .load 31 (.tmp 3), 31, "write.go:40", #[⟨3, .gcOnly .lateStores⟩], none⟩) (v := .agg (([.int .i64 op, .int .i64 2, .int .i64 phase, .int .i64 old, .int .i64 since, .int .i64 o4, .bool awoke, .bool starve, .int .i64 need, .bool front] : List Value)).toArray) rfl (by kernel_rfl) (by kernel_rfl) (by kernel_rfl) (fun _ _ _ h => h) (yieldsIf_load_mid (by rfl) _ _ (by rfl) (q + 1) (0) (by rfl) _ _ (fun wv hS => blk_rngl hS.out.2) Try.underlying31 (by rfl) (by kernel_rfl)) hS ?_
    try simp only [Act.put, List.setIfInBounds_toArray, List.set_cons_zero, List.set_cons_succ]
    refine wpAnyH_take (i := 2) (oi := ⟨some 28, .build 38 #[], 38, "write.go:40", #[⟨4, .gcOnly .lateStores⟩], none⟩) (v := ?_) rfl (by kernel_rfl) (by kernel_rfl) (by kernel_rfl) (fun _ _ _ h => h) (Or.inl ⟨by rfl, ?_⟩) hS ?_
    rotate_left
    · intro wv _; go_simp; try with_reducible rfl
    try simp only [Act.put, List.setIfInBounds_toArray, List.set_cons_zero, List.set_cons_succ]
    refine wpAnyH_ready (rs := [3]) (by kernel_rfl) (by simp) (AllReadyH.cons (o := ⟨none, .store 29 (.tmp 4) (.tmp 26), 0, "write.go:40", #[⟨0, .data⟩, ⟨0, .phase⟩, ⟨1, .textOnly .lateStores⟩, ⟨2, .textOnly .lateStores⟩], none⟩) rfl (fun K hK => ?_) AllReadyH.nil)
    refine op_storeS (by rfl) rfl rfl rfl (there_blk (HF0.out.blk 2 _ rfl) rfl) (by kernel_rfl) (by simp [Value.oneCell']) hh1.out ?_
    replace hS := Lib.hid (And.intro (HF1.out.blk 0 _ rfl) (HF1.out.blk 1 _ rfl))
    refine Shut.out hK _ _ hS (fun _ => ?_)
    clear hK K
    try simp only [Act.put, List.setIfInBounds_toArray, List.set_cons_zero, List.set_cons_succ]
    refine wpAnyH_ready (rs := [4]) (by kernel_rfl) (by simp) (AllReadyH.cons (o := ⟨none, .store 31 (.tmp 5) (.tmp 27), 0, "write.go:40", #[⟨1, .data⟩, ⟨3, .chain⟩, ⟨0, .phase⟩, ⟨1, .phase⟩, ⟨2, .textOnly .lateStores⟩, ⟨3, .phase⟩], none⟩) rfl (fun K hK => ?_) AllReadyH.nil)
    refine op_storeS (by rfl) rfl rfl rfl (there_blk (HF1.out.blk 3 _ rfl) rfl) (by kernel_rfl) (by simp [Value.oneCell']) hh2.out ?_
    replace hS := Lib.hid (And.intro (HF2.out.blk 0 _ rfl) (HF2.out.blk 1 _ rfl))
    refine Shut.out hK _ _ hS (fun _ => ?_)
    clear hK K
    try simp only [Act.put, List.setIfInBounds_toArray, List.set_cons_zero, List.set_cons_succ]
    refine wpAnyH_ready (rs := [5]) (by kernel_rfl) (by simp) (AllReadyH.cons (o := ⟨none, .store 38 (.tmp 6) (.tmp 28), 0, "write.go:40", #[⟨2, .data⟩, ⟨4, .chain⟩, ⟨0, .phase⟩, ⟨1, .phase⟩, ⟨2, .phase⟩, ⟨3, .phase⟩, ⟨4, .phase⟩], none⟩) rfl (fun K hK => ?_) AllReadyH.nil)
    refine op_storeS (by rfl) rfl rfl rfl (there_blk (HF2.out.blk 4 _ rfl) rfl) (by kernel_rfl) (by simp [Value.oneCell']) hh3.out ?_
    replace hS := Lib.hid (And.intro (HF3.out.blk 0 _ rfl) (HF3.out.blk 1 _ rfl))
    refine Shut.out hK _ _ hS (fun _ => ?_)
    clear hK K
    try simp only [Act.put, List.setIfInBounds_toArray, List.set_cons_zero, List.set_cons_succ]
    refine wpAnyH_done (by kernel_rfl) ?_ _
    refine NoPanic.normal ?_
    go_wp2
    refine bodyPost_ret (res_ccc Try.results32 (by rfl) (by rfl) (by rfl) (HF3.out.load 2 rfl rfl Try.underlying29 (by kernel_rfl)) (HF3.out.load 3 rfl rfl Try.underlying31 (by kernel_rfl)) (HF3.out.load 4 rfl rfl Try.underlying38 (by kernel_rfl))) rfl ?_
    replace FR := HF3
    rw [HE.out]
    exact ⟨rfl, FR.out.out⟩
set_option maxRecDepth 100000 in
set_option maxHeartbeats 16000000 in
theorem rwWait_any (kd o0 o1 o2 o3 o4 o5 wa to : Int) (A : Option Addr) (n c : Nat) (B : Option Addr) (m d : Nat) (f : MFr) (hs : f.stage = 2) (now pat : Int) (w : World) : Calls Try.prog 33 #[obV kd o0 o1 o2 o3 o4 o5 wa to A n c B m d, frV f] w (StepR w kd o1 o2 o3 wa to A n c B m d (wlockW o0 o4 o5 f now pat)) := by
  obtain ⟨op, stage, phase, old, since, left, awoke, starve, need, front⟩ := f
  have hs2 : stage = 2 := hs
  subst hs2
  clear hs
  unfold obV frV frC
  simp only
  obtain ⟨v1, hv1, z1, v2, hv2, z2, v3, hv3, z3, v4, hv4, z4, v5, hv5, z5, F⟩ := boxes5 w (.cells #[.int .i64 kd, .int .i64 o0, .int .i64 o1, .int .i64 o2, .int .i64 o3, .int .i64 o4, .int .i64 o5, .int .u32 wa, .int .u32 to, .slice A n c, .slice B m d] 29) (.cells #[.int .i64 op, .int .i64 2, .int .i64 phase, .int .i64 old, .int .i64 since, .int .i64 left, .bool awoke, .bool starve, .int .i64 need, .bool front] 31) (.cells #[.int .i64 0, .int .i64 0, .int .i64 0, .int .i64 0, .int .i64 0, .int .i64 0, .int .i64 0, .int .u32 0, .int .u32 0, .slice none 0 0, .slice none 0 0] 29) (.cells #[.int .i64 0, .int .i64 0, .int .i64 0, .int .i64 0, .int .i64 0, .int .i64 0, .bool false, .bool false, .int .i64 0, .bool false] 31) (.cells #[.bool false, .bool false, .bool false, .int .i64 0, .int .i64 0, .int .u64 0, .slice none 0 0] 38)
  generalize hq : w.heap.size = q at *
  have FR := Lib.hid F
  clear F
  obtain ⟨x, hx⟩ : ∃ x, IntKind.i64.wrap (o5 + left) = x := ⟨_, rfl⟩
  have HO : wlockW o0 o4 o5 ⟨op, 2, phase, old, since, left, awoke, starve, need, front⟩ now pat = (if x = 0 then ((o0, o4, x), noF, doneA) else ((o0, o4, x), ⟨op, 3, phase, old, since, left, awoke, starve, 3, front⟩, noA)) := by
    unfold wlockW
    rw [if_neg (show ¬ ((2 : Int) = 0) by decide), if_neg (show ¬ ((2 : Int) = 1) by decide), if_pos rfl, hx]
  by_cases h0 : x = 0
  · have c0 : (x == 0) = true := by simp [h0]
    have HE := Lib.hid (HO.trans (if_pos h0))
    clear HO h0
    go_enter Try.func33, Try.ntmps33
    have ac0 := row11 (b := q) (FR.out.at 0 rfl rfl)
    have af06 : v5.frozen? ⟨q, 6, none⟩ = false := FR.out.frozen 0 6 rfl rfl
    have ac1 := row10 (b := q + 1) (FR.out.at 1 rfl rfl)
    obtain ⟨w6p, hw6p⟩ : ∃ W, (v5.setCell ⟨q, 6, none⟩ (.int .i64 x)) = W := ⟨_, rfl⟩
    replace FR := Lib.hid (((FR.out.set 0 6 rfl rfl (.int .i64 x))).eqw hw6p)
    have bc0 := row11 (b := q) (FR.out.at 0 rfl rfl)
    have bc1 := row10 (b := q + 1) (FR.out.at 1 rfl rfl)
    go_wp2_with fail
    refine (stDone_any _ _ _ _ _ _ _ _ _ _ _ _ _ _ _ _).mono ?_
    rintro e w7 ⟨rfl, hb⟩
    clear ac0 af06 ac1 bc0 bc1
    clear hw6p
    replace FR := Lib.hid (FR.out.step hb)
    clear hb
    obtain ⟨mw7r, w7r, hw7r, hse, F⟩ := FR.out.put11 2 rfl (b := q + 2) rfl (.int .i64 kd) (.int .i64 o0) (.int .i64 o1) (.int .i64 o2) (.int .i64 o3) (.int .i64 o4) (.int .i64 x) (.int .u32 wa) (.int .u32 to) (.slice A n c) (.slice B m d)
    replace FR := F
    clear F hse
    obtain ⟨mw8r, w8r, hw8r, hse, F⟩ := FR.out.put10 3 rfl (b := q + 3) rfl (.int .i64 0) (.int .i64 0) (.int .i64 0) (.int .i64 0) (.int .i64 0) (.int .i64 0) (.bool false) (.bool false) (.int .i64 0) (.bool false)
    replace FR := F
    clear F hse
    obtain ⟨mw9r, w9r, hw9r, hse, F⟩ := FR.out.put7 4 rfl (b := q + 4) rfl (.bool true) (.bool false) (.bool false) (.int .i64 0) (.int .i64 0) (.int .u64 0) (.slice none 0 0)
    replace FR := F
    clear F hse
    go_wp2
    refine bodyPost_ret (res_ccc Try.results33 (by rfl) (by rfl) (by rfl) (FR.out.load 2 rfl rfl Try.underlying29 (by kernel_rfl)) (FR.out.load 3 rfl rfl Try.underlying31 (by kernel_rfl)) (FR.out.load 4 rfl rfl Try.underlying38 (by kernel_rfl))) rfl ?_
    rw [HE.out]
    exact ⟨rfl, FR.out.out⟩
  · have c0 : (x == 0) = false := by simp [h0]
    have HE := Lib.hid (HO.trans (if_neg h0))
    clear HO h0
    go_enter Try.func33, Try.ntmps33
    have ac0 := row11 (b := q) (FR.out.at 0 rfl rfl)
    have af06 : v5.frozen? ⟨q, 6, none⟩ = false := FR.out.frozen 0 6 rfl rfl
    have ac1 := row10 (b := q + 1) (FR.out.at 1 rfl rfl)
    obtain ⟨w6p, hw6p⟩ : ∃ W, (v5.setCell ⟨q, 6, none⟩ (.int .i64 x)) = W := ⟨_, rfl⟩
    replace FR := Lib.hid (((FR.out.set 0 6 rfl rfl (.int .i64 x))).eqw hw6p)
    have bc0 := row11 (b := q) (FR.out.at 0 rfl rfl)
    have bc1 := row10 (b := q + 1) (FR.out.at 1 rfl rfl)
    have bf11 : w6p.frozen? ⟨q + 1, 1, none⟩ = false := FR.out.frozen 1 1 rfl rfl
    have bf18 : w6p.frozen? ⟨q + 1, 8, none⟩ = false := FR.out.frozen 1 8 rfl rfl
    obtain ⟨w7p, hw7p⟩ : ∃ W, ((w6p.setCell ⟨q + 1, 8, none⟩ (.int .i64 3)).setCell ⟨q + 1, 1, none⟩ (.int .i64 3)) = W := ⟨_, rfl⟩
    replace FR := Lib.hid ((((FR.out.set 1 8 rfl rfl (.int .i64 3)).set 1 1 rfl rfl (.int .i64 3))).eqw hw7p)
    have cc0 := row11 (b := q) (FR.out.at 0 rfl rfl)
    have cc1 := row10 (b := q + 1) (FR.out.at 1 rfl rfl)
    go_wp2
    clear ac0 af06 ac1 bc0 bc1 bf11 bf18 cc0 cc1
    have HF0 := Lib.hid FR.out.drew
    obtain ⟨w8r, hw8r⟩ : ∃ W, w7p.drew.setCells (q + 2) 0 [.int .i64 kd, .int .i64 o0, .int .i64 o1, .int .i64 o2, .int .i64 o3, .int .i64 o4, .int .i64 x, .int .u32 wa, .int .u32 to, .slice A n c, .slice B m d] = W := ⟨_, rfl⟩
    have HF1 := Lib.hid ((HF0.out.all 2 rfl rfl (by rfl)).eqw hw8r)
    have hh1 := Lib.hid hw8r
    clear hw8r
    obtain ⟨w9r, hw9r⟩ : ∃ W, w8r.setCells (q + 3) 0 [.int .i64 op, .int .i64 3, .int .i64 phase, .int .i64 old, .int .i64 since, .int .i64 left, .bool awoke, .bool starve, .int .i64 3, .bool front] = W := ⟨_, rfl⟩
    have HF2 := Lib.hid ((HF1.out.all 3 rfl rfl (by rfl)).eqw hw9r)
    have hh2 := Lib.hid hw9r
    clear hw9r
    obtain ⟨w10r, hw10r⟩ : ∃ W, w9r.setCells (q + 4) 0 [.bool false, .bool false, .bool false, .int .i64 0, .int .i64 0, .int .u64 0, .slice none 0 0] = W := ⟨_, rfl⟩
    have HF3 := Lib.hid ((HF2.out.all 4 rfl rfl (by rfl)).eqw hw10r)
    have hh3 := Lib.hid hw10r
    clear hw10r
    refine wp_region_noPanic ?_
    refine wp_region_held_drew (S := (fun wv => Hid (wv.heap[q]? = some (.cells #[.int .i64 kd, .int .i64 o0, .int .i64 o1, .int .i64 o2, .int .i64 o3, .int .i64 o4, .int .i64 x, .int .u32 wa, .int .u32 to, .slice A n c, .slice B m d] 29) ∧ wv.heap[q + 1]? = some (.cells #[.int .i64 op, .int .i64 3, .int .i64 phase, .int .i64 old, .int .i64 since, .int .i64 left, .bool awoke, .bool starve, .int .i64 3, .bool front] 31)))) (by kernel_rfl) (Lib.hid (And.intro (HF0.out.blk 0 _ rfl) (HF0.out.blk 1 _ rfl))) (fun hS => ?_)
    refine wpAnyH_take (i := 0) (oi := ⟨some 26, .load 29 (.tmp 2), 29, "write.go:51", #[], none⟩) (v := .agg (([.int .i64 kd, .int .i64 o0, .int .i64 o1, .int .i64 o2, .int .i64 o3, .int .i64 o4, .int .i64 x, .int .u32 wa, .int .u32 to, .slice A n c, .slice B m d] : List Value)).toArray) rfl (by kernel_rfl) (by kernel_rfl) (by kernel_rfl) (fun _ _ _ h => h) (yieldsIf_load_mid (by rfl) _ _ (by rfl) (q) (0) (by rfl) _ _ (fun wv hS => blk_rngl hS.out.1) Try.underlying29 (by rfl) (by kernel_rfl)) hS ?_
    try simp only [Act.put, List.setIfInBounds_toArray, List.set_cons_zero, List.set_cons_succ]
    refine wpAnyH_take (i := 1) (oi := ⟨some 27, .load 31 (.tmp 3), 31, "write.go:51", #[⟨3, .gcOnly .lateStores⟩], none⟩) (v := .agg (([.int .i64 op, .int .i64 3, .int .i64 phase, .int .i64 old, .int .i64 since, .int .i64 left, .bool awoke, .bool starve, .int .i64 3, .bool front] : List Value)).toArray) rfl (by kernel_rfl) (by kernel_rfl) (by kernel_rfl) (fun _ _ _ h => h) (yieldsIf_load_mid (by rfl) _ _ (by rfl) (q + 1) (0) (by rfl) _ _ (fun wv hS => blk_rngl hS.out.2) Try.underlying31 (by rfl) (by kernel_rfl)) hS ?_
    try simp only [Act.put, List.setIfInBounds_toArray, List.set_cons_zero, List.set_cons_succ]
    refine wpAnyH_take (i := 2) (oi := ⟨some 28, .build 38 #[], 38, "write.go:51", #[⟨4, .gcOnly .lateStores⟩], none⟩) (v := ?_) rfl (by kernel_rfl) (by kernel_rfl) (by kernel_rfl) (fun _ _ _ h => h) (Or.inl ⟨by rfl, ?_⟩) hS ?_
    rotate_left
    · intro wv _; go_simp; try with_reducible rfl
    try simp only [Act.put, List.setIfInBounds_toArray, List.set_cons_zero, List.set_cons_succ]
    refine wpAnyH_ready (rs := [3]) (by kernel_rfl) (by simp) (AllReadyH.cons (o := ⟨none, .store 29 (.tmp 4) (.tmp 26), 0, "write.go:51", #[⟨0, .data⟩, ⟨0, .phase⟩, ⟨1, .textOnly .lateStores⟩, ⟨2, .textOnly .lateStores⟩], none⟩) rfl (fun K hK => ?_) AllReadyH.nil)
    refine op_storeS (by rfl) rfl rfl rfl (there_blk (HF0.out.blk 2 _ rfl) rfl) (by kernel_rfl) (by simp [Value.oneCell']) hh1.out ?_
    replace hS := Lib.hid (And.intro (HF1.out.blk 0 _ rfl) (HF1.out.blk 1 _ rfl))
    refine Shut.out hK _ _ hS (fun _ => ?_)
    clear hK K
    try simp only [Act.put, List.setIfInBounds_toArray, List.set_cons_zero, List.set_cons_succ]
    refine wpAnyH_ready (rs := [4]) (by kernel_rfl) (by simp) (AllReadyH.cons (o := ⟨none, .store 31 (.tmp 5) (.tmp 27), 0, "write.go:51", #[⟨1, .data⟩, ⟨3, .chain⟩, ⟨0, .phase⟩, ⟨1, .phase⟩, ⟨2, .textOnly .lateStores⟩, ⟨3, .phase⟩], none⟩) rfl (fun K hK => ?_) AllReadyH.nil)
    refine op_storeS (by rfl) rfl rfl rfl (there_blk (HF1.out.blk 3 _ rfl) rfl) (by kernel_rfl) (by simp [Value.oneCell']) hh2.out ?_
    replace hS := Lib.hid (And.intro (HF2.out.blk 0 _ rfl) (HF2.out.blk 1 _ rfl))
    refine Shut.out hK _ _ hS (fun _ => ?_)
    clear hK K
    try simp only [Act.put, List.setIfInBounds_toArray, List.set_cons_zero, List.set_cons_succ]
    refine wpAnyH_ready (rs := [5]) (by kernel_rfl) (by simp) (AllReadyH.cons (o := ⟨none, .store 38 (.tmp 6) (.tmp 28), 0, "write.go:51", #[⟨2, .data⟩, ⟨4, .chain⟩, ⟨0, .phase⟩, ⟨1, .phase⟩, ⟨2, .phase⟩, ⟨3, .phase⟩, ⟨4, .phase⟩], none⟩) rfl (fun K hK => ?_) AllReadyH.nil)
    refine op_storeS (by rfl) rfl rfl rfl (there_blk (HF2.out.blk 4 _ rfl) rfl) (by kernel_rfl) (by simp [Value.oneCell']) hh3.out ?_
    replace hS := Lib.hid (And.intro (HF3.out.blk 0 _ rfl) (HF3.out.blk 1 _ rfl))
    refine Shut.out hK _ _ hS (fun _ => ?_)
    clear hK K
    try simp only [Act.put, List.setIfInBounds_toArray, List.set_cons_zero, List.set_cons_succ]
    refine wpAnyH_done (by kernel_rfl) ?_ _
    refine NoPanic.normal ?_
    go_wp2
    refine bodyPost_ret (res_ccc Try.results33 (by rfl) (by rfl) (by rfl) (HF3.out.load 2 rfl rfl Try.underlying29 (by kernel_rfl)) (HF3.out.load 3 rfl rfl Try.underlying31 (by kernel_rfl)) (HF3.out.load 4 rfl rfl Try.underlying38 (by kernel_rfl))) rfl ?_
    replace FR := HF3
    rw [HE.out]
    exact ⟨rfl, FR.out.out⟩
set_option maxRecDepth 100000 in
set_option maxHeartbeats 16000000 in
theorem rwEnd_any (kd o0 o1 o2 o3 o4 o5 wa to : Int) (A : Option Addr) (n c : Nat) (B : Option Addr) (m d : Nat) (f : MFr) (hs : f.stage = 0) (w : World) : Calls Try.prog 36 #[obV kd o0 o1 o2 o3 o4 o5 wa to A n c B m d, frV f] w (StepR w kd o1 o2 o3 wa to A n c B m d (wunlockW o0 o4 o5 f)) := by
  obtain ⟨op, stage, phase, old, since, left, awoke, starve, need, front⟩ := f
  have hs2 : stage = 0 := hs
  subst hs2
  clear hs
  unfold obV frV frC
  simp only
  obtain ⟨v1, hv1, z1, v2, hv2, z2, v3, hv3, z3, v4, hv4, z4, v5, hv5, z5, F⟩ := boxes5 w (.cells #[.int .i64 kd, .int .i64 o0, .int .i64 o1, .int .i64 o2, .int .i64 o3, .int .i64 o4, .int .i64 o5, .int .u32 wa, .int .u32 to, .slice A n c, .slice B m d] 29) (.cells #[.int .i64 op, .int .i64 0, .int .i64 phase, .int .i64 old, .int .i64 since, .int .i64 left, .bool awoke, .bool starve, .int .i64 need, .bool front] 31) (.cells #[.int .i64 0, .int .i64 0, .int .i64 0, .int .i64 0, .int .i64 0, .int .i64 0, .int .i64 0, .int .u32 0, .int .u32 0, .slice none 0 0, .slice none 0 0] 29) (.cells #[.int .i64 0, .int .i64 0, .int .i64 0, .int .i64 0, .int .i64 0, .int .i64 0, .bool false, .bool false, .int .i64 0, .bool false] 31) (.cells #[.bool false, .bool false, .bool false, .int .i64 0, .int .i64 0, .int .u64 0, .slice none 0 0] 38)
  generalize hq : w.heap.size = q at *
  have FR := Lib.hid F
  clear F
  by_cases h0 : 0 ≤ o4
  · have c0 : decide (0 ≤ o4) = true := decide_eq_true h0
    have HE := Lib.hid (show wunlockW o0 o4 o5 ⟨op, 0, phase, old, since, left, awoke, starve, need, front⟩ = ((o0, o4, o5), noF, faultA) from by
      unfold wunlockW
      exact if_pos ⟨rfl, h0⟩)
    clear h0
    go_enter Try.func36, Try.ntmps36
    have ac0 := row11 (b := q) (FR.out.at 0 rfl rfl)
    have ac1 := row10 (b := q + 1) (FR.out.at 1 rfl rfl)
    go_wp2_with fail
    refine (stFault_any _ _ _ _ _ _ _ _ _ _ _ _ _ _ _ _ _).mono ?_
    rintro e w7 ⟨rfl, hb⟩
    clear ac0 ac1
    replace FR := Lib.hid (FR.out.step hb)
    clear hb
    obtain ⟨mw6r, w6r, hw6r, hse, F⟩ := FR.out.put11 2 rfl (b := q + 2) rfl (.int .i64 kd) (.int .i64 o0) (.int .i64 o1) (.int .i64 o2) (.int .i64 o3) (.int .i64 o4) (.int .i64 o5) (.int .u32 wa) (.int .u32 to) (.slice A n c) (.slice B m d)
    replace FR := F
    clear F hse
    obtain ⟨mw7r, w7r, hw7r, hse, F⟩ := FR.out.put10 3 rfl (b := q + 3) rfl (.int .i64 0) (.int .i64 0) (.int .i64 0) (.int .i64 0) (.int .i64 0) (.int .i64 0) (.bool false) (.bool false) (.int .i64 0) (.bool false)
    replace FR := F
    clear F hse
    obtain ⟨mw8r, w8r, hw8r, hse, F⟩ := FR.out.put7 4 rfl (b := q + 4) rfl (.bool false) (.bool false) (.bool false) (.int .i64 0) (.int .i64 1) (.int .u64 0) (.slice none 0 0)
    replace FR := F
    clear F hse
    go_wp2
    refine bodyPost_ret (res_ccc Try.results36 (by rfl) (by rfl) (by rfl) (FR.out.load 2 rfl rfl Try.underlying29 (by kernel_rfl)) (FR.out.load 3 rfl rfl Try.underlying31 (by kernel_rfl)) (FR.out.load 4 rfl rfl Try.underlying38 (by kernel_rfl))) rfl ?_
    rw [HE.out]
    exact ⟨rfl, FR.out.out⟩
  · have c0 : decide (0 ≤ o4) = false := decide_eq_false h0
    obtain ⟨x, hx⟩ : ∃ x, IntKind.i64.wrap (o4 + 1048576) = x := ⟨_, rfl⟩
    have HE := Lib.hid (show wunlockW o0 o4 o5 ⟨op, 0, phase, old, since, left, awoke, starve, need, front⟩ = ((o0, x, o5), ⟨op, 1, phase, old, since, x, awoke, starve, need, front⟩, noA) from by
      unfold wunlockW
      rw [if_neg (fun h => h0 h.2), if_pos rfl, hx])
    clear h0
    go_enter Try.func36, Try.ntmps36
    have ac0 := row11 (b := q) (FR.out.at 0 rfl rfl)
    have af05 : v5.frozen? ⟨q, 5, none⟩ = false := FR.out.frozen 0 5 rfl rfl
    have ac1 := row10 (b := q + 1) (FR.out.at 1 rfl rfl)
    obtain ⟨w6p, hw6p⟩ : ∃ W, (v5.setCell ⟨q, 5, none⟩ (.int .i64 x)) = W := ⟨_, rfl⟩
    replace FR := Lib.hid (((FR.out.set 0 5 rfl rfl (.int .i64 x))).eqw hw6p)
    have bc0 := row11 (b := q) (FR.out.at 0 rfl rfl)
    have bc1 := row10 (b := q + 1) (FR.out.at 1 rfl rfl)
    have bf11 : w6p.frozen? ⟨q + 1, 1, none⟩ = false := FR.out.frozen 1 1 rfl rfl
    have bf15 : w6p.frozen? ⟨q + 1, 5, none⟩ = false := FR.out.frozen 1 5 rfl rfl
    obtain ⟨w7p, hw7p⟩ : ∃ W, ((w6p.setCell ⟨q + 1, 5, none⟩ (.int .i64 x)).setCell ⟨q + 1, 1, none⟩ (.int .i64 1)) = W := ⟨_, rfl⟩
    replace FR := Lib.hid ((((FR.out.set 1 5 rfl rfl (.int .i64 x)).set 1 1 rfl rfl (.int .i64 1))).eqw hw7p)
    have cc0 := row11 (b := q) (FR.out.at 0 rfl rfl)
    have cc1 := row10 (b := q + 1) (FR.out.at 1 rfl rfl)
    go_wp2
    clear ac0 af05 ac1 bc0 bc1 bf11 bf15 cc0 cc1
    have HF0 := Lib.hid FR.out.drew
    obtain ⟨w8r, hw8r⟩ : ∃ W, w7p.drew.setCells (q + 2) 0 [.int .i64 kd, .int .i64 o0, .int .i64 o1, .int .i64 o2, .int .i64 o3, .int .i64 x, .int .i64 o5, .int .u32 wa, .int .u32 to, .slice A n c, .slice B m d] = W := ⟨_, rfl⟩
    have HF1 := Lib.hid ((HF0.out.all 2 rfl rfl (by rfl)).eqw hw8r)
    have hh1 := Lib.hid hw8r
    clear hw8r
    obtain ⟨w9r, hw9r⟩ : ∃ W, w8r.setCells (q + 3) 0 [.int .i64 op, .int .i64 1, .int .i64 phase, .int .i64 old, .int .i64 since, .int .i64 x, .bool awoke, .bool starve, .int .i64 need, .bool front] = W := ⟨_, rfl⟩
    have HF2 := Lib.hid ((HF1.out.all 3 rfl rfl (by rfl)).eqw hw9r)
    have hh2 := Lib.hid hw9r
    clear hw9r
    obtain ⟨w10r, hw10r⟩ : ∃ W, w9r.setCells (q + 4) 0 [.bool false, .bool false, .bool false, .int .i64 0, .int .i64 0, .int .u64 0, .slice none 0 0] = W := ⟨_, rfl⟩
    have HF3 := Lib.hid ((HF2.out.all 4 rfl rfl (by rfl)).eqw hw10r)
    have hh3 := Lib.hid hw10r
    clear hw10r
    refine wp_region_noPanic ?_
    refine wp_region_held_drew (S := (fun wv => Hid (wv.heap[q]? = some (.cells #[.int .i64 kd, .int .i64 o0, .int .i64 o1, .int .i64 o2, .int .i64 o3, .int .i64 x, .int .i64 o5, .int .u32 wa, .int .u32 to, .slice A n c, .slice B m d] 29) ∧ wv.heap[q + 1]? = some (.cells #[.int .i64 op, .int .i64 1, .int .i64 phase, .int .i64 old, .int .i64 since, .int .i64 x, .bool awoke, .bool starve, .int .i64 need, .bool front] 31)))) (by kernel_rfl) (Lib.hid (And.intro (HF0.out.blk 0 _ rfl) (HF0.out.blk 1 _ rfl))) (fun hS => ?_)
    refine wpAnyH_take (i := 0) (oi := ⟨some 27, .load 29 (.tmp 2), 29, "write.go:62", #[], none⟩) (v := .agg (([.int .i64 kd, .int .i64 o0, .int .i64 o1, .int .i64 o2, .int .i64 o3, .int .i64 x, .int .i64 o5, .int .u32 wa, .int .u32 to, .slice A n c, .slice B m d] : List Value)).toArray) rfl (by kernel_rfl) (by kernel_rfl) (by kernel_rfl) (fun _ _ _ h => h) (yieldsIf_load_mid (by rfl) _ _ (by rfl) (q) (0) (by rfl) _ _ (fun wv hS => blk_rngl hS.out.1) Try.underlying29 (by rfl) (by kernel_rfl)) hS ?_
    try simp only [Act.put, List.setIfInBounds_toArray, List.set_cons_zero, List.set_cons_succ]
    refine wpAnyH_take (i := 1) (oi := ⟨some 28, .load 31 (.tmp 3), 31, "write.go:62", #[⟨3, .gcOnly .lateStores⟩], none⟩) (v := .agg (([.int .i64 op, .int .i64 1, .int .i64 phase, .int .i64 old, .int .i64 since, .int .i64 x, .bool awoke, .bool starve, .int .i64 need, .bool front] : List Value)).toArray) rfl (by kernel_rfl) (by kernel_rfl) (by kernel_rfl) (fun _ _ _ h => h) (yieldsIf_load_mid (by rfl) _ _ (by rfl) (q + 1) (0) (by rfl) _ _ (fun wv hS => blk_rngl hS.out.2) Try.underlying31 (by rfl) (by kernel_rfl)) hS ?_
    try simp only [Act.put, List.setIfInBounds_toArray, List.set_cons_zero, List.set_cons_succ]
    refine wpAnyH_take (i := 2) (oi := ⟨some 29, .build 38 #[], 38, "write.go:62", #[⟨4, .gcOnly .lateStores⟩], none⟩) (v := ?_) rfl (by kernel_rfl) (by kernel_rfl) (by kernel_rfl) (fun _ _ _ h => h) (Or.inl ⟨by rfl, ?_⟩) hS ?_
    rotate_left
    · intro wv _; go_simp; try with_reducible rfl
    try simp only [Act.put, List.setIfInBounds_toArray, List.set_cons_zero, List.set_cons_succ]
    refine wpAnyH_ready (rs := [3]) (by kernel_rfl) (by simp) (AllReadyH.cons (o := ⟨none, .store 29 (.tmp 4) (.tmp 27), 0, "write.go:62", #[⟨0, .data⟩, ⟨0, .phase⟩, ⟨1, .textOnly .lateStores⟩, ⟨2, .textOnly .lateStores⟩], none⟩) rfl (fun K hK => ?_) AllReadyH.nil)
    refine op_storeS (by rfl) rfl rfl rfl (there_blk (HF0.out.blk 2 _ rfl) rfl) (by kernel_rfl) (by simp [Value.oneCell']) hh1.out ?_
    replace hS := Lib.hid (And.intro (HF1.out.blk 0 _ rfl) (HF1.out.blk 1 _ rfl))
    refine Shut.out hK _ _ hS (fun _ => ?_)
    clear hK K
    try simp only [Act.put, List.setIfInBounds_toArray, List.set_cons_zero, List.set_cons_succ]
    refine wpAnyH_ready (rs := [4]) (by kernel_rfl) (by simp) (AllReadyH.cons (o := ⟨none, .store 31 (.tmp 5) (.tmp 28), 0, "write.go:62", #[⟨1, .data⟩, ⟨3, .chain⟩, ⟨0, .phase⟩, ⟨1, .phase⟩, ⟨2, .textOnly .lateStores⟩, ⟨3, .phase⟩], none⟩) rfl (fun K hK => ?_) AllReadyH.nil)
    refine op_storeS (by rfl) rfl rfl rfl (there_blk (HF1.out.blk 3 _ rfl) rfl) (by kernel_rfl) (by simp [Value.oneCell']) hh2.out ?_
    replace hS := Lib.hid (And.intro (HF2.out.blk 0 _ rfl) (HF2.out.blk 1 _ rfl))
    refine Shut.out hK _ _ hS (fun _ => ?_)
    clear hK K
    try simp only [Act.put, List.setIfInBounds_toArray, List.set_cons_zero, List.set_cons_succ]
    refine wpAnyH_ready (rs := [5]) (by kernel_rfl) (by simp) (AllReadyH.cons (o := ⟨none, .store 38 (.tmp 6) (.tmp 29), 0, "write.go:62", #[⟨2, .data⟩, ⟨4, .chain⟩, ⟨0, .phase⟩, ⟨1, .phase⟩, ⟨2, .phase⟩, ⟨3, .phase⟩, ⟨4, .phase⟩], none⟩) rfl (fun K hK => ?_) AllReadyH.nil)
    refine op_storeS (by rfl) rfl rfl rfl (there_blk (HF2.out.blk 4 _ rfl) rfl) (by kernel_rfl) (by simp [Value.oneCell']) hh3.out ?_
    replace hS := Lib.hid (And.intro (HF3.out.blk 0 _ rfl) (HF3.out.blk 1 _ rfl))
    refine Shut.out hK _ _ hS (fun _ => ?_)
    clear hK K
    try simp only [Act.put, List.setIfInBounds_toArray, List.set_cons_zero, List.set_cons_succ]
    refine wpAnyH_done (by kernel_rfl) ?_ _
    refine NoPanic.normal ?_
    go_wp2
    refine bodyPost_ret (res_ccc Try.results36 (by rfl) (by rfl) (by rfl) (HF3.out.load 2 rfl rfl Try.underlying29 (by kernel_rfl)) (HF3.out.load 3 rfl rfl Try.underlying31 (by kernel_rfl)) (HF3.out.load 4 rfl rfl Try.underlying38 (by kernel_rfl))) rfl ?_
    replace FR := HF3
    rw [HE.out]
    exact ⟨rfl, FR.out.out⟩
set_option maxRecDepth 100000 in
set_option maxHeartbeats 16000000 in
theorem rwLetIn_any (kd o0 o1 o2 o3 o4 o5 wa to : Int) (A : Option Addr) (n c : Nat) (B : Option Addr) (m d : Nat) (f : MFr) (hs : f.stage = 1) (w : World) : Calls Try.prog 37 #[obV kd o0 o1 o2 o3 o4 o5 wa to A n c B m d, frV f] w (StepR w kd o1 o2 o3 wa to A n c B m d (wunlockW o0 o4 o5 f)) := by
  obtain ⟨op, stage, phase, old, since, left, awoke, starve, need, front⟩ := f
  have hs2 : stage = 1 := hs
  subst hs2
  clear hs
  unfold obV frV frC
  simp only
  obtain ⟨v1, hv1, z1, v2, hv2, z2, v3, hv3, z3, v4, hv4, z4, v5, hv5, z5, F⟩ := boxes5 w (.cells #[.int .i64 kd, .int .i64 o0, .int .i64 o1, .int .i64 o2, .int .i64 o3, .int .i64 o4, .int .i64 o5, .int .u32 wa, .int .u32 to, .slice A n c, .slice B m d] 29) (.cells #[.int .i64 op, .int .i64 1, .int .i64 phase, .int .i64 old, .int .i64 since, .int .i64 left, .bool awoke, .bool starve, .int .i64 need, .bool front] 31) (.cells #[.int .i64 0, .int .i64 0, .int .i64 0, .int .i64 0, .int .i64 0, .int .i64 0, .int .i64 0, .int .u32 0, .int .u32 0, .slice none 0 0, .slice none 0 0] 29) (.cells #[.int .i64 0, .int .i64 0, .int .i64 0, .int .i64 0, .int .i64 0, .int .i64 0, .bool false, .bool false, .int .i64 0, .bool false] 31) (.cells #[.bool false, .bool false, .bool false, .int .i64 0, .int .i64 0, .int .u64 0, .slice none 0 0] 38)
  generalize hq : w.heap.size = q at *
  have FR := Lib.hid F
  clear F
  by_cases h0 : 0 < left
  · have c0 : decide (0 < left) = true := decide_eq_true h0
    obtain ⟨x, hx⟩ : ∃ x, IntKind.i64.wrap (left - 1) = x := ⟨_, rfl⟩
    have HE := Lib.hid (show wunlockW o0 o4 o5 ⟨op, 1, phase, old, since, left, awoke, starve, need, front⟩ = ((o0, o4, o5), ⟨op, 1, phase, old, since, x, awoke, starve, need, front⟩, ⟨false, 4, false, 0⟩) from by
      unfold wunlockW
      rw [if_neg (fun h => (show ¬ ((1 : Int) = 0) by decide) h.1), if_neg (show ¬ ((1 : Int) = 0) by decide), if_pos ⟨rfl, h0⟩, hx])
    clear h0
    go_enter Try.func37, Try.ntmps37
    have ac0 := row11 (b := q) (FR.out.at 0 rfl rfl)
    have ac1 := row10 (b := q + 1) (FR.out.at 1 rfl rfl)
    have af15 : v5.frozen? ⟨q + 1, 5, none⟩ = false := FR.out.frozen 1 5 rfl rfl
    obtain ⟨w6p, hw6p⟩ : ∃ W, (v5.setCell ⟨q + 1, 5, none⟩ (.int .i64 x)) = W := ⟨_, rfl⟩
    replace FR := Lib.hid (((FR.out.set 1 5 rfl rfl (.int .i64 x))).eqw hw6p)
    have bc0 := row11 (b := q) (FR.out.at 0 rfl rfl)
    have bc1 := row10 (b := q + 1) (FR.out.at 1 rfl rfl)
    go_wp2
    clear ac0 ac1 af15 bc0 bc1
    have HF0 := Lib.hid FR.out.drew
    obtain ⟨w7r, hw7r⟩ : ∃ W, w6p.drew.setCells (q + 2) 0 [.int .i64 kd, .int .i64 o0, .int .i64 o1, .int .i64 o2, .int .i64 o3, .int .i64 o4, .int .i64 o5, .int .u32 wa, .int .u32 to, .slice A n c, .slice B m d] = W := ⟨_, rfl⟩
    have HF1 := Lib.hid ((HF0.out.all 2 rfl rfl (by rfl)).eqw hw7r)
    have hh1 := Lib.hid hw7r
    clear hw7r
    obtain ⟨w8r, hw8r⟩ : ∃ W, w7r.setCells (q + 3) 0 [.int .i64 op, .int .i64 1, .int .i64 phase, .int .i64 old, .int .i64 since, .int .i64 x, .bool awoke, .bool starve, .int .i64 need, .bool front] = W := ⟨_, rfl⟩
    have HF2 := Lib.hid ((HF1.out.all 3 rfl rfl (by rfl)).eqw hw8r)
    have hh2 := Lib.hid hw8r
    clear hw8r
    obtain ⟨w9r, hw9r⟩ : ∃ W, w8r.setCells (q + 4) 0 [.bool false, .bool false, .bool false, .int .i64 4, .int .i64 0, .int .u64 0, .slice none 0 0] = W := ⟨_, rfl⟩
    have HF3 := Lib.hid ((HF2.out.all 4 rfl rfl (by rfl)).eqw hw9r)
    have hh3 := Lib.hid hw9r
    clear hw9r
    refine wp_region_noPanic ?_
    refine wp_region_held_drew (S := (fun wv => Hid (wv.heap[q]? = some (.cells #[.int .i64 kd, .int .i64 o0, .int .i64 o1, .int .i64 o2, .int .i64 o3, .int .i64 o4, .int .i64 o5, .int .u32 wa, .int .u32 to, .slice A n c, .slice B m d] 29) ∧ wv.heap[q + 1]? = some (.cells #[.int .i64 op, .int .i64 1, .int .i64 phase, .int .i64 old, .int .i64 since, .int .i64 x, .bool awoke, .bool starve, .int .i64 need, .bool front] 31)))) (by kernel_rfl) (Lib.hid (And.intro (HF0.out.blk 0 _ rfl) (HF0.out.blk 1 _ rfl))) (fun hS => ?_)
    refine wpAnyH_take (i := 0) (oi := ⟨some 14, .load 29 (.tmp 2), 29, "write.go:69", #[], none⟩) (v := .agg (([.int .i64 kd, .int .i64 o0, .int .i64 o1, .int .i64 o2, .int .i64 o3, .int .i64 o4, .int .i64 o5, .int .u32 wa, .int .u32 to, .slice A n c, .slice B m d] : List Value)).toArray) rfl (by kernel_rfl) (by kernel_rfl) (by kernel_rfl) (fun _ _ _ h => h) (yieldsIf_load_mid (by rfl) _ _ (by rfl) (q) (0) (by rfl) _ _ (fun wv hS => blk_rngl hS.out.1) Try.underlying29 (by rfl) (by kernel_rfl)) hS ?_
    try simp only [Act.put, List.setIfInBounds_toArray, List.set_cons_zero, List.set_cons_succ]
    refine wpAnyH_take (i := 1) (oi := ⟨some 15, .load 31 (.tmp 3), 31, "write.go:69", #[⟨3, .gcOnly .lateStores⟩], none⟩) (v := .agg (([.int .i64 op, .int .i64 1, .int .i64 phase, .int .i64 old, .int .i64 since, .int .i64 x, .bool awoke, .bool starve, .int .i64 need, .bool front] : List Value)).toArray) rfl (by kernel_rfl) (by kernel_rfl) (by kernel_rfl) (fun _ _ _ h => h) (yieldsIf_load_mid (by rfl) _ _ (by rfl) (q + 1) (0) (by rfl) _ _ (fun wv hS => blk_rngl hS.out.2) Try.underlying31 (by rfl) (by kernel_rfl)) hS ?_
    try simp only [Act.put, List.setIfInBounds_toArray, List.set_cons_zero, List.set_cons_succ]
    refine wpAnyH_take (i := 2) (oi := ⟨some 16, .build 38 #[(3, .const (Value.int IntKind.i64 4))], 38, "write.go:69", #[⟨4, .gcOnly .lateStores⟩], none⟩) (v := ?_) rfl (by kernel_rfl) (by kernel_rfl) (by kernel_rfl) (fun _ _ _ h => h) (Or.inl ⟨by rfl, ?_⟩) hS ?_
    rotate_left
    · intro wv _; go_simp; try with_reducible rfl
    try simp only [Act.put, List.setIfInBounds_toArray, List.set_cons_zero, List.set_cons_succ]
    refine wpAnyH_ready (rs := [3]) (by kernel_rfl) (by simp) (AllReadyH.cons (o := ⟨none, .store 29 (.tmp 4) (.tmp 14), 0, "write.go:69", #[⟨0, .data⟩, ⟨0, .phase⟩, ⟨1, .textOnly .lateStores⟩, ⟨2, .textOnly .lateStores⟩], none⟩) rfl (fun K hK => ?_) AllReadyH.nil)
    refine op_storeS (by rfl) rfl rfl rfl (there_blk (HF0.out.blk 2 _ rfl) rfl) (by kernel_rfl) (by simp [Value.oneCell']) hh1.out ?_
    replace hS := Lib.hid (And.intro (HF1.out.blk 0 _ rfl) (HF1.out.blk 1 _ rfl))
    refine Shut.out hK _ _ hS (fun _ => ?_)
    clear hK K
    try simp only [Act.put, List.setIfInBounds_toArray, List.set_cons_zero, List.set_cons_succ]
    refine wpAnyH_ready (rs := [4]) (by kernel_rfl) (by simp) (AllReadyH.cons (o := ⟨none, .store 31 (.tmp 5) (.tmp 15), 0, "write.go:69", #[⟨1, .data⟩, ⟨3, .chain⟩, ⟨0, .phase⟩, ⟨1, .phase⟩, ⟨2, .textOnly .lateStores⟩, ⟨3, .phase⟩], none⟩) rfl (fun K hK => ?_) AllReadyH.nil)
    refine op_storeS (by rfl) rfl rfl rfl (there_blk (HF1.out.blk 3 _ rfl) rfl) (by kernel_rfl) (by simp [Value.oneCell']) hh2.out ?_
    replace hS := Lib.hid (And.intro (HF2.out.blk 0 _ rfl) (HF2.out.blk 1 _ rfl))
    refine Shut.out hK _ _ hS (fun _ => ?_)
    clear hK K
    try simp only [Act.put, List.setIfInBounds_toArray, List.set_cons_zero, List.set_cons_succ]
    refine wpAnyH_ready (rs := [5]) (by kernel_rfl) (by simp) (AllReadyH.cons (o := ⟨none, .store 38 (.tmp 6) (.tmp 16), 0, "write.go:69", #[⟨2, .data⟩, ⟨4, .chain⟩, ⟨0, .phase⟩, ⟨1, .phase⟩, ⟨2, .phase⟩, ⟨3, .phase⟩, ⟨4, .phase⟩], none⟩) rfl (fun K hK => ?_) AllReadyH.nil)
    refine op_storeS (by rfl) rfl rfl rfl (there_blk (HF2.out.blk 4 _ rfl) rfl) (by kernel_rfl) (by simp [Value.oneCell']) hh3.out ?_
    replace hS := Lib.hid (And.intro (HF3.out.blk 0 _ rfl) (HF3.out.blk 1 _ rfl))
    refine Shut.out hK _ _ hS (fun _ => ?_)
    clear hK K
    try simp only [Act.put, List.setIfInBounds_toArray, List.set_cons_zero, List.set_cons_succ]
    refine wpAnyH_done (by kernel_rfl) ?_ _
    refine NoPanic.normal ?_
    go_wp2
    refine bodyPost_ret (res_ccc Try.results37 (by rfl) (by rfl) (by rfl) (HF3.out.load 2 rfl rfl Try.underlying29 (by kernel_rfl)) (HF3.out.load 3 rfl rfl Try.underlying31 (by kernel_rfl)) (HF3.out.load 4 rfl rfl Try.underlying38 (by kernel_rfl))) rfl ?_
    replace FR := HF3
    rw [HE.out]
    exact ⟨rfl, FR.out.out⟩
  · have c0 : decide (0 < left) = false := decide_eq_false h0
    have HE := Lib.hid (show wunlockW o0 o4 o5 ⟨op, 1, phase, old, since, left, awoke, starve, need, front⟩ = ((o0, o4, o5), ⟨op, 2, 0, old, since, left, awoke, starve, need, front⟩, noA) from by
      unfold wunlockW
      rw [if_neg (fun h => (show ¬ ((1 : Int) = 0) by decide) h.1), if_neg (show ¬ ((1 : Int) = 0) by decide), if_neg (fun h => h0 h.2), if_pos rfl])
    clear h0
    go_enter Try.func37, Try.ntmps37
    have ac0 := row11 (b := q) (FR.out.at 0 rfl rfl)
    have ac1 := row10 (b := q + 1) (FR.out.at 1 rfl rfl)
    have af11 : v5.frozen? ⟨q + 1, 1, none⟩ = false := FR.out.frozen 1 1 rfl rfl
    have af12 : v5.frozen? ⟨q + 1, 2, none⟩ = false := FR.out.frozen 1 2 rfl rfl
    obtain ⟨w6p, hw6p⟩ : ∃ W, ((v5.setCell ⟨q + 1, 1, none⟩ (.int .i64 2)).setCell ⟨q + 1, 2, none⟩ (.int .i64 0)) = W := ⟨_, rfl⟩
    replace FR := Lib.hid ((((FR.out.set 1 1 rfl rfl (.int .i64 2)).set 1 2 rfl rfl (.int .i64 0))).eqw hw6p)
    have bc0 := row11 (b := q) (FR.out.at 0 rfl rfl)
    have bc1 := row10 (b := q + 1) (FR.out.at 1 rfl rfl)
    go_wp2
    clear ac0 ac1 af11 af12 bc0 bc1
    have HF0 := Lib.hid FR.out.drew
    obtain ⟨w7r, hw7r⟩ : ∃ W, w6p.drew.setCells (q + 2) 0 [.int .i64 kd, .int .i64 o0, .int .i64 o1, .int .i64 o2, .int .i64 o3, .int .i64 o4, .int .i64 o5, .int .u32 wa, .int .u32 to, .slice A n c, .slice B m d] = W := ⟨_, rfl⟩
    have HF1 := Lib.hid ((HF0.out.all 2 rfl rfl (by rfl)).eqw hw7r)
    have hh1 := Lib.hid hw7r
    clear hw7r
    obtain ⟨w8r, hw8r⟩ : ∃ W, w7r.setCells (q + 3) 0 [.int .i64 op, .int .i64 2, .int .i64 0, .int .i64 old, .int .i64 since, .int .i64 left, .bool awoke, .bool starve, .int .i64 need, .bool front] = W := ⟨_, rfl⟩
    have HF2 := Lib.hid ((HF1.out.all 3 rfl rfl (by rfl)).eqw hw8r)
    have hh2 := Lib.hid hw8r
    clear hw8r
    obtain ⟨w9r, hw9r⟩ : ∃ W, w8r.setCells (q + 4) 0 [.bool false, .bool false, .bool false, .int .i64 0, .int .i64 0, .int .u64 0, .slice none 0 0] = W := ⟨_, rfl⟩
    have HF3 := Lib.hid ((HF2.out.all 4 rfl rfl (by rfl)).eqw hw9r)
    have hh3 := Lib.hid hw9r
    clear hw9r
    refine wp_region_noPanic ?_
    refine wp_region_held_drew (S := (fun wv => Hid (wv.heap[q]? = some (.cells #[.int .i64 kd, .int .i64 o0, .int .i64 o1, .int .i64 o2, .int .i64 o3, .int .i64 o4, .int .i64 o5, .int .u32 wa, .int .u32 to, .slice A n c, .slice B m d] 29) ∧ wv.heap[q + 1]? = some (.cells #[.int .i64 op, .int .i64 2, .int .i64 0, .int .i64 old, .int .i64 since, .int .i64 left, .bool awoke, .bool starve, .int .i64 need, .bool front] 31)))) (by kernel_rfl) (Lib.hid (And.intro (HF0.out.blk 0 _ rfl) (HF0.out.blk 1 _ rfl))) (fun hS => ?_)
    refine wpAnyH_take (i := 0) (oi := ⟨some 19, .load 29 (.tmp 2), 29, "write.go:73", #[], none⟩) (v := .agg (([.int .i64 kd, .int .i64 o0, .int .i64 o1, .int .i64 o2, .int .i64 o3, .int .i64 o4, .int .i64 o5, .int .u32 wa, .int .u32 to, .slice A n c, .slice B m d] : List Value)).toArray) rfl (by kernel_rfl) (by kernel_rfl) (by kernel_rfl) (fun _ _ _ h => h) (yieldsIf_load_mid (by rfl) _ _ (by rfl) (q) (0) (by rfl) _ _ (fun wv hS => blk_rngl hS.out.1) Try.underlying29 (by rfl) (by kernel_rfl)) hS ?_
    try simp only [Act.put, List.setIfInBounds_toArray, List.set_cons_zero, List.set_cons_succ]
    refine wpAnyH_take (i := 1) (oi := ⟨some 20, .load 31 (.tmp 3), 31, "write.go:73", #[⟨3, .gcOnly .lateStores⟩], none⟩) (v := .agg (([.int .i64 op, .int .i64 2, .int .i64 0, .int .i64 old, .int .i64 since, .int .i64 left, .bool awoke, .bool starve, .int .i64 need, .bool front] : List Value)).toArray) rfl (by kernel_rfl) (by kernel_rfl) (by kernel_rfl) (fun _ _ _ h => h) (yieldsIf_load_mid (by rfl) _ _ (by rfl) (q + 1) (0) (by rfl) _ _ (fun wv hS => blk_rngl hS.out.2) Try.underlying31 (by rfl) (by kernel_rfl)) hS ?_
    try simp only [Act.put, List.setIfInBounds_toArray, List.set_cons_zero, List.set_cons_succ]
    refine wpAnyH_take (i := 2) (oi := ⟨some 21, .build 38 #[], 38, "write.go:73", #[⟨4, .gcOnly .lateStores⟩], none⟩) (v := ?_) rfl (by kernel_rfl) (by kernel_rfl) (by kernel_rfl) (fun _ _ _ h => h) (Or.inl ⟨by rfl, ?_⟩) hS ?_
    rotate_left
    · intro wv _; go_simp; try with_reducible rfl
    try simp only [Act.put, List.setIfInBounds_toArray, List.set_cons_zero, List.set_cons_succ]
    refine wpAnyH_ready (rs := [3]) (by kernel_rfl) (by simp) (AllReadyH.cons (o := ⟨none, .store 29 (.tmp 4) (.tmp 19), 0, "write.go:73", #[⟨0, .data⟩, ⟨0, .phase⟩, ⟨1, .textOnly .lateStores⟩, ⟨2, .textOnly .lateStores⟩], none⟩) rfl (fun K hK => ?_) AllReadyH.nil)
    refine op_storeS (by rfl) rfl rfl rfl (there_blk (HF0.out.blk 2 _ rfl) rfl) (by kernel_rfl) (by simp [Value.oneCell']) hh1.out ?_
    replace hS := Lib.hid (And.intro (HF1.out.blk 0 _ rfl) (HF1.out.blk 1 _ rfl))
    refine Shut.out hK _ _ hS (fun _ => ?_)
    clear hK K
    try simp only [Act.put, List.setIfInBounds_toArray, List.set_cons_zero, List.set_cons_succ]
    refine wpAnyH_ready (rs := [4]) (by kernel_rfl) (by simp) (AllReadyH.cons (o := ⟨none, .store 31 (.tmp 5) (.tmp 20), 0, "write.go:73", #[⟨1, .data⟩, ⟨3, .chain⟩, ⟨0, .phase⟩, ⟨1, .phase⟩, ⟨2, .textOnly .lateStores⟩, ⟨3, .phase⟩], none⟩) rfl (fun K hK => ?_) AllReadyH.nil)
    refine op_storeS (by rfl) rfl rfl rfl (there_blk (HF1.out.blk 3 _ rfl) rfl) (by kernel_rfl) (by simp [Value.oneCell']) hh2.out ?_
    replace hS := Lib.hid (And.intro (HF2.out.blk 0 _ rfl) (HF2.out.blk 1 _ rfl))
    refine Shut.out hK _ _ hS (fun _ => ?_)
    clear hK K
    try simp only [Act.put, List.setIfInBounds_toArray, List.set_cons_zero, List.set_cons_succ]
    refine wpAnyH_ready (rs := [5]) (by kernel_rfl) (by simp) (AllReadyH.cons (o := ⟨none, .store 38 (.tmp 6) (.tmp 21), 0, "write.go:73", #[⟨2, .data⟩, ⟨4, .chain⟩, ⟨0, .phase⟩, ⟨1, .phase⟩, ⟨2, .phase⟩, ⟨3, .phase⟩, ⟨4, .phase⟩], none⟩) rfl (fun K hK => ?_) AllReadyH.nil)
    refine op_storeS (by rfl) rfl rfl rfl (there_blk (HF2.out.blk 4 _ rfl) rfl) (by kernel_rfl) (by simp [Value.oneCell']) hh3.out ?_
    replace hS := Lib.hid (And.intro (HF3.out.blk 0 _ rfl) (HF3.out.blk 1 _ rfl))
    refine Shut.out hK _ _ hS (fun _ => ?_)
    clear hK K
    try simp only [Act.put, List.setIfInBounds_toArray, List.set_cons_zero, List.set_cons_succ]
    refine wpAnyH_done (by kernel_rfl) ?_ _
    refine NoPanic.normal ?_
    go_wp2
    refine bodyPost_ret (res_ccc Try.results37 (by rfl) (by rfl) (by rfl) (HF3.out.load 2 rfl rfl Try.underlying29 (by kernel_rfl)) (HF3.out.load 3 rfl rfl Try.underlying31 (by kernel_rfl)) (HF3.out.load 4 rfl rfl Try.underlying38 (by kernel_rfl))) rfl ?_
    replace FR := HF3
    rw [HE.out]
    exact ⟨rfl, FR.out.out⟩
end Go.Proofs.Ytpkegfochfkkcaa
