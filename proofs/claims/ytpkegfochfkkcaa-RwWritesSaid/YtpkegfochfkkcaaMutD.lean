/- Layer 15: what the document's own Lock answers; no condition. -/
import Derived.Test.YtpkegfochfkkcaaMutC
import Derived.Test.YtpkegfochfkkcaaSyn
namespace Go.Proofs.Ytpkegfochfkkcaa
set_option linter.unusedVariables false
set_option linter.unusedSimpArgs false
open Go.RowKit
set_option maxRecDepth 100000 in
set_option maxHeartbeats 16000000 in
theorem lock15_any (kd o0 o1 o2 o3 o4 o5 wa to : Int) (A : Option Addr) (n c : Nat) (B : Option Addr) (m d : Nat) (f : MFr) (now pat : Int) (w : World) : Calls Try.prog 34 #[obV kd o0 o1 o2 o3 o4 o5 wa to A n c B m d, frV f, .int .i64 now, .int .i64 pat] w (StepC w kd o1 o2 o3 o4 o5 wa to A n c B m d (lockM o0 f now pat)) := by
  obtain ⟨op, stage, phase, old, since, left, awoke, starve, need, front⟩ := f
  unfold obV frV frC
  simp only
  obtain ⟨v1, hv1, z1, v2, hv2, z2, v3, hv3, z3, v4, hv4, z4, v5, hv5, z5, F⟩ := boxes5 w (.cells #[.int .i64 kd, .int .i64 o0, .int .i64 o1, .int .i64 o2, .int .i64 o3, .int .i64 o4, .int .i64 o5, .int .u32 wa, .int .u32 to, .slice A n c, .slice B m d] 29) (.cells #[.int .i64 op, .int .i64 stage, .int .i64 phase, .int .i64 old, .int .i64 since, .int .i64 left, .bool awoke, .bool starve, .int .i64 need, .bool front] 31) (.cells #[.int .i64 0, .int .i64 0, .int .i64 0, .int .i64 0, .int .i64 0, .int .i64 0, .int .i64 0, .int .u32 0, .int .u32 0, .slice none 0 0, .slice none 0 0] 29) (.cells #[.int .i64 0, .int .i64 0, .int .i64 0, .int .i64 0, .int .i64 0, .int .i64 0, .bool false, .bool false, .int .i64 0, .bool false] 31) (.cells #[.bool false, .bool false, .bool false, .int .i64 0, .int .i64 0, .int .u64 0, .slice none 0 0] 38)
  generalize hq : w.heap.size = q at *
  have FR := Lib.hid F
  clear F
  by_cases p0 : phase = 0
  · subst p0
    by_cases h0 : o0 = 0
    · have b0 : (o0 == 0) = true := by simp [h0]
      have HE := Lib.hid (show lockM o0 ⟨op, stage, 0, old, since, left, awoke, starve, need, front⟩ now pat = (1, noF, doneA) from by
        unfold lockM
        exact if_pos ⟨rfl, h0⟩)
      clear h0
      go_enter Try.func34, Try.ntmps34
      have ac0 := row11 (b := q) (FR.out.at 0 rfl rfl)
      have af01 : v5.frozen? ⟨q, 1, none⟩ = false := FR.out.frozen 0 1 rfl rfl
      have ac1 := row10 (b := q + 1) (FR.out.at 1 rfl rfl)
      obtain ⟨w6p, hw6p⟩ : ∃ W, (v5.setCell ⟨q, 1, none⟩ (.int .i64 1)) = W := ⟨_, rfl⟩
      replace FR := Lib.hid (((FR.out.set 0 1 rfl rfl (.int .i64 1))).eqw hw6p)
      have bc0 := row11 (b := q) (FR.out.at 0 rfl rfl)
      have bc1 := row10 (b := q + 1) (FR.out.at 1 rfl rfl)
      obtain ⟨mw7r, w7r, hw7r, hse, F⟩ := FR.out.put11 2 rfl (b := q + 2) rfl (.int .i64 kd) (.int .i64 1) (.int .i64 o1) (.int .i64 o2) (.int .i64 o3) (.int .i64 o4) (.int .i64 o5) (.int .u32 wa) (.int .u32 to) (.slice A n c) (.slice B m d)
      replace FR := F
      clear F hse
      obtain ⟨mw8r, w8r, hw8r, hse, F⟩ := FR.out.put10 3 rfl (b := q + 3) rfl (.int .i64 0) (.int .i64 0) (.int .i64 0) (.int .i64 0) (.int .i64 0) (.int .i64 0) (.bool false) (.bool false) (.int .i64 0) (.bool false)
      replace FR := F
      clear F hse
      obtain ⟨mw9r, w9r, hw9r, hse, F⟩ := FR.out.put7 4 rfl (b := q + 4) rfl (.bool true) (.bool false) (.bool false) (.int .i64 0) (.int .i64 0) (.int .u64 0) (.slice none 0 0)
      replace FR := F
      clear F hse
      go_wp2
      refine bodyPost_ret (res_ccc Try.results34 (by rfl) (by rfl) (by rfl) (FR.out.load 2 rfl rfl Try.underlying29 (by kernel_rfl)) (FR.out.load 3 rfl rfl Try.underlying31 (by kernel_rfl)) (FR.out.load 4 rfl rfl Try.underlying38 (by kernel_rfl))) rfl ?_
      rw [HE.out]
      exact ⟨rfl, FR.out.out⟩
    · have b0 : (o0 == 0) = false := by simp [h0]
      have HE := Lib.hid (show lockM o0 ⟨op, stage, 0, old, since, left, awoke, starve, need, front⟩ now pat = (o0, ⟨op, stage, 1, old, since, left, awoke, starve, need, front⟩, noA) from by
        unfold lockM
        rw [if_neg (fun h => h0 h.2)]; exact if_pos (Or.inl rfl))
      clear h0
      go_enter Try.func34, Try.ntmps34
      have ac0 := row11 (b := q) (FR.out.at 0 rfl rfl)
      have ac1 := row10 (b := q + 1) (FR.out.at 1 rfl rfl)
      have af12 : v5.frozen? ⟨q + 1, 2, none⟩ = false := FR.out.frozen 1 2 rfl rfl
      obtain ⟨w6p, hw6p⟩ : ∃ W, (v5.setCell ⟨q + 1, 2, none⟩ (.int .i64 1)) = W := ⟨_, rfl⟩
      replace FR := Lib.hid (((FR.out.set 1 2 rfl rfl (.int .i64 1))).eqw hw6p)
      have bc0 := row11 (b := q) (FR.out.at 0 rfl rfl)
      have bc1 := row10 (b := q + 1) (FR.out.at 1 rfl rfl)
      go_wp2
      clear ac0 ac1 af12 bc0 bc1
      have HF0 := Lib.hid FR.out.drew
      obtain ⟨w7r, hw7r⟩ : ∃ W, w6p.drew.setCells (q + 2) 0 [.int .i64 kd, .int .i64 o0, .int .i64 o1, .int .i64 o2, .int .i64 o3, .int .i64 o4, .int .i64 o5, .int .u32 wa, .int .u32 to, .slice A n c, .slice B m d] = W := ⟨_, rfl⟩
      have HF1 := Lib.hid ((HF0.out.all 2 rfl rfl (by rfl)).eqw hw7r)
      have hh1 := Lib.hid hw7r
      clear hw7r
      obtain ⟨w8r, hw8r⟩ : ∃ W, w7r.setCells (q + 3) 0 [.int .i64 op, .int .i64 stage, .int .i64 1, .int .i64 old, .int .i64 since, .int .i64 left, .bool awoke, .bool starve, .int .i64 need, .bool front] = W := ⟨_, rfl⟩
      have HF2 := Lib.hid ((HF1.out.all 3 rfl rfl (by rfl)).eqw hw8r)
      have hh2 := Lib.hid hw8r
      clear hw8r
      obtain ⟨w9r, hw9r⟩ : ∃ W, w8r.setCells (q + 4) 0 [.bool false, .bool false, .bool false, .int .i64 0, .int .i64 0, .int .u64 0, .slice none 0 0] = W := ⟨_, rfl⟩
      have HF3 := Lib.hid ((HF2.out.all 4 rfl rfl (by rfl)).eqw hw9r)
      have hh3 := Lib.hid hw9r
      clear hw9r
      refine wp_region_noPanic ?_
      refine wp_region_held_drew (S := (fun wv => Hid (wv.heap[q]? = some (.cells #[.int .i64 kd, .int .i64 o0, .int .i64 o1, .int .i64 o2, .int .i64 o3, .int .i64 o4, .int .i64 o5, .int .u32 wa, .int .u32 to, .slice A n c, .slice B m d] 29) ∧ wv.heap[q + 1]? = some (.cells #[.int .i64 op, .int .i64 stage, .int .i64 1, .int .i64 old, .int .i64 since, .int .i64 left, .bool awoke, .bool starve, .int .i64 need, .bool front] 31)))) (by kernel_rfl) (Lib.hid (And.intro (HF0.out.blk 0 _ rfl) (HF0.out.blk 1 _ rfl))) (fun hS => ?_)
      refine wpAnyH_take (i := 0) (oi := ⟨some 43, .load 29 (.tmp 4), 29, "ref.go:43", #[], none⟩) (v := .agg (([.int .i64 kd, .int .i64 o0, .int .i64 o1, .int .i64 o2, .int .i64 o3, .int .i64 o4, .int .i64 o5, .int .u32 wa, .int .u32 to, .slice A n c, .slice B m d] : List Value)).toArray) rfl (by kernel_rfl) (by kernel_rfl) (by kernel_rfl) (fun _ _ _ h => h) (yieldsIf_load_mid (by rfl) _ _ (by rfl) (q) (0) (by rfl) _ _ (fun wv hS => blk_rngl hS.out.1) Try.underlying29 (by rfl) (by kernel_rfl)) hS ?_
      try simp only [Act.put, List.setIfInBounds_toArray, List.set_cons_zero, List.set_cons_succ]
      refine wpAnyH_take (i := 1) (oi := ⟨some 44, .load 31 (.tmp 5), 31, "ref.go:43", #[⟨3, .gcOnly .lateStores⟩], none⟩) (v := .agg (([.int .i64 op, .int .i64 stage, .int .i64 1, .int .i64 old, .int .i64 since, .int .i64 left, .bool awoke, .bool starve, .int .i64 need, .bool front] : List Value)).toArray) rfl (by kernel_rfl) (by kernel_rfl) (by kernel_rfl) (fun _ _ _ h => h) (yieldsIf_load_mid (by rfl) _ _ (by rfl) (q + 1) (0) (by rfl) _ _ (fun wv hS => blk_rngl hS.out.2) Try.underlying31 (by rfl) (by kernel_rfl)) hS ?_
      try simp only [Act.put, List.setIfInBounds_toArray, List.set_cons_zero, List.set_cons_succ]
      refine wpAnyH_take (i := 2) (oi := ⟨some 45, .build 38 #[], 38, "ref.go:43", #[⟨4, .gcOnly .lateStores⟩], none⟩) (v := ?_) rfl (by kernel_rfl) (by kernel_rfl) (by kernel_rfl) (fun _ _ _ h => h) (Or.inl ⟨by rfl, ?_⟩) hS ?_
      rotate_left
      · intro wv _; go_simp; try with_reducible rfl
      try simp only [Act.put, List.setIfInBounds_toArray, List.set_cons_zero, List.set_cons_succ]
      refine wpAnyH_ready (rs := [3]) (by kernel_rfl) (by simp) (AllReadyH.cons (o := ⟨none, .store 29 (.tmp 8) (.tmp 43), 0, "ref.go:43", #[⟨0, .data⟩, ⟨0, .phase⟩, ⟨1, .textOnly .lateStores⟩, ⟨2, .textOnly .lateStores⟩], none⟩) rfl (fun K hK => ?_) AllReadyH.nil)
      refine op_storeS (by rfl) rfl rfl rfl (there_blk (HF0.out.blk 2 _ rfl) rfl) (by kernel_rfl) (by simp [Value.oneCell']) hh1.out ?_
      replace hS := Lib.hid (And.intro (HF1.out.blk 0 _ rfl) (HF1.out.blk 1 _ rfl))
      refine Shut.out hK _ _ hS (fun _ => ?_)
      clear hK K
      try simp only [Act.put, List.setIfInBounds_toArray, List.set_cons_zero, List.set_cons_succ]
      refine wpAnyH_ready (rs := [4]) (by kernel_rfl) (by simp) (AllReadyH.cons (o := ⟨none, .store 31 (.tmp 9) (.tmp 44), 0, "ref.go:43", #[⟨1, .data⟩, ⟨3, .chain⟩, ⟨0, .phase⟩, ⟨1, .phase⟩, ⟨2, .textOnly .lateStores⟩, ⟨3, .phase⟩], none⟩) rfl (fun K hK => ?_) AllReadyH.nil)
      refine op_storeS (by rfl) rfl rfl rfl (there_blk (HF1.out.blk 3 _ rfl) rfl) (by kernel_rfl) (by simp [Value.oneCell']) hh2.out ?_
      replace hS := Lib.hid (And.intro (HF2.out.blk 0 _ rfl) (HF2.out.blk 1 _ rfl))
      refine Shut.out hK _ _ hS (fun _ => ?_)
      clear hK K
      try simp only [Act.put, List.setIfInBounds_toArray, List.set_cons_zero, List.set_cons_succ]
      refine wpAnyH_ready (rs := [5]) (by kernel_rfl) (by simp) (AllReadyH.cons (o := ⟨none, .store 38 (.tmp 10) (.tmp 45), 0, "ref.go:43", #[⟨2, .data⟩, ⟨4, .chain⟩, ⟨0, .phase⟩, ⟨1, .phase⟩, ⟨2, .phase⟩, ⟨3, .phase⟩, ⟨4, .phase⟩], none⟩) rfl (fun K hK => ?_) AllReadyH.nil)
      refine op_storeS (by rfl) rfl rfl rfl (there_blk (HF2.out.blk 4 _ rfl) rfl) (by kernel_rfl) (by simp [Value.oneCell']) hh3.out ?_
      replace hS := Lib.hid (And.intro (HF3.out.blk 0 _ rfl) (HF3.out.blk 1 _ rfl))
      refine Shut.out hK _ _ hS (fun _ => ?_)
      clear hK K
      try simp only [Act.put, List.setIfInBounds_toArray, List.set_cons_zero, List.set_cons_succ]
      refine wpAnyH_done (by kernel_rfl) ?_ _
      refine NoPanic.normal ?_
      go_wp2
      refine bodyPost_ret (res_ccc Try.results34 (by rfl) (by rfl) (by rfl) (HF3.out.load 2 rfl rfl Try.underlying29 (by kernel_rfl)) (HF3.out.load 3 rfl rfl Try.underlying31 (by kernel_rfl)) (HF3.out.load 4 rfl rfl Try.underlying38 (by kernel_rfl))) rfl ?_
      replace FR := HF3
      rw [HE.out]
      exact ⟨rfl, FR.out.out⟩
  have n0 : (phase == 0) = false := by simp [p0]
  by_cases p1 : phase = 1
  · subst p1
    have HE := Lib.hid (show lockM o0 ⟨op, stage, 1, old, since, left, awoke, starve, need, front⟩ now pat = (o0, ⟨op, stage, 2, o0, since, left, awoke, starve, need, front⟩, noA) from by
      unfold lockM
      rw [if_neg (fun h => absurd (show (1 : Int) = 0 from h.1) (by decide)), if_neg (fun h => by rcases h with h | h; exact absurd (show (1 : Int) = 0 from h) (by decide); exact absurd (show (1 : Int) = 2 from h.1) (by decide)), if_pos rfl])
    clear p0 n0
    go_enter Try.func34, Try.ntmps34
    have ac0 := row11 (b := q) (FR.out.at 0 rfl rfl)
    have ac1 := row10 (b := q + 1) (FR.out.at 1 rfl rfl)
    have af12 : v5.frozen? ⟨q + 1, 2, none⟩ = false := FR.out.frozen 1 2 rfl rfl
    have af13 : v5.frozen? ⟨q + 1, 3, none⟩ = false := FR.out.frozen 1 3 rfl rfl
    obtain ⟨w6p, hw6p⟩ : ∃ W, ((v5.setCell ⟨q + 1, 3, none⟩ (.int .i64 o0)).setCell ⟨q + 1, 2, none⟩ (.int .i64 2)) = W := ⟨_, rfl⟩
    replace FR := Lib.hid ((((FR.out.set 1 3 rfl rfl (.int .i64 o0)).set 1 2 rfl rfl (.int .i64 2))).eqw hw6p)
    have bc0 := row11 (b := q) (FR.out.at 0 rfl rfl)
    have bc1 := row10 (b := q + 1) (FR.out.at 1 rfl rfl)
    go_wp2
    clear ac0 ac1 af12 af13 bc0 bc1
    have HF0 := Lib.hid FR.out.drew
    obtain ⟨w7r, hw7r⟩ : ∃ W, w6p.drew.setCells (q + 2) 0 [.int .i64 kd, .int .i64 o0, .int .i64 o1, .int .i64 o2, .int .i64 o3, .int .i64 o4, .int .i64 o5, .int .u32 wa, .int .u32 to, .slice A n c, .slice B m d] = W := ⟨_, rfl⟩
    have HF1 := Lib.hid ((HF0.out.all 2 rfl rfl (by rfl)).eqw hw7r)
    have hh1 := Lib.hid hw7r
    clear hw7r
    obtain ⟨w8r, hw8r⟩ : ∃ W, w7r.setCells (q + 3) 0 [.int .i64 op, .int .i64 stage, .int .i64 2, .int .i64 o0, .int .i64 since, .int .i64 left, .bool awoke, .bool starve, .int .i64 need, .bool front] = W := ⟨_, rfl⟩
    have HF2 := Lib.hid ((HF1.out.all 3 rfl rfl (by rfl)).eqw hw8r)
    have hh2 := Lib.hid hw8r
    clear hw8r
    obtain ⟨w9r, hw9r⟩ : ∃ W, w8r.setCells (q + 4) 0 [.bool false, .bool false, .bool false, .int .i64 0, .int .i64 0, .int .u64 0, .slice none 0 0] = W := ⟨_, rfl⟩
    have HF3 := Lib.hid ((HF2.out.all 4 rfl rfl (by rfl)).eqw hw9r)
    have hh3 := Lib.hid hw9r
    clear hw9r
    refine wp_region_noPanic ?_
    refine wp_region_held_drew (S := (fun wv => Hid (wv.heap[q]? = some (.cells #[.int .i64 kd, .int .i64 o0, .int .i64 o1, .int .i64 o2, .int .i64 o3, .int .i64 o4, .int .i64 o5, .int .u32 wa, .int .u32 to, .slice A n c, .slice B m d] 29) ∧ wv.heap[q + 1]? = some (.cells #[.int .i64 op, .int .i64 stage, .int .i64 2, .int .i64 o0, .int .i64 since, .int .i64 left, .bool awoke, .bool starve, .int .i64 need, .bool front] 31)))) (by kernel_rfl) (Lib.hid (And.intro (HF0.out.blk 0 _ rfl) (HF0.out.blk 1 _ rfl))) (fun hS => ?_)
    refine wpAnyH_take (i := 0) (oi := ⟨some 52, .load 29 (.tmp 4), 29, "ref.go:47", #[], none⟩) (v := .agg (([.int .i64 kd, .int .i64 o0, .int .i64 o1, .int .i64 o2, .int .i64 o3, .int .i64 o4, .int .i64 o5, .int .u32 wa, .int .u32 to, .slice A n c, .slice B m d] : List Value)).toArray) rfl (by kernel_rfl) (by kernel_rfl) (by kernel_rfl) (fun _ _ _ h => h) (yieldsIf_load_mid (by rfl) _ _ (by rfl) (q) (0) (by rfl) _ _ (fun wv hS => blk_rngl hS.out.1) Try.underlying29 (by rfl) (by kernel_rfl)) hS ?_
    try simp only [Act.put, List.setIfInBounds_toArray, List.set_cons_zero, List.set_cons_succ]
    refine wpAnyH_take (i := 1) (oi := ⟨some 53, .load 31 (.tmp 5), 31, "ref.go:47", #[⟨3, .gcOnly .lateStores⟩], none⟩) (v := .agg (([.int .i64 op, .int .i64 stage, .int .i64 2, .int .i64 o0, .int .i64 since, .int .i64 left, .bool awoke, .bool starve, .int .i64 need, .bool front] : List Value)).toArray) rfl (by kernel_rfl) (by kernel_rfl) (by kernel_rfl) (fun _ _ _ h => h) (yieldsIf_load_mid (by rfl) _ _ (by rfl) (q + 1) (0) (by rfl) _ _ (fun wv hS => blk_rngl hS.out.2) Try.underlying31 (by rfl) (by kernel_rfl)) hS ?_
    try simp only [Act.put, List.setIfInBounds_toArray, List.set_cons_zero, List.set_cons_succ]
    refine wpAnyH_take (i := 2) (oi := ⟨some 54, .build 38 #[], 38, "ref.go:47", #[⟨4, .gcOnly .lateStores⟩], none⟩) (v := ?_) rfl (by kernel_rfl) (by kernel_rfl) (by kernel_rfl) (fun _ _ _ h => h) (Or.inl ⟨by rfl, ?_⟩) hS ?_
    rotate_left
    · intro wv _; go_simp; try with_reducible rfl
    try simp only [Act.put, List.setIfInBounds_toArray, List.set_cons_zero, List.set_cons_succ]
    refine wpAnyH_ready (rs := [3]) (by kernel_rfl) (by simp) (AllReadyH.cons (o := ⟨none, .store 29 (.tmp 8) (.tmp 52), 0, "ref.go:47", #[⟨0, .data⟩, ⟨0, .phase⟩, ⟨1, .textOnly .lateStores⟩, ⟨2, .textOnly .lateStores⟩], none⟩) rfl (fun K hK => ?_) AllReadyH.nil)
    refine op_storeS (by rfl) rfl rfl rfl (there_blk (HF0.out.blk 2 _ rfl) rfl) (by kernel_rfl) (by simp [Value.oneCell']) hh1.out ?_
    replace hS := Lib.hid (And.intro (HF1.out.blk 0 _ rfl) (HF1.out.blk 1 _ rfl))
    refine Shut.out hK _ _ hS (fun _ => ?_)
    clear hK K
    try simp only [Act.put, List.setIfInBounds_toArray, List.set_cons_zero, List.set_cons_succ]
    refine wpAnyH_ready (rs := [4]) (by kernel_rfl) (by simp) (AllReadyH.cons (o := ⟨none, .store 31 (.tmp 9) (.tmp 53), 0, "ref.go:47", #[⟨1, .data⟩, ⟨3, .chain⟩, ⟨0, .phase⟩, ⟨1, .phase⟩, ⟨2, .textOnly .lateStores⟩, ⟨3, .phase⟩], none⟩) rfl (fun K hK => ?_) AllReadyH.nil)
    refine op_storeS (by rfl) rfl rfl rfl (there_blk (HF1.out.blk 3 _ rfl) rfl) (by kernel_rfl) (by simp [Value.oneCell']) hh2.out ?_
    replace hS := Lib.hid (And.intro (HF2.out.blk 0 _ rfl) (HF2.out.blk 1 _ rfl))
    refine Shut.out hK _ _ hS (fun _ => ?_)
    clear hK K
    try simp only [Act.put, List.setIfInBounds_toArray, List.set_cons_zero, List.set_cons_succ]
    refine wpAnyH_ready (rs := [5]) (by kernel_rfl) (by simp) (AllReadyH.cons (o := ⟨none, .store 38 (.tmp 10) (.tmp 54), 0, "ref.go:47", #[⟨2, .data⟩, ⟨4, .chain⟩, ⟨0, .phase⟩, ⟨1, .phase⟩, ⟨2, .phase⟩, ⟨3, .phase⟩, ⟨4, .phase⟩], none⟩) rfl (fun K hK => ?_) AllReadyH.nil)
    refine op_storeS (by rfl) rfl rfl rfl (there_blk (HF2.out.blk 4 _ rfl) rfl) (by kernel_rfl) (by simp [Value.oneCell']) hh3.out ?_
    replace hS := Lib.hid (And.intro (HF3.out.blk 0 _ rfl) (HF3.out.blk 1 _ rfl))
    refine Shut.out hK _ _ hS (fun _ => ?_)
    clear hK K
    try simp only [Act.put, List.setIfInBounds_toArray, List.set_cons_zero, List.set_cons_succ]
    refine wpAnyH_done (by kernel_rfl) ?_ _
    refine NoPanic.normal ?_
    go_wp2
    refine bodyPost_ret (res_ccc Try.results34 (by rfl) (by rfl) (by rfl) (HF3.out.load 2 rfl rfl Try.underlying29 (by kernel_rfl)) (HF3.out.load 3 rfl rfl Try.underlying31 (by kernel_rfl)) (HF3.out.load 4 rfl rfl Try.underlying38 (by kernel_rfl))) rfl ?_
    replace FR := HF3
    rw [HE.out]
    exact ⟨rfl, FR.out.out⟩
  have n1 : (phase == 1) = false := by simp [p1]
  by_cases p2 : phase = 2
  · subst p2
    by_cases h0 : o0 = old
    rotate_left
    · have b0 : (o0 != old) = true := by simp [h0]
      have HE := Lib.hid (show lockM o0 ⟨op, stage, 2, old, since, left, awoke, starve, need, front⟩ now pat = (o0, ⟨op, stage, 1, old, since, left, awoke, starve, need, front⟩, noA) from by
        unfold lockM
        rw [if_neg (fun h => absurd (show (2 : Int) = 0 from h.1) (by decide)), if_pos (Or.inr ⟨rfl, h0⟩)])
      clear h0 p0 p1 n0 n1
      go_enter Try.func34, Try.ntmps34
      have ac0 := row11 (b := q) (FR.out.at 0 rfl rfl)
      have ac1 := row10 (b := q + 1) (FR.out.at 1 rfl rfl)
      have af12 : v5.frozen? ⟨q + 1, 2, none⟩ = false := FR.out.frozen 1 2 rfl rfl
      obtain ⟨w6p, hw6p⟩ : ∃ W, (v5.setCell ⟨q + 1, 2, none⟩ (.int .i64 1)) = W := ⟨_, rfl⟩
      replace FR := Lib.hid (((FR.out.set 1 2 rfl rfl (.int .i64 1))).eqw hw6p)
      have bc0 := row11 (b := q) (FR.out.at 0 rfl rfl)
      have bc1 := row10 (b := q + 1) (FR.out.at 1 rfl rfl)
      go_wp2
      clear ac0 ac1 af12 bc0 bc1
      have HF0 := Lib.hid FR.out.drew
      obtain ⟨w7r, hw7r⟩ : ∃ W, w6p.drew.setCells (q + 2) 0 [.int .i64 kd, .int .i64 o0, .int .i64 o1, .int .i64 o2, .int .i64 o3, .int .i64 o4, .int .i64 o5, .int .u32 wa, .int .u32 to, .slice A n c, .slice B m d] = W := ⟨_, rfl⟩
      have HF1 := Lib.hid ((HF0.out.all 2 rfl rfl (by rfl)).eqw hw7r)
      have hh1 := Lib.hid hw7r
      clear hw7r
      obtain ⟨w8r, hw8r⟩ : ∃ W, w7r.setCells (q + 3) 0 [.int .i64 op, .int .i64 stage, .int .i64 1, .int .i64 old, .int .i64 since, .int .i64 left, .bool awoke, .bool starve, .int .i64 need, .bool front] = W := ⟨_, rfl⟩
      have HF2 := Lib.hid ((HF1.out.all 3 rfl rfl (by rfl)).eqw hw8r)
      have hh2 := Lib.hid hw8r
      clear hw8r
      obtain ⟨w9r, hw9r⟩ : ∃ W, w8r.setCells (q + 4) 0 [.bool false, .bool false, .bool false, .int .i64 0, .int .i64 0, .int .u64 0, .slice none 0 0] = W := ⟨_, rfl⟩
      have HF3 := Lib.hid ((HF2.out.all 4 rfl rfl (by rfl)).eqw hw9r)
      have hh3 := Lib.hid hw9r
      clear hw9r
      refine wp_region_noPanic ?_
      refine wp_region_held_drew (S := (fun wv => Hid (wv.heap[q]? = some (.cells #[.int .i64 kd, .int .i64 o0, .int .i64 o1, .int .i64 o2, .int .i64 o3, .int .i64 o4, .int .i64 o5, .int .u32 wa, .int .u32 to, .slice A n c, .slice B m d] 29) ∧ wv.heap[q + 1]? = some (.cells #[.int .i64 op, .int .i64 stage, .int .i64 1, .int .i64 old, .int .i64 since, .int .i64 left, .bool awoke, .bool starve, .int .i64 need, .bool front] 31)))) (by kernel_rfl) (Lib.hid (And.intro (HF0.out.blk 0 _ rfl) (HF0.out.blk 1 _ rfl))) (fun hS => ?_)
      refine wpAnyH_take (i := 0) (oi := ⟨some 43, .load 29 (.tmp 4), 29, "ref.go:43", #[], none⟩) (v := .agg (([.int .i64 kd, .int .i64 o0, .int .i64 o1, .int .i64 o2, .int .i64 o3, .int .i64 o4, .int .i64 o5, .int .u32 wa, .int .u32 to, .slice A n c, .slice B m d] : List Value)).toArray) rfl (by kernel_rfl) (by kernel_rfl) (by kernel_rfl) (fun _ _ _ h => h) (yieldsIf_load_mid (by rfl) _ _ (by rfl) (q) (0) (by rfl) _ _ (fun wv hS => blk_rngl hS.out.1) Try.underlying29 (by rfl) (by kernel_rfl)) hS ?_
      try simp only [Act.put, List.setIfInBounds_toArray, List.set_cons_zero, List.set_cons_succ]
      refine wpAnyH_take (i := 1) (oi := ⟨some 44, .load 31 (.tmp 5), 31, "ref.go:43", #[⟨3, .gcOnly .lateStores⟩], none⟩) (v := .agg (([.int .i64 op, .int .i64 stage, .int .i64 1, .int .i64 old, .int .i64 since, .int .i64 left, .bool awoke, .bool starve, .int .i64 need, .bool front] : List Value)).toArray) rfl (by kernel_rfl) (by kernel_rfl) (by kernel_rfl) (fun _ _ _ h => h) (yieldsIf_load_mid (by rfl) _ _ (by rfl) (q + 1) (0) (by rfl) _ _ (fun wv hS => blk_rngl hS.out.2) Try.underlying31 (by rfl) (by kernel_rfl)) hS ?_
      try simp only [Act.put, List.setIfInBounds_toArray, List.set_cons_zero, List.set_cons_succ]
      refine wpAnyH_take (i := 2) (oi := ⟨some 45, .build 38 #[], 38, "ref.go:43", #[⟨4, .gcOnly .lateStores⟩], none⟩) (v := ?_) rfl (by kernel_rfl) (by kernel_rfl) (by kernel_rfl) (fun _ _ _ h => h) (Or.inl ⟨by rfl, ?_⟩) hS ?_
      rotate_left
      · intro wv _; go_simp; try with_reducible rfl
      try simp only [Act.put, List.setIfInBounds_toArray, List.set_cons_zero, List.set_cons_succ]
      refine wpAnyH_ready (rs := [3]) (by kernel_rfl) (by simp) (AllReadyH.cons (o := ⟨none, .store 29 (.tmp 8) (.tmp 43), 0, "ref.go:43", #[⟨0, .data⟩, ⟨0, .phase⟩, ⟨1, .textOnly .lateStores⟩, ⟨2, .textOnly .lateStores⟩], none⟩) rfl (fun K hK => ?_) AllReadyH.nil)
      refine op_storeS (by rfl) rfl rfl rfl (there_blk (HF0.out.blk 2 _ rfl) rfl) (by kernel_rfl) (by simp [Value.oneCell']) hh1.out ?_
      replace hS := Lib.hid (And.intro (HF1.out.blk 0 _ rfl) (HF1.out.blk 1 _ rfl))
      refine Shut.out hK _ _ hS (fun _ => ?_)
      clear hK K
      try simp only [Act.put, List.setIfInBounds_toArray, List.set_cons_zero, List.set_cons_succ]
      refine wpAnyH_ready (rs := [4]) (by kernel_rfl) (by simp) (AllReadyH.cons (o := ⟨none, .store 31 (.tmp 9) (.tmp 44), 0, "ref.go:43", #[⟨1, .data⟩, ⟨3, .chain⟩, ⟨0, .phase⟩, ⟨1, .phase⟩, ⟨2, .textOnly .lateStores⟩, ⟨3, .phase⟩], none⟩) rfl (fun K hK => ?_) AllReadyH.nil)
      refine op_storeS (by rfl) rfl rfl rfl (there_blk (HF1.out.blk 3 _ rfl) rfl) (by kernel_rfl) (by simp [Value.oneCell']) hh2.out ?_
      replace hS := Lib.hid (And.intro (HF2.out.blk 0 _ rfl) (HF2.out.blk 1 _ rfl))
      refine Shut.out hK _ _ hS (fun _ => ?_)
      clear hK K
      try simp only [Act.put, List.setIfInBounds_toArray, List.set_cons_zero, List.set_cons_succ]
      refine wpAnyH_ready (rs := [5]) (by kernel_rfl) (by simp) (AllReadyH.cons (o := ⟨none, .store 38 (.tmp 10) (.tmp 45), 0, "ref.go:43", #[⟨2, .data⟩, ⟨4, .chain⟩, ⟨0, .phase⟩, ⟨1, .phase⟩, ⟨2, .phase⟩, ⟨3, .phase⟩, ⟨4, .phase⟩], none⟩) rfl (fun K hK => ?_) AllReadyH.nil)
      refine op_storeS (by rfl) rfl rfl rfl (there_blk (HF2.out.blk 4 _ rfl) rfl) (by kernel_rfl) (by simp [Value.oneCell']) hh3.out ?_
      replace hS := Lib.hid (And.intro (HF3.out.blk 0 _ rfl) (HF3.out.blk 1 _ rfl))
      refine Shut.out hK _ _ hS (fun _ => ?_)
      clear hK K
      try simp only [Act.put, List.setIfInBounds_toArray, List.set_cons_zero, List.set_cons_succ]
      refine wpAnyH_done (by kernel_rfl) ?_ _
      refine NoPanic.normal ?_
      go_wp2
      refine bodyPost_ret (res_ccc Try.results34 (by rfl) (by rfl) (by rfl) (HF3.out.load 2 rfl rfl Try.underlying29 (by kernel_rfl)) (HF3.out.load 3 rfl rfl Try.underlying31 (by kernel_rfl)) (HF3.out.load 4 rfl rfl Try.underlying38 (by kernel_rfl))) rfl ?_
      replace FR := HF3
      rw [HE.out]
      exact ⟨rfl, FR.out.out⟩
    have b0 : (o0 != old) = false := by simp [h0]
    have HO : lockM o0 ⟨op, stage, 2, old, since, left, awoke, starve, need, front⟩ now pat = (if ¬ hasBit old 0 ∧ ¬ hasBit old 2 then (stateM ⟨op, stage, 2, old, since, left, awoke, starve, need, front⟩, noF, doneA) else (stateM ⟨op, stage, 2, old, since, left, awoke, starve, need, front⟩, ⟨op, stage, 3, old, if since < 0 then now else since, left, awoke, starve, 2, decide (0 ≤ since)⟩, noA)) := by
      unfold lockM
      rw [if_neg (fun h => absurd (show (2 : Int) = 0 from h.1) (by decide)), if_neg (fun h => by rcases h with h | h; exact absurd (show (2 : Int) = 0 from h) (by decide); exact h.2 h0), if_neg (fun h => absurd (show (2 : Int) = 1 from h) (by decide)), if_pos rfl]
    have ST := fun (W : World) => state15_any ⟨op, stage, 2, old, since, left, awoke, starve, need, front⟩ W
    obtain ⟨z, hz⟩ : ∃ z, stateM ⟨op, stage, 2, old, since, left, awoke, starve, need, front⟩ = z := ⟨_, rfl⟩
    rw [hz] at ST HO
    unfold frV frC at ST
    simp only at ST
    replace ST := Lib.hid ST
    have B0 := fun (W : World) => bit15_any old 0 (by omega) W
    have B2 := fun (W : World) => bit15_any old 2 (by omega) W
    clear hz p0 p1 n0 n1 h0
    cases hb0 : decide (hasBit old 0)
    · rw [hb0] at B0
      replace B0 := Lib.hid B0
      cases hb2 : decide (hasBit old 2)
      · rw [hb2] at B2
        replace B2 := Lib.hid B2
        have HE := Lib.hid (show lockM o0 ⟨op, stage, 2, old, since, left, awoke, starve, need, front⟩ now pat = (z, noF, doneA) from HO.trans (if_pos ⟨of_decide_eq_false hb0, of_decide_eq_false hb2⟩))
        clear HO hb0 hb2
        go_enter Try.func34, Try.ntmps34
        have ac0 := row11 (b := q) (FR.out.at 0 rfl rfl)
        have ac1 := row10 (b := q + 1) (FR.out.at 1 rfl rfl)
        go_wp2_with fail
        refine (ST.out _).mono ?_
        rintro e ws ⟨rfl, hb⟩
        clear ac0 ac1
        replace FR := Lib.hid (FR.out.step hb)
        clear hb hv1 hv2 hv3 hv4 hv5 z1 z2 z3 z4 z5
        have ac0 := row11 (b := q) (FR.out.at 0 rfl rfl)
        have af01 : ws.frozen? ⟨q, 1, none⟩ = false := FR.out.frozen 0 1 rfl rfl
        have ac1 := row10 (b := q + 1) (FR.out.at 1 rfl rfl)
        obtain ⟨w6p, hw6p⟩ : ∃ W, (ws.setCell ⟨q, 1, none⟩ (.int .i64 z)) = W := ⟨_, rfl⟩
        replace FR := Lib.hid (((FR.out.set 0 1 rfl rfl (.int .i64 z))).eqw hw6p)
        have bc0 := row11 (b := q) (FR.out.at 0 rfl rfl)
        have bc1 := row10 (b := q + 1) (FR.out.at 1 rfl rfl)
        go_wp2_with fail
        refine (B0.out _).mono ?_
        rintro e wz ⟨rfl, hw⟩
        obtain rfl := hw.symm
        go_wp2_with fail
        refine (B2.out _).mono ?_
        rintro e wz ⟨rfl, hw⟩
        obtain rfl := hw.symm
        clear ac0 af01 ac1 bc0 bc1
        have ac0 := row11 (b := q) (FR.out.at 0 rfl rfl)
        obtain ⟨mw7r, w7r, hw7r, hse, F⟩ := FR.out.put11 2 rfl (b := q + 2) rfl (.int .i64 kd) (.int .i64 z) (.int .i64 o1) (.int .i64 o2) (.int .i64 o3) (.int .i64 o4) (.int .i64 o5) (.int .u32 wa) (.int .u32 to) (.slice A n c) (.slice B m d)
        replace FR := F
        clear F hse
        obtain ⟨mw8r, w8r, hw8r, hse, F⟩ := FR.out.put10 3 rfl (b := q + 3) rfl (.int .i64 0) (.int .i64 0) (.int .i64 0) (.int .i64 0) (.int .i64 0) (.int .i64 0) (.bool false) (.bool false) (.int .i64 0) (.bool false)
        replace FR := F
        clear F hse
        obtain ⟨mw9r, w9r, hw9r, hse, F⟩ := FR.out.put7 4 rfl (b := q + 4) rfl (.bool true) (.bool false) (.bool false) (.int .i64 0) (.int .i64 0) (.int .u64 0) (.slice none 0 0)
        replace FR := F
        clear F hse
        go_wp2
        refine bodyPost_ret (res_ccc Try.results34 (by rfl) (by rfl) (by rfl) (FR.out.load 2 rfl rfl Try.underlying29 (by kernel_rfl)) (FR.out.load 3 rfl rfl Try.underlying31 (by kernel_rfl)) (FR.out.load 4 rfl rfl Try.underlying38 (by kernel_rfl))) rfl ?_
        rw [HE.out]
        exact ⟨rfl, FR.out.out⟩
      · rw [hb2] at B2
        replace B2 := Lib.hid B2
        by_cases hsn : 0 ≤ since
        · have s0 : decide (0 ≤ since) = true := by simpa using hsn
          have s1 : decide (since < 0) = false := by simp; omega
          have HE := Lib.hid (show lockM o0 ⟨op, stage, 2, old, since, left, awoke, starve, need, front⟩ now pat = (z, ⟨op, stage, 3, old, since, left, awoke, starve, 2, true⟩, noA) from HO.trans ((if_neg (fun h => h.2 (of_decide_eq_true hb2))).trans (by rw [s0, if_neg (by omega)])))
          clear HO hsn hb0 hb2
          go_enter Try.func34, Try.ntmps34
          have ac0 := row11 (b := q) (FR.out.at 0 rfl rfl)
          have ac1 := row10 (b := q + 1) (FR.out.at 1 rfl rfl)
          go_wp2_with fail
          refine (ST.out _).mono ?_
          rintro e ws ⟨rfl, hb⟩
          clear ac0 ac1
          replace FR := Lib.hid (FR.out.step hb)
          clear hb hv1 hv2 hv3 hv4 hv5 z1 z2 z3 z4 z5
          have ac0 := row11 (b := q) (FR.out.at 0 rfl rfl)
          have af01 : ws.frozen? ⟨q, 1, none⟩ = false := FR.out.frozen 0 1 rfl rfl
          have ac1 := row10 (b := q + 1) (FR.out.at 1 rfl rfl)
          obtain ⟨w6p, hw6p⟩ : ∃ W, (ws.setCell ⟨q, 1, none⟩ (.int .i64 z)) = W := ⟨_, rfl⟩
          replace FR := Lib.hid (((FR.out.set 0 1 rfl rfl (.int .i64 z))).eqw hw6p)
          have bc0 := row11 (b := q) (FR.out.at 0 rfl rfl)
          have bc1 := row10 (b := q + 1) (FR.out.at 1 rfl rfl)
          go_wp2_with fail
          refine (B0.out _).mono ?_
          rintro e wz ⟨rfl, hw⟩
          obtain rfl := hw.symm
          go_wp2_with fail
          refine (B2.out _).mono ?_
          rintro e wz ⟨rfl, hw⟩
          obtain rfl := hw.symm
          clear ac0 af01 ac1 bc0 bc1
          have ac0 := row11 (b := q) (FR.out.at 0 rfl rfl)
          have ac1 := row10 (b := q + 1) (FR.out.at 1 rfl rfl)
          have af12 : w6p.frozen? ⟨q + 1, 2, none⟩ = false := FR.out.frozen 1 2 rfl rfl
          have af18 : w6p.frozen? ⟨q + 1, 8, none⟩ = false := FR.out.frozen 1 8 rfl rfl
          have af19 : w6p.frozen? ⟨q + 1, 9, none⟩ = false := FR.out.frozen 1 9 rfl rfl
          obtain ⟨w7p, hw7p⟩ : ∃ W, (((w6p.setCell ⟨q + 1, 9, none⟩ (.bool true)).setCell ⟨q + 1, 8, none⟩ (.int .i64 2)).setCell ⟨q + 1, 2, none⟩ (.int .i64 3)) = W := ⟨_, rfl⟩
          replace FR := Lib.hid (((((FR.out.set 1 9 rfl rfl (.bool true)).set 1 8 rfl rfl (.int .i64 2)).set 1 2 rfl rfl (.int .i64 3))).eqw hw7p)
          have bc0 := row11 (b := q) (FR.out.at 0 rfl rfl)
          have bc1 := row10 (b := q + 1) (FR.out.at 1 rfl rfl)
          go_wp2
          clear ac0 ac1 af12 af18 af19 bc0 bc1
          have HF0 := Lib.hid FR.out.drew
          obtain ⟨w8r, hw8r⟩ : ∃ W, w7p.drew.setCells (q + 2) 0 [.int .i64 kd, .int .i64 z, .int .i64 o1, .int .i64 o2, .int .i64 o3, .int .i64 o4, .int .i64 o5, .int .u32 wa, .int .u32 to, .slice A n c, .slice B m d] = W := ⟨_, rfl⟩
          have HF1 := Lib.hid ((HF0.out.all 2 rfl rfl (by rfl)).eqw hw8r)
          have hh1 := Lib.hid hw8r
          clear hw8r
          obtain ⟨w9r, hw9r⟩ : ∃ W, w8r.setCells (q + 3) 0 [.int .i64 op, .int .i64 stage, .int .i64 3, .int .i64 old, .int .i64 since, .int .i64 left, .bool awoke, .bool starve, .int .i64 2, .bool true] = W := ⟨_, rfl⟩
          have HF2 := Lib.hid ((HF1.out.all 3 rfl rfl (by rfl)).eqw hw9r)
          have hh2 := Lib.hid hw9r
          clear hw9r
          obtain ⟨w10r, hw10r⟩ : ∃ W, w9r.setCells (q + 4) 0 [.bool false, .bool false, .bool false, .int .i64 0, .int .i64 0, .int .u64 0, .slice none 0 0] = W := ⟨_, rfl⟩
          have HF3 := Lib.hid ((HF2.out.all 4 rfl rfl (by rfl)).eqw hw10r)
          have hh3 := Lib.hid hw10r
          clear hw10r
          refine wp_region_noPanic ?_
          refine wp_region_held_drew (S := (fun wv => Hid (wv.heap[q]? = some (.cells #[.int .i64 kd, .int .i64 z, .int .i64 o1, .int .i64 o2, .int .i64 o3, .int .i64 o4, .int .i64 o5, .int .u32 wa, .int .u32 to, .slice A n c, .slice B m d] 29) ∧ wv.heap[q + 1]? = some (.cells #[.int .i64 op, .int .i64 stage, .int .i64 3, .int .i64 old, .int .i64 since, .int .i64 left, .bool awoke, .bool starve, .int .i64 2, .bool true] 31)))) (by kernel_rfl) (Lib.hid (And.intro (HF0.out.blk 0 _ rfl) (HF0.out.blk 1 _ rfl))) (fun hS => ?_)
          refine wpAnyH_take (i := 0) (oi := ⟨some 86, .load 29 (.tmp 4), 29, "ref.go:59", #[], none⟩) (v := .agg (([.int .i64 kd, .int .i64 z, .int .i64 o1, .int .i64 o2, .int .i64 o3, .int .i64 o4, .int .i64 o5, .int .u32 wa, .int .u32 to, .slice A n c, .slice B m d] : List Value)).toArray) rfl (by kernel_rfl) (by kernel_rfl) (by kernel_rfl) (fun _ _ _ h => h) (yieldsIf_load_mid (by rfl) _ _ (by rfl) (q) (0) (by rfl) _ _ (fun wv hS => blk_rngl hS.out.1) Try.underlying29 (by rfl) (by kernel_rfl)) hS ?_
          try simp only [Act.put, List.setIfInBounds_toArray, List.set_cons_zero, List.set_cons_succ]
          refine wpAnyH_take (i := 1) (oi := ⟨some 87, .load 31 (.tmp 5), 31, "ref.go:59", #[⟨3, .gcOnly .lateStores⟩], none⟩) (v := .agg (([.int .i64 op, .int .i64 stage, .int .i64 3, .int .i64 old, .int .i64 since, .int .i64 left, .bool awoke, .bool starve, .int .i64 2, .bool true] : List Value)).toArray) rfl (by kernel_rfl) (by kernel_rfl) (by kernel_rfl) (fun _ _ _ h => h) (yieldsIf_load_mid (by rfl) _ _ (by rfl) (q + 1) (0) (by rfl) _ _ (fun wv hS => blk_rngl hS.out.2) Try.underlying31 (by rfl) (by kernel_rfl)) hS ?_
          try simp only [Act.put, List.setIfInBounds_toArray, List.set_cons_zero, List.set_cons_succ]
          refine wpAnyH_take (i := 2) (oi := ⟨some 88, .build 38 #[], 38, "ref.go:59", #[⟨4, .gcOnly .lateStores⟩], none⟩) (v := ?_) rfl (by kernel_rfl) (by kernel_rfl) (by kernel_rfl) (fun _ _ _ h => h) (Or.inl ⟨by rfl, ?_⟩) hS ?_
          rotate_left
          · intro wv _; go_simp; try with_reducible rfl
          try simp only [Act.put, List.setIfInBounds_toArray, List.set_cons_zero, List.set_cons_succ]
          refine wpAnyH_ready (rs := [3]) (by kernel_rfl) (by simp) (AllReadyH.cons (o := ⟨none, .store 29 (.tmp 8) (.tmp 86), 0, "ref.go:59", #[⟨0, .data⟩, ⟨0, .phase⟩, ⟨1, .textOnly .lateStores⟩, ⟨2, .textOnly .lateStores⟩], none⟩) rfl (fun K hK => ?_) AllReadyH.nil)
          refine op_storeS (by rfl) rfl rfl rfl (there_blk (HF0.out.blk 2 _ rfl) rfl) (by kernel_rfl) (by simp [Value.oneCell']) hh1.out ?_
          replace hS := Lib.hid (And.intro (HF1.out.blk 0 _ rfl) (HF1.out.blk 1 _ rfl))
          refine Shut.out hK _ _ hS (fun _ => ?_)
          clear hK K
          try simp only [Act.put, List.setIfInBounds_toArray, List.set_cons_zero, List.set_cons_succ]
          refine wpAnyH_ready (rs := [4]) (by kernel_rfl) (by simp) (AllReadyH.cons (o := ⟨none, .store 31 (.tmp 9) (.tmp 87), 0, "ref.go:59", #[⟨1, .data⟩, ⟨3, .chain⟩, ⟨0, .phase⟩, ⟨1, .phase⟩, ⟨2, .textOnly .lateStores⟩, ⟨3, .phase⟩], none⟩) rfl (fun K hK => ?_) AllReadyH.nil)
          refine op_storeS (by rfl) rfl rfl rfl (there_blk (HF1.out.blk 3 _ rfl) rfl) (by kernel_rfl) (by simp [Value.oneCell']) hh2.out ?_
          replace hS := Lib.hid (And.intro (HF2.out.blk 0 _ rfl) (HF2.out.blk 1 _ rfl))
          refine Shut.out hK _ _ hS (fun _ => ?_)
          clear hK K
          try simp only [Act.put, List.setIfInBounds_toArray, List.set_cons_zero, List.set_cons_succ]
          refine wpAnyH_ready (rs := [5]) (by kernel_rfl) (by simp) (AllReadyH.cons (o := ⟨none, .store 38 (.tmp 10) (.tmp 88), 0, "ref.go:59", #[⟨2, .data⟩, ⟨4, .chain⟩, ⟨0, .phase⟩, ⟨1, .phase⟩, ⟨2, .phase⟩, ⟨3, .phase⟩, ⟨4, .phase⟩], none⟩) rfl (fun K hK => ?_) AllReadyH.nil)
          refine op_storeS (by rfl) rfl rfl rfl (there_blk (HF2.out.blk 4 _ rfl) rfl) (by kernel_rfl) (by simp [Value.oneCell']) hh3.out ?_
          replace hS := Lib.hid (And.intro (HF3.out.blk 0 _ rfl) (HF3.out.blk 1 _ rfl))
          refine Shut.out hK _ _ hS (fun _ => ?_)
          clear hK K
          try simp only [Act.put, List.setIfInBounds_toArray, List.set_cons_zero, List.set_cons_succ]
          refine wpAnyH_done (by kernel_rfl) ?_ _
          refine NoPanic.normal ?_
          go_wp2
          refine bodyPost_ret (res_ccc Try.results34 (by rfl) (by rfl) (by rfl) (HF3.out.load 2 rfl rfl Try.underlying29 (by kernel_rfl)) (HF3.out.load 3 rfl rfl Try.underlying31 (by kernel_rfl)) (HF3.out.load 4 rfl rfl Try.underlying38 (by kernel_rfl))) rfl ?_
          replace FR := HF3
          rw [HE.out]
          exact ⟨rfl, FR.out.out⟩
        · have s0 : decide (0 ≤ since) = false := by simp; omega
          have s1 : decide (since < 0) = true := by simp; omega
          have HE := Lib.hid (show lockM o0 ⟨op, stage, 2, old, since, left, awoke, starve, need, front⟩ now pat = (z, ⟨op, stage, 3, old, now, left, awoke, starve, 2, false⟩, noA) from HO.trans ((if_neg (fun h => h.2 (of_decide_eq_true hb2))).trans (by rw [s0, if_pos (by omega)])))
          clear HO hsn hb0 hb2
          go_enter Try.func34, Try.ntmps34
          have ac0 := row11 (b := q) (FR.out.at 0 rfl rfl)
          have ac1 := row10 (b := q + 1) (FR.out.at 1 rfl rfl)
          go_wp2_with fail
          refine (ST.out _).mono ?_
          rintro e ws ⟨rfl, hb⟩
          clear ac0 ac1
          replace FR := Lib.hid (FR.out.step hb)
          clear hb hv1 hv2 hv3 hv4 hv5 z1 z2 z3 z4 z5
          have ac0 := row11 (b := q) (FR.out.at 0 rfl rfl)
          have af01 : ws.frozen? ⟨q, 1, none⟩ = false := FR.out.frozen 0 1 rfl rfl
          have ac1 := row10 (b := q + 1) (FR.out.at 1 rfl rfl)
          obtain ⟨w6p, hw6p⟩ : ∃ W, (ws.setCell ⟨q, 1, none⟩ (.int .i64 z)) = W := ⟨_, rfl⟩
          replace FR := Lib.hid (((FR.out.set 0 1 rfl rfl (.int .i64 z))).eqw hw6p)
          have bc0 := row11 (b := q) (FR.out.at 0 rfl rfl)
          have bc1 := row10 (b := q + 1) (FR.out.at 1 rfl rfl)
          go_wp2_with fail
          refine (B0.out _).mono ?_
          rintro e wz ⟨rfl, hw⟩
          obtain rfl := hw.symm
          go_wp2_with fail
          refine (B2.out _).mono ?_
          rintro e wz ⟨rfl, hw⟩
          obtain rfl := hw.symm
          clear ac0 af01 ac1 bc0 bc1
          have ac0 := row11 (b := q) (FR.out.at 0 rfl rfl)
          have ac1 := row10 (b := q + 1) (FR.out.at 1 rfl rfl)
          have af12 : w6p.frozen? ⟨q + 1, 2, none⟩ = false := FR.out.frozen 1 2 rfl rfl
          have af14 : w6p.frozen? ⟨q + 1, 4, none⟩ = false := FR.out.frozen 1 4 rfl rfl
          have af18 : w6p.frozen? ⟨q + 1, 8, none⟩ = false := FR.out.frozen 1 8 rfl rfl
          have af19 : w6p.frozen? ⟨q + 1, 9, none⟩ = false := FR.out.frozen 1 9 rfl rfl
          obtain ⟨w7p, hw7p⟩ : ∃ W, ((((w6p.setCell ⟨q + 1, 9, none⟩ (.bool false)).setCell ⟨q + 1, 4, none⟩ (.int .i64 now)).setCell ⟨q + 1, 8, none⟩ (.int .i64 2)).setCell ⟨q + 1, 2, none⟩ (.int .i64 3)) = W := ⟨_, rfl⟩
          replace FR := Lib.hid ((((((FR.out.set 1 9 rfl rfl (.bool false)).set 1 4 rfl rfl (.int .i64 now)).set 1 8 rfl rfl (.int .i64 2)).set 1 2 rfl rfl (.int .i64 3))).eqw hw7p)
          have bc0 := row11 (b := q) (FR.out.at 0 rfl rfl)
          have bc1 := row10 (b := q + 1) (FR.out.at 1 rfl rfl)
          go_wp2
          clear ac0 ac1 af12 af14 af18 af19 bc0 bc1
          have HF0 := Lib.hid FR.out.drew
          obtain ⟨w8r, hw8r⟩ : ∃ W, w7p.drew.setCells (q + 2) 0 [.int .i64 kd, .int .i64 z, .int .i64 o1, .int .i64 o2, .int .i64 o3, .int .i64 o4, .int .i64 o5, .int .u32 wa, .int .u32 to, .slice A n c, .slice B m d] = W := ⟨_, rfl⟩
          have HF1 := Lib.hid ((HF0.out.all 2 rfl rfl (by rfl)).eqw hw8r)
          have hh1 := Lib.hid hw8r
          clear hw8r
          obtain ⟨w9r, hw9r⟩ : ∃ W, w8r.setCells (q + 3) 0 [.int .i64 op, .int .i64 stage, .int .i64 3, .int .i64 old, .int .i64 now, .int .i64 left, .bool awoke, .bool starve, .int .i64 2, .bool false] = W := ⟨_, rfl⟩
          have HF2 := Lib.hid ((HF1.out.all 3 rfl rfl (by rfl)).eqw hw9r)
          have hh2 := Lib.hid hw9r
          clear hw9r
          obtain ⟨w10r, hw10r⟩ : ∃ W, w9r.setCells (q + 4) 0 [.bool false, .bool false, .bool false, .int .i64 0, .int .i64 0, .int .u64 0, .slice none 0 0] = W := ⟨_, rfl⟩
          have HF3 := Lib.hid ((HF2.out.all 4 rfl rfl (by rfl)).eqw hw10r)
          have hh3 := Lib.hid hw10r
          clear hw10r
          refine wp_region_noPanic ?_
          refine wp_region_held_drew (S := (fun wv => Hid (wv.heap[q]? = some (.cells #[.int .i64 kd, .int .i64 z, .int .i64 o1, .int .i64 o2, .int .i64 o3, .int .i64 o4, .int .i64 o5, .int .u32 wa, .int .u32 to, .slice A n c, .slice B m d] 29) ∧ wv.heap[q + 1]? = some (.cells #[.int .i64 op, .int .i64 stage, .int .i64 3, .int .i64 old, .int .i64 now, .int .i64 left, .bool awoke, .bool starve, .int .i64 2, .bool false] 31)))) (by kernel_rfl) (Lib.hid (And.intro (HF0.out.blk 0 _ rfl) (HF0.out.blk 1 _ rfl))) (fun hS => ?_)
          refine wpAnyH_take (i := 0) (oi := ⟨some 86, .load 29 (.tmp 4), 29, "ref.go:59", #[], none⟩) (v := .agg (([.int .i64 kd, .int .i64 z, .int .i64 o1, .int .i64 o2, .int .i64 o3, .int .i64 o4, .int .i64 o5, .int .u32 wa, .int .u32 to, .slice A n c, .slice B m d] : List Value)).toArray) rfl (by kernel_rfl) (by kernel_rfl) (by kernel_rfl) (fun _ _ _ h => h) (yieldsIf_load_mid (by rfl) _ _ (by rfl) (q) (0) (by rfl) _ _ (fun wv hS => blk_rngl hS.out.1) Try.underlying29 (by rfl) (by kernel_rfl)) hS ?_
          try simp only [Act.put, List.setIfInBounds_toArray, List.set_cons_zero, List.set_cons_succ]
          refine wpAnyH_take (i := 1) (oi := ⟨some 87, .load 31 (.tmp 5), 31, "ref.go:59", #[⟨3, .gcOnly .lateStores⟩], none⟩) (v := .agg (([.int .i64 op, .int .i64 stage, .int .i64 3, .int .i64 old, .int .i64 now, .int .i64 left, .bool awoke, .bool starve, .int .i64 2, .bool false] : List Value)).toArray) rfl (by kernel_rfl) (by kernel_rfl) (by kernel_rfl) (fun _ _ _ h => h) (yieldsIf_load_mid (by rfl) _ _ (by rfl) (q + 1) (0) (by rfl) _ _ (fun wv hS => blk_rngl hS.out.2) Try.underlying31 (by rfl) (by kernel_rfl)) hS ?_
          try simp only [Act.put, List.setIfInBounds_toArray, List.set_cons_zero, List.set_cons_succ]
          refine wpAnyH_take (i := 2) (oi := ⟨some 88, .build 38 #[], 38, "ref.go:59", #[⟨4, .gcOnly .lateStores⟩], none⟩) (v := ?_) rfl (by kernel_rfl) (by kernel_rfl) (by kernel_rfl) (fun _ _ _ h => h) (Or.inl ⟨by rfl, ?_⟩) hS ?_
          rotate_left
          · intro wv _; go_simp; try with_reducible rfl
          try simp only [Act.put, List.setIfInBounds_toArray, List.set_cons_zero, List.set_cons_succ]
          refine wpAnyH_ready (rs := [3]) (by kernel_rfl) (by simp) (AllReadyH.cons (o := ⟨none, .store 29 (.tmp 8) (.tmp 86), 0, "ref.go:59", #[⟨0, .data⟩, ⟨0, .phase⟩, ⟨1, .textOnly .lateStores⟩, ⟨2, .textOnly .lateStores⟩], none⟩) rfl (fun K hK => ?_) AllReadyH.nil)
          refine op_storeS (by rfl) rfl rfl rfl (there_blk (HF0.out.blk 2 _ rfl) rfl) (by kernel_rfl) (by simp [Value.oneCell']) hh1.out ?_
          replace hS := Lib.hid (And.intro (HF1.out.blk 0 _ rfl) (HF1.out.blk 1 _ rfl))
          refine Shut.out hK _ _ hS (fun _ => ?_)
          clear hK K
          try simp only [Act.put, List.setIfInBounds_toArray, List.set_cons_zero, List.set_cons_succ]
          refine wpAnyH_ready (rs := [4]) (by kernel_rfl) (by simp) (AllReadyH.cons (o := ⟨none, .store 31 (.tmp 9) (.tmp 87), 0, "ref.go:59", #[⟨1, .data⟩, ⟨3, .chain⟩, ⟨0, .phase⟩, ⟨1, .phase⟩, ⟨2, .textOnly .lateStores⟩, ⟨3, .phase⟩], none⟩) rfl (fun K hK => ?_) AllReadyH.nil)
          refine op_storeS (by rfl) rfl rfl rfl (there_blk (HF1.out.blk 3 _ rfl) rfl) (by kernel_rfl) (by simp [Value.oneCell']) hh2.out ?_
          replace hS := Lib.hid (And.intro (HF2.out.blk 0 _ rfl) (HF2.out.blk 1 _ rfl))
          refine Shut.out hK _ _ hS (fun _ => ?_)
          clear hK K
          try simp only [Act.put, List.setIfInBounds_toArray, List.set_cons_zero, List.set_cons_succ]
          refine wpAnyH_ready (rs := [5]) (by kernel_rfl) (by simp) (AllReadyH.cons (o := ⟨none, .store 38 (.tmp 10) (.tmp 88), 0, "ref.go:59", #[⟨2, .data⟩, ⟨4, .chain⟩, ⟨0, .phase⟩, ⟨1, .phase⟩, ⟨2, .phase⟩, ⟨3, .phase⟩, ⟨4, .phase⟩], none⟩) rfl (fun K hK => ?_) AllReadyH.nil)
          refine op_storeS (by rfl) rfl rfl rfl (there_blk (HF2.out.blk 4 _ rfl) rfl) (by kernel_rfl) (by simp [Value.oneCell']) hh3.out ?_
          replace hS := Lib.hid (And.intro (HF3.out.blk 0 _ rfl) (HF3.out.blk 1 _ rfl))
          refine Shut.out hK _ _ hS (fun _ => ?_)
          clear hK K
          try simp only [Act.put, List.setIfInBounds_toArray, List.set_cons_zero, List.set_cons_succ]
          refine wpAnyH_done (by kernel_rfl) ?_ _
          refine NoPanic.normal ?_
          go_wp2
          refine bodyPost_ret (res_ccc Try.results34 (by rfl) (by rfl) (by rfl) (HF3.out.load 2 rfl rfl Try.underlying29 (by kernel_rfl)) (HF3.out.load 3 rfl rfl Try.underlying31 (by kernel_rfl)) (HF3.out.load 4 rfl rfl Try.underlying38 (by kernel_rfl))) rfl ?_
          replace FR := HF3
          rw [HE.out]
          exact ⟨rfl, FR.out.out⟩
    · rw [hb0] at B0
      replace B0 := Lib.hid B0
      clear B2
      by_cases hsn : 0 ≤ since
      · have s0 : decide (0 ≤ since) = true := by simpa using hsn
        have s1 : decide (since < 0) = false := by simp; omega
        have HE := Lib.hid (show lockM o0 ⟨op, stage, 2, old, since, left, awoke, starve, need, front⟩ now pat = (z, ⟨op, stage, 3, old, since, left, awoke, starve, 2, true⟩, noA) from HO.trans ((if_neg (fun h => h.1 (of_decide_eq_true hb0))).trans (by rw [s0, if_neg (by omega)])))
        clear HO hsn hb0
        go_enter Try.func34, Try.ntmps34
        have ac0 := row11 (b := q) (FR.out.at 0 rfl rfl)
        have ac1 := row10 (b := q + 1) (FR.out.at 1 rfl rfl)
        go_wp2_with fail
        refine (ST.out _).mono ?_
        rintro e ws ⟨rfl, hb⟩
        clear ac0 ac1
        replace FR := Lib.hid (FR.out.step hb)
        clear hb hv1 hv2 hv3 hv4 hv5 z1 z2 z3 z4 z5
        have ac0 := row11 (b := q) (FR.out.at 0 rfl rfl)
        have af01 : ws.frozen? ⟨q, 1, none⟩ = false := FR.out.frozen 0 1 rfl rfl
        have ac1 := row10 (b := q + 1) (FR.out.at 1 rfl rfl)
        obtain ⟨w6p, hw6p⟩ : ∃ W, (ws.setCell ⟨q, 1, none⟩ (.int .i64 z)) = W := ⟨_, rfl⟩
        replace FR := Lib.hid (((FR.out.set 0 1 rfl rfl (.int .i64 z))).eqw hw6p)
        have bc0 := row11 (b := q) (FR.out.at 0 rfl rfl)
        have bc1 := row10 (b := q + 1) (FR.out.at 1 rfl rfl)
        go_wp2_with fail
        refine (B0.out _).mono ?_
        rintro e wz ⟨rfl, hw⟩
        obtain rfl := hw.symm
        clear ac0 af01 ac1 bc0 bc1
        have ac0 := row11 (b := q) (FR.out.at 0 rfl rfl)
        have ac1 := row10 (b := q + 1) (FR.out.at 1 rfl rfl)
        have af12 : w6p.frozen? ⟨q + 1, 2, none⟩ = false := FR.out.frozen 1 2 rfl rfl
        have af18 : w6p.frozen? ⟨q + 1, 8, none⟩ = false := FR.out.frozen 1 8 rfl rfl
        have af19 : w6p.frozen? ⟨q + 1, 9, none⟩ = false := FR.out.frozen 1 9 rfl rfl
        obtain ⟨w7p, hw7p⟩ : ∃ W, (((w6p.setCell ⟨q + 1, 9, none⟩ (.bool true)).setCell ⟨q + 1, 8, none⟩ (.int .i64 2)).setCell ⟨q + 1, 2, none⟩ (.int .i64 3)) = W := ⟨_, rfl⟩
        replace FR := Lib.hid (((((FR.out.set 1 9 rfl rfl (.bool true)).set 1 8 rfl rfl (.int .i64 2)).set 1 2 rfl rfl (.int .i64 3))).eqw hw7p)
        have bc0 := row11 (b := q) (FR.out.at 0 rfl rfl)
        have bc1 := row10 (b := q + 1) (FR.out.at 1 rfl rfl)
        go_wp2
        clear ac0 ac1 af12 af18 af19 bc0 bc1
        have HF0 := Lib.hid FR.out.drew
        obtain ⟨w8r, hw8r⟩ : ∃ W, w7p.drew.setCells (q + 2) 0 [.int .i64 kd, .int .i64 z, .int .i64 o1, .int .i64 o2, .int .i64 o3, .int .i64 o4, .int .i64 o5, .int .u32 wa, .int .u32 to, .slice A n c, .slice B m d] = W := ⟨_, rfl⟩
        have HF1 := Lib.hid ((HF0.out.all 2 rfl rfl (by rfl)).eqw hw8r)
        have hh1 := Lib.hid hw8r
        clear hw8r
        obtain ⟨w9r, hw9r⟩ : ∃ W, w8r.setCells (q + 3) 0 [.int .i64 op, .int .i64 stage, .int .i64 3, .int .i64 old, .int .i64 since, .int .i64 left, .bool awoke, .bool starve, .int .i64 2, .bool true] = W := ⟨_, rfl⟩
        have HF2 := Lib.hid ((HF1.out.all 3 rfl rfl (by rfl)).eqw hw9r)
        have hh2 := Lib.hid hw9r
        clear hw9r
        obtain ⟨w10r, hw10r⟩ : ∃ W, w9r.setCells (q + 4) 0 [.bool false, .bool false, .bool false, .int .i64 0, .int .i64 0, .int .u64 0, .slice none 0 0] = W := ⟨_, rfl⟩
        have HF3 := Lib.hid ((HF2.out.all 4 rfl rfl (by rfl)).eqw hw10r)
        have hh3 := Lib.hid hw10r
        clear hw10r
        refine wp_region_noPanic ?_
        refine wp_region_held_drew (S := (fun wv => Hid (wv.heap[q]? = some (.cells #[.int .i64 kd, .int .i64 z, .int .i64 o1, .int .i64 o2, .int .i64 o3, .int .i64 o4, .int .i64 o5, .int .u32 wa, .int .u32 to, .slice A n c, .slice B m d] 29) ∧ wv.heap[q + 1]? = some (.cells #[.int .i64 op, .int .i64 stage, .int .i64 3, .int .i64 old, .int .i64 since, .int .i64 left, .bool awoke, .bool starve, .int .i64 2, .bool true] 31)))) (by kernel_rfl) (Lib.hid (And.intro (HF0.out.blk 0 _ rfl) (HF0.out.blk 1 _ rfl))) (fun hS => ?_)
        refine wpAnyH_take (i := 0) (oi := ⟨some 86, .load 29 (.tmp 4), 29, "ref.go:59", #[], none⟩) (v := .agg (([.int .i64 kd, .int .i64 z, .int .i64 o1, .int .i64 o2, .int .i64 o3, .int .i64 o4, .int .i64 o5, .int .u32 wa, .int .u32 to, .slice A n c, .slice B m d] : List Value)).toArray) rfl (by kernel_rfl) (by kernel_rfl) (by kernel_rfl) (fun _ _ _ h => h) (yieldsIf_load_mid (by rfl) _ _ (by rfl) (q) (0) (by rfl) _ _ (fun wv hS => blk_rngl hS.out.1) Try.underlying29 (by rfl) (by kernel_rfl)) hS ?_
        try simp only [Act.put, List.setIfInBounds_toArray, List.set_cons_zero, List.set_cons_succ]
        refine wpAnyH_take (i := 1) (oi := ⟨some 87, .load 31 (.tmp 5), 31, "ref.go:59", #[⟨3, .gcOnly .lateStores⟩], none⟩) (v := .agg (([.int .i64 op, .int .i64 stage, .int .i64 3, .int .i64 old, .int .i64 since, .int .i64 left, .bool awoke, .bool starve, .int .i64 2, .bool true] : List Value)).toArray) rfl (by kernel_rfl) (by kernel_rfl) (by kernel_rfl) (fun _ _ _ h => h) (yieldsIf_load_mid (by rfl) _ _ (by rfl) (q + 1) (0) (by rfl) _ _ (fun wv hS => blk_rngl hS.out.2) Try.underlying31 (by rfl) (by kernel_rfl)) hS ?_
        try simp only [Act.put, List.setIfInBounds_toArray, List.set_cons_zero, List.set_cons_succ]
        refine wpAnyH_take (i := 2) (oi := ⟨some 88, .build 38 #[], 38, "ref.go:59", #[⟨4, .gcOnly .lateStores⟩], none⟩) (v := ?_) rfl (by kernel_rfl) (by kernel_rfl) (by kernel_rfl) (fun _ _ _ h => h) (Or.inl ⟨by rfl, ?_⟩) hS ?_
        rotate_left
        · intro wv _; go_simp; try with_reducible rfl
        try simp only [Act.put, List.setIfInBounds_toArray, List.set_cons_zero, List.set_cons_succ]
        refine wpAnyH_ready (rs := [3]) (by kernel_rfl) (by simp) (AllReadyH.cons (o := ⟨none, .store 29 (.tmp 8) (.tmp 86), 0, "ref.go:59", #[⟨0, .data⟩, ⟨0, .phase⟩, ⟨1, .textOnly .lateStores⟩, ⟨2, .textOnly .lateStores⟩], none⟩) rfl (fun K hK => ?_) AllReadyH.nil)
        refine op_storeS (by rfl) rfl rfl rfl (there_blk (HF0.out.blk 2 _ rfl) rfl) (by kernel_rfl) (by simp [Value.oneCell']) hh1.out ?_
        replace hS := Lib.hid (And.intro (HF1.out.blk 0 _ rfl) (HF1.out.blk 1 _ rfl))
        refine Shut.out hK _ _ hS (fun _ => ?_)
        clear hK K
        try simp only [Act.put, List.setIfInBounds_toArray, List.set_cons_zero, List.set_cons_succ]
        refine wpAnyH_ready (rs := [4]) (by kernel_rfl) (by simp) (AllReadyH.cons (o := ⟨none, .store 31 (.tmp 9) (.tmp 87), 0, "ref.go:59", #[⟨1, .data⟩, ⟨3, .chain⟩, ⟨0, .phase⟩, ⟨1, .phase⟩, ⟨2, .textOnly .lateStores⟩, ⟨3, .phase⟩], none⟩) rfl (fun K hK => ?_) AllReadyH.nil)
        refine op_storeS (by rfl) rfl rfl rfl (there_blk (HF1.out.blk 3 _ rfl) rfl) (by kernel_rfl) (by simp [Value.oneCell']) hh2.out ?_
        replace hS := Lib.hid (And.intro (HF2.out.blk 0 _ rfl) (HF2.out.blk 1 _ rfl))
        refine Shut.out hK _ _ hS (fun _ => ?_)
        clear hK K
        try simp only [Act.put, List.setIfInBounds_toArray, List.set_cons_zero, List.set_cons_succ]
        refine wpAnyH_ready (rs := [5]) (by kernel_rfl) (by simp) (AllReadyH.cons (o := ⟨none, .store 38 (.tmp 10) (.tmp 88), 0, "ref.go:59", #[⟨2, .data⟩, ⟨4, .chain⟩, ⟨0, .phase⟩, ⟨1, .phase⟩, ⟨2, .phase⟩, ⟨3, .phase⟩, ⟨4, .phase⟩], none⟩) rfl (fun K hK => ?_) AllReadyH.nil)
        refine op_storeS (by rfl) rfl rfl rfl (there_blk (HF2.out.blk 4 _ rfl) rfl) (by kernel_rfl) (by simp [Value.oneCell']) hh3.out ?_
        replace hS := Lib.hid (And.intro (HF3.out.blk 0 _ rfl) (HF3.out.blk 1 _ rfl))
        refine Shut.out hK _ _ hS (fun _ => ?_)
        clear hK K
        try simp only [Act.put, List.setIfInBounds_toArray, List.set_cons_zero, List.set_cons_succ]
        refine wpAnyH_done (by kernel_rfl) ?_ _
        refine NoPanic.normal ?_
        go_wp2
        refine bodyPost_ret (res_ccc Try.results34 (by rfl) (by rfl) (by rfl) (HF3.out.load 2 rfl rfl Try.underlying29 (by kernel_rfl)) (HF3.out.load 3 rfl rfl Try.underlying31 (by kernel_rfl)) (HF3.out.load 4 rfl rfl Try.underlying38 (by kernel_rfl))) rfl ?_
        replace FR := HF3
        rw [HE.out]
        exact ⟨rfl, FR.out.out⟩
      · have s0 : decide (0 ≤ since) = false := by simp; omega
        have s1 : decide (since < 0) = true := by simp; omega
        have HE := Lib.hid (show lockM o0 ⟨op, stage, 2, old, since, left, awoke, starve, need, front⟩ now pat = (z, ⟨op, stage, 3, old, now, left, awoke, starve, 2, false⟩, noA) from HO.trans ((if_neg (fun h => h.1 (of_decide_eq_true hb0))).trans (by rw [s0, if_pos (by omega)])))
        clear HO hsn hb0
        go_enter Try.func34, Try.ntmps34
        have ac0 := row11 (b := q) (FR.out.at 0 rfl rfl)
        have ac1 := row10 (b := q + 1) (FR.out.at 1 rfl rfl)
        go_wp2_with fail
        refine (ST.out _).mono ?_
        rintro e ws ⟨rfl, hb⟩
        clear ac0 ac1
        replace FR := Lib.hid (FR.out.step hb)
        clear hb hv1 hv2 hv3 hv4 hv5 z1 z2 z3 z4 z5
        have ac0 := row11 (b := q) (FR.out.at 0 rfl rfl)
        have af01 : ws.frozen? ⟨q, 1, none⟩ = false := FR.out.frozen 0 1 rfl rfl
        have ac1 := row10 (b := q + 1) (FR.out.at 1 rfl rfl)
        obtain ⟨w6p, hw6p⟩ : ∃ W, (ws.setCell ⟨q, 1, none⟩ (.int .i64 z)) = W := ⟨_, rfl⟩
        replace FR := Lib.hid (((FR.out.set 0 1 rfl rfl (.int .i64 z))).eqw hw6p)
        have bc0 := row11 (b := q) (FR.out.at 0 rfl rfl)
        have bc1 := row10 (b := q + 1) (FR.out.at 1 rfl rfl)
        go_wp2_with fail
        refine (B0.out _).mono ?_
        rintro e wz ⟨rfl, hw⟩
        obtain rfl := hw.symm
        clear ac0 af01 ac1 bc0 bc1
        have ac0 := row11 (b := q) (FR.out.at 0 rfl rfl)
        have ac1 := row10 (b := q + 1) (FR.out.at 1 rfl rfl)
        have af12 : w6p.frozen? ⟨q + 1, 2, none⟩ = false := FR.out.frozen 1 2 rfl rfl
        have af14 : w6p.frozen? ⟨q + 1, 4, none⟩ = false := FR.out.frozen 1 4 rfl rfl
        have af18 : w6p.frozen? ⟨q + 1, 8, none⟩ = false := FR.out.frozen 1 8 rfl rfl
        have af19 : w6p.frozen? ⟨q + 1, 9, none⟩ = false := FR.out.frozen 1 9 rfl rfl
        obtain ⟨w7p, hw7p⟩ : ∃ W, ((((w6p.setCell ⟨q + 1, 9, none⟩ (.bool false)).setCell ⟨q + 1, 4, none⟩ (.int .i64 now)).setCell ⟨q + 1, 8, none⟩ (.int .i64 2)).setCell ⟨q + 1, 2, none⟩ (.int .i64 3)) = W := ⟨_, rfl⟩
        replace FR := Lib.hid ((((((FR.out.set 1 9 rfl rfl (.bool false)).set 1 4 rfl rfl (.int .i64 now)).set 1 8 rfl rfl (.int .i64 2)).set 1 2 rfl rfl (.int .i64 3))).eqw hw7p)
        have bc0 := row11 (b := q) (FR.out.at 0 rfl rfl)
        have bc1 := row10 (b := q + 1) (FR.out.at 1 rfl rfl)
        go_wp2
        clear ac0 ac1 af12 af14 af18 af19 bc0 bc1
        have HF0 := Lib.hid FR.out.drew
        obtain ⟨w8r, hw8r⟩ : ∃ W, w7p.drew.setCells (q + 2) 0 [.int .i64 kd, .int .i64 z, .int .i64 o1, .int .i64 o2, .int .i64 o3, .int .i64 o4, .int .i64 o5, .int .u32 wa, .int .u32 to, .slice A n c, .slice B m d] = W := ⟨_, rfl⟩
        have HF1 := Lib.hid ((HF0.out.all 2 rfl rfl (by rfl)).eqw hw8r)
        have hh1 := Lib.hid hw8r
        clear hw8r
        obtain ⟨w9r, hw9r⟩ : ∃ W, w8r.setCells (q + 3) 0 [.int .i64 op, .int .i64 stage, .int .i64 3, .int .i64 old, .int .i64 now, .int .i64 left, .bool awoke, .bool starve, .int .i64 2, .bool false] = W := ⟨_, rfl⟩
        have HF2 := Lib.hid ((HF1.out.all 3 rfl rfl (by rfl)).eqw hw9r)
        have hh2 := Lib.hid hw9r
        clear hw9r
        obtain ⟨w10r, hw10r⟩ : ∃ W, w9r.setCells (q + 4) 0 [.bool false, .bool false, .bool false, .int .i64 0, .int .i64 0, .int .u64 0, .slice none 0 0] = W := ⟨_, rfl⟩
        have HF3 := Lib.hid ((HF2.out.all 4 rfl rfl (by rfl)).eqw hw10r)
        have hh3 := Lib.hid hw10r
        clear hw10r
        refine wp_region_noPanic ?_
        refine wp_region_held_drew (S := (fun wv => Hid (wv.heap[q]? = some (.cells #[.int .i64 kd, .int .i64 z, .int .i64 o1, .int .i64 o2, .int .i64 o3, .int .i64 o4, .int .i64 o5, .int .u32 wa, .int .u32 to, .slice A n c, .slice B m d] 29) ∧ wv.heap[q + 1]? = some (.cells #[.int .i64 op, .int .i64 stage, .int .i64 3, .int .i64 old, .int .i64 now, .int .i64 left, .bool awoke, .bool starve, .int .i64 2, .bool false] 31)))) (by kernel_rfl) (Lib.hid (And.intro (HF0.out.blk 0 _ rfl) (HF0.out.blk 1 _ rfl))) (fun hS => ?_)
        refine wpAnyH_take (i := 0) (oi := ⟨some 86, .load 29 (.tmp 4), 29, "ref.go:59", #[], none⟩) (v := .agg (([.int .i64 kd, .int .i64 z, .int .i64 o1, .int .i64 o2, .int .i64 o3, .int .i64 o4, .int .i64 o5, .int .u32 wa, .int .u32 to, .slice A n c, .slice B m d] : List Value)).toArray) rfl (by kernel_rfl) (by kernel_rfl) (by kernel_rfl) (fun _ _ _ h => h) (yieldsIf_load_mid (by rfl) _ _ (by rfl) (q) (0) (by rfl) _ _ (fun wv hS => blk_rngl hS.out.1) Try.underlying29 (by rfl) (by kernel_rfl)) hS ?_
        try simp only [Act.put, List.setIfInBounds_toArray, List.set_cons_zero, List.set_cons_succ]
        refine wpAnyH_take (i := 1) (oi := ⟨some 87, .load 31 (.tmp 5), 31, "ref.go:59", #[⟨3, .gcOnly .lateStores⟩], none⟩) (v := .agg (([.int .i64 op, .int .i64 stage, .int .i64 3, .int .i64 old, .int .i64 now, .int .i64 left, .bool awoke, .bool starve, .int .i64 2, .bool false] : List Value)).toArray) rfl (by kernel_rfl) (by kernel_rfl) (by kernel_rfl) (fun _ _ _ h => h) (yieldsIf_load_mid (by rfl) _ _ (by rfl) (q + 1) (0) (by rfl) _ _ (fun wv hS => blk_rngl hS.out.2) Try.underlying31 (by rfl) (by kernel_rfl)) hS ?_
        try simp only [Act.put, List.setIfInBounds_toArray, List.set_cons_zero, List.set_cons_succ]
        refine wpAnyH_take (i := 2) (oi := ⟨some 88, .build 38 #[], 38, "ref.go:59", #[⟨4, .gcOnly .lateStores⟩], none⟩) (v := ?_) rfl (by kernel_rfl) (by kernel_rfl) (by kernel_rfl) (fun _ _ _ h => h) (Or.inl ⟨by rfl, ?_⟩) hS ?_
        rotate_left
        · intro wv _; go_simp; try with_reducible rfl
        try simp only [Act.put, List.setIfInBounds_toArray, List.set_cons_zero, List.set_cons_succ]
        refine wpAnyH_ready (rs := [3]) (by kernel_rfl) (by simp) (AllReadyH.cons (o := ⟨none, .store 29 (.tmp 8) (.tmp 86), 0, "ref.go:59", #[⟨0, .data⟩, ⟨0, .phase⟩, ⟨1, .textOnly .lateStores⟩, ⟨2, .textOnly .lateStores⟩], none⟩) rfl (fun K hK => ?_) AllReadyH.nil)
        refine op_storeS (by rfl) rfl rfl rfl (there_blk (HF0.out.blk 2 _ rfl) rfl) (by kernel_rfl) (by simp [Value.oneCell']) hh1.out ?_
        replace hS := Lib.hid (And.intro (HF1.out.blk 0 _ rfl) (HF1.out.blk 1 _ rfl))
        refine Shut.out hK _ _ hS (fun _ => ?_)
        clear hK K
        try simp only [Act.put, List.setIfInBounds_toArray, List.set_cons_zero, List.set_cons_succ]
        refine wpAnyH_ready (rs := [4]) (by kernel_rfl) (by simp) (AllReadyH.cons (o := ⟨none, .store 31 (.tmp 9) (.tmp 87), 0, "ref.go:59", #[⟨1, .data⟩, ⟨3, .chain⟩, ⟨0, .phase⟩, ⟨1, .phase⟩, ⟨2, .textOnly .lateStores⟩, ⟨3, .phase⟩], none⟩) rfl (fun K hK => ?_) AllReadyH.nil)
        refine op_storeS (by rfl) rfl rfl rfl (there_blk (HF1.out.blk 3 _ rfl) rfl) (by kernel_rfl) (by simp [Value.oneCell']) hh2.out ?_
        replace hS := Lib.hid (And.intro (HF2.out.blk 0 _ rfl) (HF2.out.blk 1 _ rfl))
        refine Shut.out hK _ _ hS (fun _ => ?_)
        clear hK K
        try simp only [Act.put, List.setIfInBounds_toArray, List.set_cons_zero, List.set_cons_succ]
        refine wpAnyH_ready (rs := [5]) (by kernel_rfl) (by simp) (AllReadyH.cons (o := ⟨none, .store 38 (.tmp 10) (.tmp 88), 0, "ref.go:59", #[⟨2, .data⟩, ⟨4, .chain⟩, ⟨0, .phase⟩, ⟨1, .phase⟩, ⟨2, .phase⟩, ⟨3, .phase⟩, ⟨4, .phase⟩], none⟩) rfl (fun K hK => ?_) AllReadyH.nil)
        refine op_storeS (by rfl) rfl rfl rfl (there_blk (HF2.out.blk 4 _ rfl) rfl) (by kernel_rfl) (by simp [Value.oneCell']) hh3.out ?_
        replace hS := Lib.hid (And.intro (HF3.out.blk 0 _ rfl) (HF3.out.blk 1 _ rfl))
        refine Shut.out hK _ _ hS (fun _ => ?_)
        clear hK K
        try simp only [Act.put, List.setIfInBounds_toArray, List.set_cons_zero, List.set_cons_succ]
        refine wpAnyH_done (by kernel_rfl) ?_ _
        refine NoPanic.normal ?_
        go_wp2
        refine bodyPost_ret (res_ccc Try.results34 (by rfl) (by rfl) (by rfl) (HF3.out.load 2 rfl rfl Try.underlying29 (by kernel_rfl)) (HF3.out.load 3 rfl rfl Try.underlying31 (by kernel_rfl)) (HF3.out.load 4 rfl rfl Try.underlying38 (by kernel_rfl))) rfl ?_
        replace FR := HF3
        rw [HE.out]
        exact ⟨rfl, FR.out.out⟩
  have n2 : (phase == 2) = false := by simp [p2]
  by_cases p3 : phase = 3
  · subst p3
    have HO : lockM o0 ⟨op, stage, 3, old, since, left, awoke, starve, need, front⟩ now pat = (o0, ⟨op, stage, if hasBit o0 2 then 4 else 2, o0, since, left, awoke || decide (¬ hasBit o0 2), starve || decide (pat < IntKind.i64.wrap (now - since)), need, front⟩, noA) := by
      unfold lockM
      rw [if_neg (fun h => (show ¬ ((3 : Int) = 0) by decide) h.1), if_neg (fun h => by rcases h with h | h; exact (show ¬ ((3 : Int) = 0) by decide) h; exact (show ¬ ((3 : Int) = 2) by decide) h.1), if_neg (fun h => (show ¬ ((3 : Int) = 1) by decide) h), if_neg (fun h => (show ¬ ((3 : Int) = 2) by decide) h), if_pos rfl]
    obtain ⟨x, hx⟩ : ∃ x, IntKind.i64.wrap (now - since) = x := ⟨_, rfl⟩
    rw [hx] at HO
    have B2 := fun (W : World) => bit15_any o0 2 (by omega) W
    clear p0 p1 p2 n0 n1 n2
    cases hc : decide (pat < x)
    · rw [hc] at HO
      cases hb2 : decide (hasBit o0 2)
      · rw [hb2] at B2
        replace B2 := Lib.hid B2
        have HE := Lib.hid (show lockM o0 ⟨op, stage, 3, old, since, left, awoke, starve, need, front⟩ now pat = (o0, ⟨op, stage, 2, o0, since, left, true, starve, need, front⟩, noA) from HO.trans (by simp only [Bool.or_false, Bool.or_true, if_neg (of_decide_eq_false hb2), decide_eq_true (of_decide_eq_false hb2)]))
        clear HO hb2
        go_enter Try.func34, Try.ntmps34
        have ac0 := row11 (b := q) (FR.out.at 0 rfl rfl)
        have ac1 := row10 (b := q + 1) (FR.out.at 1 rfl rfl)
        have af12 : v5.frozen? ⟨q + 1, 2, none⟩ = false := FR.out.frozen 1 2 rfl rfl
        have af13 : v5.frozen? ⟨q + 1, 3, none⟩ = false := FR.out.frozen 1 3 rfl rfl
        obtain ⟨w6p, hw6p⟩ : ∃ W, ((v5.setCell ⟨q + 1, 3, none⟩ (.int .i64 o0)).setCell ⟨q + 1, 2, none⟩ (.int .i64 4)) = W := ⟨_, rfl⟩
        replace FR := Lib.hid ((((FR.out.set 1 3 rfl rfl (.int .i64 o0)).set 1 2 rfl rfl (.int .i64 4))).eqw hw6p)
        have cc0 := row11 (b := q) (FR.out.at 0 rfl rfl)
        have cc1 := row10 (b := q + 1) (FR.out.at 1 rfl rfl)
        go_wp2_with fail
        refine (B2.out _).mono ?_
        rintro e wz ⟨rfl, hw⟩
        obtain rfl := hw.symm
        clear ac0 ac1 af12 af13 cc0 cc1
        have ac0 := row11 (b := q) (FR.out.at 0 rfl rfl)
        have ac1 := row10 (b := q + 1) (FR.out.at 1 rfl rfl)
        have af12 : w6p.frozen? ⟨q + 1, 2, none⟩ = false := FR.out.frozen 1 2 rfl rfl
        have af16 : w6p.frozen? ⟨q + 1, 6, none⟩ = false := FR.out.frozen 1 6 rfl rfl
        obtain ⟨w7p, hw7p⟩ : ∃ W, ((w6p.setCell ⟨q + 1, 6, none⟩ (.bool true)).setCell ⟨q + 1, 2, none⟩ (.int .i64 2)) = W := ⟨_, rfl⟩
        replace FR := Lib.hid ((((FR.out.set 1 6 rfl rfl (.bool true)).set 1 2 rfl rfl (.int .i64 2))).eqw hw7p)
        have bc0 := row11 (b := q) (FR.out.at 0 rfl rfl)
        have bc1 := row10 (b := q + 1) (FR.out.at 1 rfl rfl)
        go_wp2
        clear ac0 ac1 af12 af16 bc0 bc1
        have HF0 := Lib.hid FR.out.drew
        obtain ⟨w8r, hw8r⟩ : ∃ W, w7p.drew.setCells (q + 2) 0 [.int .i64 kd, .int .i64 o0, .int .i64 o1, .int .i64 o2, .int .i64 o3, .int .i64 o4, .int .i64 o5, .int .u32 wa, .int .u32 to, .slice A n c, .slice B m d] = W := ⟨_, rfl⟩
        have HF1 := Lib.hid ((HF0.out.all 2 rfl rfl (by rfl)).eqw hw8r)
        have hh1 := Lib.hid hw8r
        clear hw8r
        obtain ⟨w9r, hw9r⟩ : ∃ W, w8r.setCells (q + 3) 0 [.int .i64 op, .int .i64 stage, .int .i64 2, .int .i64 o0, .int .i64 since, .int .i64 left, .bool true, .bool starve, .int .i64 need, .bool front] = W := ⟨_, rfl⟩
        have HF2 := Lib.hid ((HF1.out.all 3 rfl rfl (by rfl)).eqw hw9r)
        have hh2 := Lib.hid hw9r
        clear hw9r
        obtain ⟨w10r, hw10r⟩ : ∃ W, w9r.setCells (q + 4) 0 [.bool false, .bool false, .bool false, .int .i64 0, .int .i64 0, .int .u64 0, .slice none 0 0] = W := ⟨_, rfl⟩
        have HF3 := Lib.hid ((HF2.out.all 4 rfl rfl (by rfl)).eqw hw10r)
        have hh3 := Lib.hid hw10r
        clear hw10r
        refine wp_region_noPanic ?_
        refine wp_region_held_drew (S := (fun wv => Hid (wv.heap[q]? = some (.cells #[.int .i64 kd, .int .i64 o0, .int .i64 o1, .int .i64 o2, .int .i64 o3, .int .i64 o4, .int .i64 o5, .int .u32 wa, .int .u32 to, .slice A n c, .slice B m d] 29) ∧ wv.heap[q + 1]? = some (.cells #[.int .i64 op, .int .i64 stage, .int .i64 2, .int .i64 o0, .int .i64 since, .int .i64 left, .bool true, .bool starve, .int .i64 need, .bool front] 31)))) (by kernel_rfl) (Lib.hid (And.intro (HF0.out.blk 0 _ rfl) (HF0.out.blk 1 _ rfl))) (fun hS => ?_)
        refine wpAnyH_take (i := 0) (oi := ⟨some 107, .load 29 (.tmp 4), 29, "ref.go:69", #[], none⟩) (v := .agg (([.int .i64 kd, .int .i64 o0, .int .i64 o1, .int .i64 o2, .int .i64 o3, .int .i64 o4, .int .i64 o5, .int .u32 wa, .int .u32 to, .slice A n c, .slice B m d] : List Value)).toArray) rfl (by kernel_rfl) (by kernel_rfl) (by kernel_rfl) (fun _ _ _ h => h) (yieldsIf_load_mid (by rfl) _ _ (by rfl) (q) (0) (by rfl) _ _ (fun wv hS => blk_rngl hS.out.1) Try.underlying29 (by rfl) (by kernel_rfl)) hS ?_
        try simp only [Act.put, List.setIfInBounds_toArray, List.set_cons_zero, List.set_cons_succ]
        refine wpAnyH_take (i := 1) (oi := ⟨some 108, .load 31 (.tmp 5), 31, "ref.go:69", #[⟨3, .gcOnly .lateStores⟩], none⟩) (v := .agg (([.int .i64 op, .int .i64 stage, .int .i64 2, .int .i64 o0, .int .i64 since, .int .i64 left, .bool true, .bool starve, .int .i64 need, .bool front] : List Value)).toArray) rfl (by kernel_rfl) (by kernel_rfl) (by kernel_rfl) (fun _ _ _ h => h) (yieldsIf_load_mid (by rfl) _ _ (by rfl) (q + 1) (0) (by rfl) _ _ (fun wv hS => blk_rngl hS.out.2) Try.underlying31 (by rfl) (by kernel_rfl)) hS ?_
        try simp only [Act.put, List.setIfInBounds_toArray, List.set_cons_zero, List.set_cons_succ]
        refine wpAnyH_take (i := 2) (oi := ⟨some 109, .build 38 #[], 38, "ref.go:69", #[⟨4, .gcOnly .lateStores⟩], none⟩) (v := ?_) rfl (by kernel_rfl) (by kernel_rfl) (by kernel_rfl) (fun _ _ _ h => h) (Or.inl ⟨by rfl, ?_⟩) hS ?_
        rotate_left
        · intro wv _; go_simp; try with_reducible rfl
        try simp only [Act.put, List.setIfInBounds_toArray, List.set_cons_zero, List.set_cons_succ]
        refine wpAnyH_ready (rs := [3]) (by kernel_rfl) (by simp) (AllReadyH.cons (o := ⟨none, .store 29 (.tmp 8) (.tmp 107), 0, "ref.go:69", #[⟨0, .data⟩, ⟨0, .phase⟩, ⟨1, .textOnly .lateStores⟩, ⟨2, .textOnly .lateStores⟩], none⟩) rfl (fun K hK => ?_) AllReadyH.nil)
        refine op_storeS (by rfl) rfl rfl rfl (there_blk (HF0.out.blk 2 _ rfl) rfl) (by kernel_rfl) (by simp [Value.oneCell']) hh1.out ?_
        replace hS := Lib.hid (And.intro (HF1.out.blk 0 _ rfl) (HF1.out.blk 1 _ rfl))
        refine Shut.out hK _ _ hS (fun _ => ?_)
        clear hK K
        try simp only [Act.put, List.setIfInBounds_toArray, List.set_cons_zero, List.set_cons_succ]
        refine wpAnyH_ready (rs := [4]) (by kernel_rfl) (by simp) (AllReadyH.cons (o := ⟨none, .store 31 (.tmp 9) (.tmp 108), 0, "ref.go:69", #[⟨1, .data⟩, ⟨3, .chain⟩, ⟨0, .phase⟩, ⟨1, .phase⟩, ⟨2, .textOnly .lateStores⟩, ⟨3, .phase⟩], none⟩) rfl (fun K hK => ?_) AllReadyH.nil)
        refine op_storeS (by rfl) rfl rfl rfl (there_blk (HF1.out.blk 3 _ rfl) rfl) (by kernel_rfl) (by simp [Value.oneCell']) hh2.out ?_
        replace hS := Lib.hid (And.intro (HF2.out.blk 0 _ rfl) (HF2.out.blk 1 _ rfl))
        refine Shut.out hK _ _ hS (fun _ => ?_)
        clear hK K
        try simp only [Act.put, List.setIfInBounds_toArray, List.set_cons_zero, List.set_cons_succ]
        refine wpAnyH_ready (rs := [5]) (by kernel_rfl) (by simp) (AllReadyH.cons (o := ⟨none, .store 38 (.tmp 10) (.tmp 109), 0, "ref.go:69", #[⟨2, .data⟩, ⟨4, .chain⟩, ⟨0, .phase⟩, ⟨1, .phase⟩, ⟨2, .phase⟩, ⟨3, .phase⟩, ⟨4, .phase⟩], none⟩) rfl (fun K hK => ?_) AllReadyH.nil)
        refine op_storeS (by rfl) rfl rfl rfl (there_blk (HF2.out.blk 4 _ rfl) rfl) (by kernel_rfl) (by simp [Value.oneCell']) hh3.out ?_
        replace hS := Lib.hid (And.intro (HF3.out.blk 0 _ rfl) (HF3.out.blk 1 _ rfl))
        refine Shut.out hK _ _ hS (fun _ => ?_)
        clear hK K
        try simp only [Act.put, List.setIfInBounds_toArray, List.set_cons_zero, List.set_cons_succ]
        refine wpAnyH_done (by kernel_rfl) ?_ _
        refine NoPanic.normal ?_
        go_wp2
        refine bodyPost_ret (res_ccc Try.results34 (by rfl) (by rfl) (by rfl) (HF3.out.load 2 rfl rfl Try.underlying29 (by kernel_rfl)) (HF3.out.load 3 rfl rfl Try.underlying31 (by kernel_rfl)) (HF3.out.load 4 rfl rfl Try.underlying38 (by kernel_rfl))) rfl ?_
        replace FR := HF3
        rw [HE.out]
        exact ⟨rfl, FR.out.out⟩
      · rw [hb2] at B2
        replace B2 := Lib.hid B2
        have hnb : decide (¬ hasBit o0 2) = false := decide_eq_false (not_not_intro (of_decide_eq_true hb2))
        have HE := Lib.hid (show lockM o0 ⟨op, stage, 3, old, since, left, awoke, starve, need, front⟩ now pat = (o0, ⟨op, stage, 4, o0, since, left, awoke, starve, need, front⟩, noA) from HO.trans (by simp only [Bool.or_false, Bool.or_true, if_pos (of_decide_eq_true hb2), hnb]))
        clear HO hb2 hnb
        go_enter Try.func34, Try.ntmps34
        have ac0 := row11 (b := q) (FR.out.at 0 rfl rfl)
        have ac1 := row10 (b := q + 1) (FR.out.at 1 rfl rfl)
        have af12 : v5.frozen? ⟨q + 1, 2, none⟩ = false := FR.out.frozen 1 2 rfl rfl
        have af13 : v5.frozen? ⟨q + 1, 3, none⟩ = false := FR.out.frozen 1 3 rfl rfl
        obtain ⟨w6p, hw6p⟩ : ∃ W, ((v5.setCell ⟨q + 1, 3, none⟩ (.int .i64 o0)).setCell ⟨q + 1, 2, none⟩ (.int .i64 4)) = W := ⟨_, rfl⟩
        replace FR := Lib.hid ((((FR.out.set 1 3 rfl rfl (.int .i64 o0)).set 1 2 rfl rfl (.int .i64 4))).eqw hw6p)
        have cc0 := row11 (b := q) (FR.out.at 0 rfl rfl)
        have cc1 := row10 (b := q + 1) (FR.out.at 1 rfl rfl)
        go_wp2_with fail
        refine (B2.out _).mono ?_
        rintro e wz ⟨rfl, hw⟩
        obtain rfl := hw.symm
        clear ac0 ac1 af12 af13 cc0 cc1
        have ac0 := row11 (b := q) (FR.out.at 0 rfl rfl)
        have ac1 := row10 (b := q + 1) (FR.out.at 1 rfl rfl)
        go_wp2
        clear ac0 ac1
        have HF0 := Lib.hid FR.out.drew
        obtain ⟨w7r, hw7r⟩ : ∃ W, w6p.drew.setCells (q + 2) 0 [.int .i64 kd, .int .i64 o0, .int .i64 o1, .int .i64 o2, .int .i64 o3, .int .i64 o4, .int .i64 o5, .int .u32 wa, .int .u32 to, .slice A n c, .slice B m d] = W := ⟨_, rfl⟩
        have HF1 := Lib.hid ((HF0.out.all 2 rfl rfl (by rfl)).eqw hw7r)
        have hh1 := Lib.hid hw7r
        clear hw7r
        obtain ⟨w8r, hw8r⟩ : ∃ W, w7r.setCells (q + 3) 0 [.int .i64 op, .int .i64 stage, .int .i64 4, .int .i64 o0, .int .i64 since, .int .i64 left, .bool awoke, .bool starve, .int .i64 need, .bool front] = W := ⟨_, rfl⟩
        have HF2 := Lib.hid ((HF1.out.all 3 rfl rfl (by rfl)).eqw hw8r)
        have hh2 := Lib.hid hw8r
        clear hw8r
        obtain ⟨w9r, hw9r⟩ : ∃ W, w8r.setCells (q + 4) 0 [.bool false, .bool false, .bool false, .int .i64 0, .int .i64 0, .int .u64 0, .slice none 0 0] = W := ⟨_, rfl⟩
        have HF3 := Lib.hid ((HF2.out.all 4 rfl rfl (by rfl)).eqw hw9r)
        have hh3 := Lib.hid hw9r
        clear hw9r
        refine wp_region_noPanic ?_
        refine wp_region_held_drew (S := (fun wv => Hid (wv.heap[q]? = some (.cells #[.int .i64 kd, .int .i64 o0, .int .i64 o1, .int .i64 o2, .int .i64 o3, .int .i64 o4, .int .i64 o5, .int .u32 wa, .int .u32 to, .slice A n c, .slice B m d] 29) ∧ wv.heap[q + 1]? = some (.cells #[.int .i64 op, .int .i64 stage, .int .i64 4, .int .i64 o0, .int .i64 since, .int .i64 left, .bool awoke, .bool starve, .int .i64 need, .bool front] 31)))) (by kernel_rfl) (Lib.hid (And.intro (HF0.out.blk 0 _ rfl) (HF0.out.blk 1 _ rfl))) (fun hS => ?_)
        refine wpAnyH_take (i := 0) (oi := ⟨some 107, .load 29 (.tmp 4), 29, "ref.go:69", #[], none⟩) (v := .agg (([.int .i64 kd, .int .i64 o0, .int .i64 o1, .int .i64 o2, .int .i64 o3, .int .i64 o4, .int .i64 o5, .int .u32 wa, .int .u32 to, .slice A n c, .slice B m d] : List Value)).toArray) rfl (by kernel_rfl) (by kernel_rfl) (by kernel_rfl) (fun _ _ _ h => h) (yieldsIf_load_mid (by rfl) _ _ (by rfl) (q) (0) (by rfl) _ _ (fun wv hS => blk_rngl hS.out.1) Try.underlying29 (by rfl) (by kernel_rfl)) hS ?_
        try simp only [Act.put, List.setIfInBounds_toArray, List.set_cons_zero, List.set_cons_succ]
        refine wpAnyH_take (i := 1) (oi := ⟨some 108, .load 31 (.tmp 5), 31, "ref.go:69", #[⟨3, .gcOnly .lateStores⟩], none⟩) (v := .agg (([.int .i64 op, .int .i64 stage, .int .i64 4, .int .i64 o0, .int .i64 since, .int .i64 left, .bool awoke, .bool starve, .int .i64 need, .bool front] : List Value)).toArray) rfl (by kernel_rfl) (by kernel_rfl) (by kernel_rfl) (fun _ _ _ h => h) (yieldsIf_load_mid (by rfl) _ _ (by rfl) (q + 1) (0) (by rfl) _ _ (fun wv hS => blk_rngl hS.out.2) Try.underlying31 (by rfl) (by kernel_rfl)) hS ?_
        try simp only [Act.put, List.setIfInBounds_toArray, List.set_cons_zero, List.set_cons_succ]
        refine wpAnyH_take (i := 2) (oi := ⟨some 109, .build 38 #[], 38, "ref.go:69", #[⟨4, .gcOnly .lateStores⟩], none⟩) (v := ?_) rfl (by kernel_rfl) (by kernel_rfl) (by kernel_rfl) (fun _ _ _ h => h) (Or.inl ⟨by rfl, ?_⟩) hS ?_
        rotate_left
        · intro wv _; go_simp; try with_reducible rfl
        try simp only [Act.put, List.setIfInBounds_toArray, List.set_cons_zero, List.set_cons_succ]
        refine wpAnyH_ready (rs := [3]) (by kernel_rfl) (by simp) (AllReadyH.cons (o := ⟨none, .store 29 (.tmp 8) (.tmp 107), 0, "ref.go:69", #[⟨0, .data⟩, ⟨0, .phase⟩, ⟨1, .textOnly .lateStores⟩, ⟨2, .textOnly .lateStores⟩], none⟩) rfl (fun K hK => ?_) AllReadyH.nil)
        refine op_storeS (by rfl) rfl rfl rfl (there_blk (HF0.out.blk 2 _ rfl) rfl) (by kernel_rfl) (by simp [Value.oneCell']) hh1.out ?_
        replace hS := Lib.hid (And.intro (HF1.out.blk 0 _ rfl) (HF1.out.blk 1 _ rfl))
        refine Shut.out hK _ _ hS (fun _ => ?_)
        clear hK K
        try simp only [Act.put, List.setIfInBounds_toArray, List.set_cons_zero, List.set_cons_succ]
        refine wpAnyH_ready (rs := [4]) (by kernel_rfl) (by simp) (AllReadyH.cons (o := ⟨none, .store 31 (.tmp 9) (.tmp 108), 0, "ref.go:69", #[⟨1, .data⟩, ⟨3, .chain⟩, ⟨0, .phase⟩, ⟨1, .phase⟩, ⟨2, .textOnly .lateStores⟩, ⟨3, .phase⟩], none⟩) rfl (fun K hK => ?_) AllReadyH.nil)
        refine op_storeS (by rfl) rfl rfl rfl (there_blk (HF1.out.blk 3 _ rfl) rfl) (by kernel_rfl) (by simp [Value.oneCell']) hh2.out ?_
        replace hS := Lib.hid (And.intro (HF2.out.blk 0 _ rfl) (HF2.out.blk 1 _ rfl))
        refine Shut.out hK _ _ hS (fun _ => ?_)
        clear hK K
        try simp only [Act.put, List.setIfInBounds_toArray, List.set_cons_zero, List.set_cons_succ]
        refine wpAnyH_ready (rs := [5]) (by kernel_rfl) (by simp) (AllReadyH.cons (o := ⟨none, .store 38 (.tmp 10) (.tmp 109), 0, "ref.go:69", #[⟨2, .data⟩, ⟨4, .chain⟩, ⟨0, .phase⟩, ⟨1, .phase⟩, ⟨2, .phase⟩, ⟨3, .phase⟩, ⟨4, .phase⟩], none⟩) rfl (fun K hK => ?_) AllReadyH.nil)
        refine op_storeS (by rfl) rfl rfl rfl (there_blk (HF2.out.blk 4 _ rfl) rfl) (by kernel_rfl) (by simp [Value.oneCell']) hh3.out ?_
        replace hS := Lib.hid (And.intro (HF3.out.blk 0 _ rfl) (HF3.out.blk 1 _ rfl))
        refine Shut.out hK _ _ hS (fun _ => ?_)
        clear hK K
        try simp only [Act.put, List.setIfInBounds_toArray, List.set_cons_zero, List.set_cons_succ]
        refine wpAnyH_done (by kernel_rfl) ?_ _
        refine NoPanic.normal ?_
        go_wp2
        refine bodyPost_ret (res_ccc Try.results34 (by rfl) (by rfl) (by rfl) (HF3.out.load 2 rfl rfl Try.underlying29 (by kernel_rfl)) (HF3.out.load 3 rfl rfl Try.underlying31 (by kernel_rfl)) (HF3.out.load 4 rfl rfl Try.underlying38 (by kernel_rfl))) rfl ?_
        replace FR := HF3
        rw [HE.out]
        exact ⟨rfl, FR.out.out⟩
    · rw [hc] at HO
      cases hb2 : decide (hasBit o0 2)
      · rw [hb2] at B2
        replace B2 := Lib.hid B2
        have HE := Lib.hid (show lockM o0 ⟨op, stage, 3, old, since, left, awoke, starve, need, front⟩ now pat = (o0, ⟨op, stage, 2, o0, since, left, true, true, need, front⟩, noA) from HO.trans (by simp only [Bool.or_false, Bool.or_true, if_neg (of_decide_eq_false hb2), decide_eq_true (of_decide_eq_false hb2)]))
        clear HO hb2
        go_enter Try.func34, Try.ntmps34
        have ac0 := row11 (b := q) (FR.out.at 0 rfl rfl)
        have ac1 := row10 (b := q + 1) (FR.out.at 1 rfl rfl)
        have af17 : v5.frozen? ⟨q + 1, 7, none⟩ = false := FR.out.frozen 1 7 rfl rfl
        obtain ⟨w6p, hw6p⟩ : ∃ W, (v5.setCell ⟨q + 1, 7, none⟩ (.bool true)) = W := ⟨_, rfl⟩
        replace FR := Lib.hid (((FR.out.set 1 7 rfl rfl (.bool true))).eqw hw6p)
        have bc0 := row11 (b := q) (FR.out.at 0 rfl rfl)
        have bc1 := row10 (b := q + 1) (FR.out.at 1 rfl rfl)
        have bf12 : w6p.frozen? ⟨q + 1, 2, none⟩ = false := FR.out.frozen 1 2 rfl rfl
        have bf13 : w6p.frozen? ⟨q + 1, 3, none⟩ = false := FR.out.frozen 1 3 rfl rfl
        obtain ⟨w7p, hw7p⟩ : ∃ W, ((w6p.setCell ⟨q + 1, 3, none⟩ (.int .i64 o0)).setCell ⟨q + 1, 2, none⟩ (.int .i64 4)) = W := ⟨_, rfl⟩
        replace FR := Lib.hid ((((FR.out.set 1 3 rfl rfl (.int .i64 o0)).set 1 2 rfl rfl (.int .i64 4))).eqw hw7p)
        have cc0 := row11 (b := q) (FR.out.at 0 rfl rfl)
        have cc1 := row10 (b := q + 1) (FR.out.at 1 rfl rfl)
        go_wp2_with fail
        refine (B2.out _).mono ?_
        rintro e wz ⟨rfl, hw⟩
        obtain rfl := hw.symm
        clear ac0 ac1 af17 bc0 bc1 bf12 bf13 cc0 cc1
        have ac0 := row11 (b := q) (FR.out.at 0 rfl rfl)
        have ac1 := row10 (b := q + 1) (FR.out.at 1 rfl rfl)
        have af12 : w7p.frozen? ⟨q + 1, 2, none⟩ = false := FR.out.frozen 1 2 rfl rfl
        have af16 : w7p.frozen? ⟨q + 1, 6, none⟩ = false := FR.out.frozen 1 6 rfl rfl
        obtain ⟨w8p, hw8p⟩ : ∃ W, ((w7p.setCell ⟨q + 1, 6, none⟩ (.bool true)).setCell ⟨q + 1, 2, none⟩ (.int .i64 2)) = W := ⟨_, rfl⟩
        replace FR := Lib.hid ((((FR.out.set 1 6 rfl rfl (.bool true)).set 1 2 rfl rfl (.int .i64 2))).eqw hw8p)
        have bc0 := row11 (b := q) (FR.out.at 0 rfl rfl)
        have bc1 := row10 (b := q + 1) (FR.out.at 1 rfl rfl)
        go_wp2
        clear ac0 ac1 af12 af16 bc0 bc1
        have HF0 := Lib.hid FR.out.drew
        obtain ⟨w9r, hw9r⟩ : ∃ W, w8p.drew.setCells (q + 2) 0 [.int .i64 kd, .int .i64 o0, .int .i64 o1, .int .i64 o2, .int .i64 o3, .int .i64 o4, .int .i64 o5, .int .u32 wa, .int .u32 to, .slice A n c, .slice B m d] = W := ⟨_, rfl⟩
        have HF1 := Lib.hid ((HF0.out.all 2 rfl rfl (by rfl)).eqw hw9r)
        have hh1 := Lib.hid hw9r
        clear hw9r
        obtain ⟨w10r, hw10r⟩ : ∃ W, w9r.setCells (q + 3) 0 [.int .i64 op, .int .i64 stage, .int .i64 2, .int .i64 o0, .int .i64 since, .int .i64 left, .bool true, .bool true, .int .i64 need, .bool front] = W := ⟨_, rfl⟩
        have HF2 := Lib.hid ((HF1.out.all 3 rfl rfl (by rfl)).eqw hw10r)
        have hh2 := Lib.hid hw10r
        clear hw10r
        obtain ⟨w11r, hw11r⟩ : ∃ W, w10r.setCells (q + 4) 0 [.bool false, .bool false, .bool false, .int .i64 0, .int .i64 0, .int .u64 0, .slice none 0 0] = W := ⟨_, rfl⟩
        have HF3 := Lib.hid ((HF2.out.all 4 rfl rfl (by rfl)).eqw hw11r)
        have hh3 := Lib.hid hw11r
        clear hw11r
        refine wp_region_noPanic ?_
        refine wp_region_held_drew (S := (fun wv => Hid (wv.heap[q]? = some (.cells #[.int .i64 kd, .int .i64 o0, .int .i64 o1, .int .i64 o2, .int .i64 o3, .int .i64 o4, .int .i64 o5, .int .u32 wa, .int .u32 to, .slice A n c, .slice B m d] 29) ∧ wv.heap[q + 1]? = some (.cells #[.int .i64 op, .int .i64 stage, .int .i64 2, .int .i64 o0, .int .i64 since, .int .i64 left, .bool true, .bool true, .int .i64 need, .bool front] 31)))) (by kernel_rfl) (Lib.hid (And.intro (HF0.out.blk 0 _ rfl) (HF0.out.blk 1 _ rfl))) (fun hS => ?_)
        refine wpAnyH_take (i := 0) (oi := ⟨some 107, .load 29 (.tmp 4), 29, "ref.go:69", #[], none⟩) (v := .agg (([.int .i64 kd, .int .i64 o0, .int .i64 o1, .int .i64 o2, .int .i64 o3, .int .i64 o4, .int .i64 o5, .int .u32 wa, .int .u32 to, .slice A n c, .slice B m d] : List Value)).toArray) rfl (by kernel_rfl) (by kernel_rfl) (by kernel_rfl) (fun _ _ _ h => h) (yieldsIf_load_mid (by rfl) _ _ (by rfl) (q) (0) (by rfl) _ _ (fun wv hS => blk_rngl hS.out.1) Try.underlying29 (by rfl) (by kernel_rfl)) hS ?_
        try simp only [Act.put, List.setIfInBounds_toArray, List.set_cons_zero, List.set_cons_succ]
        refine wpAnyH_take (i := 1) (oi := ⟨some 108, .load 31 (.tmp 5), 31, "ref.go:69", #[⟨3, .gcOnly .lateStores⟩], none⟩) (v := .agg (([.int .i64 op, .int .i64 stage, .int .i64 2, .int .i64 o0, .int .i64 since, .int .i64 left, .bool true, .bool true, .int .i64 need, .bool front] : List Value)).toArray) rfl (by kernel_rfl) (by kernel_rfl) (by kernel_rfl) (fun _ _ _ h => h) (yieldsIf_load_mid (by rfl) _ _ (by rfl) (q + 1) (0) (by rfl) _ _ (fun wv hS => blk_rngl hS.out.2) Try.underlying31 (by rfl) (by kernel_rfl)) hS ?_
        try simp only [Act.put, List.setIfInBounds_toArray, List.set_cons_zero, List.set_cons_succ]
        refine wpAnyH_take (i := 2) (oi := ⟨some 109, .build 38 #[], 38, "ref.go:69", #[⟨4, .gcOnly .lateStores⟩], none⟩) (v := ?_) rfl (by kernel_rfl) (by kernel_rfl) (by kernel_rfl) (fun _ _ _ h => h) (Or.inl ⟨by rfl, ?_⟩) hS ?_
        rotate_left
        · intro wv _; go_simp; try with_reducible rfl
        try simp only [Act.put, List.setIfInBounds_toArray, List.set_cons_zero, List.set_cons_succ]
        refine wpAnyH_ready (rs := [3]) (by kernel_rfl) (by simp) (AllReadyH.cons (o := ⟨none, .store 29 (.tmp 8) (.tmp 107), 0, "ref.go:69", #[⟨0, .data⟩, ⟨0, .phase⟩, ⟨1, .textOnly .lateStores⟩, ⟨2, .textOnly .lateStores⟩], none⟩) rfl (fun K hK => ?_) AllReadyH.nil)
        refine op_storeS (by rfl) rfl rfl rfl (there_blk (HF0.out.blk 2 _ rfl) rfl) (by kernel_rfl) (by simp [Value.oneCell']) hh1.out ?_
        replace hS := Lib.hid (And.intro (HF1.out.blk 0 _ rfl) (HF1.out.blk 1 _ rfl))
        refine Shut.out hK _ _ hS (fun _ => ?_)
        clear hK K
        try simp only [Act.put, List.setIfInBounds_toArray, List.set_cons_zero, List.set_cons_succ]
        refine wpAnyH_ready (rs := [4]) (by kernel_rfl) (by simp) (AllReadyH.cons (o := ⟨none, .store 31 (.tmp 9) (.tmp 108), 0, "ref.go:69", #[⟨1, .data⟩, ⟨3, .chain⟩, ⟨0, .phase⟩, ⟨1, .phase⟩, ⟨2, .textOnly .lateStores⟩, ⟨3, .phase⟩], none⟩) rfl (fun K hK => ?_) AllReadyH.nil)
        refine op_storeS (by rfl) rfl rfl rfl (there_blk (HF1.out.blk 3 _ rfl) rfl) (by kernel_rfl) (by simp [Value.oneCell']) hh2.out ?_
        replace hS := Lib.hid (And.intro (HF2.out.blk 0 _ rfl) (HF2.out.blk 1 _ rfl))
        refine Shut.out hK _ _ hS (fun _ => ?_)
        clear hK K
        try simp only [Act.put, List.setIfInBounds_toArray, List.set_cons_zero, List.set_cons_succ]
        refine wpAnyH_ready (rs := [5]) (by kernel_rfl) (by simp) (AllReadyH.cons (o := ⟨none, .store 38 (.tmp 10) (.tmp 109), 0, "ref.go:69", #[⟨2, .data⟩, ⟨4, .chain⟩, ⟨0, .phase⟩, ⟨1, .phase⟩, ⟨2, .phase⟩, ⟨3, .phase⟩, ⟨4, .phase⟩], none⟩) rfl (fun K hK => ?_) AllReadyH.nil)
        refine op_storeS (by rfl) rfl rfl rfl (there_blk (HF2.out.blk 4 _ rfl) rfl) (by kernel_rfl) (by simp [Value.oneCell']) hh3.out ?_
        replace hS := Lib.hid (And.intro (HF3.out.blk 0 _ rfl) (HF3.out.blk 1 _ rfl))
        refine Shut.out hK _ _ hS (fun _ => ?_)
        clear hK K
        try simp only [Act.put, List.setIfInBounds_toArray, List.set_cons_zero, List.set_cons_succ]
        refine wpAnyH_done (by kernel_rfl) ?_ _
        refine NoPanic.normal ?_
        go_wp2
        refine bodyPost_ret (res_ccc Try.results34 (by rfl) (by rfl) (by rfl) (HF3.out.load 2 rfl rfl Try.underlying29 (by kernel_rfl)) (HF3.out.load 3 rfl rfl Try.underlying31 (by kernel_rfl)) (HF3.out.load 4 rfl rfl Try.underlying38 (by kernel_rfl))) rfl ?_
        replace FR := HF3
        rw [HE.out]
        exact ⟨rfl, FR.out.out⟩
      · rw [hb2] at B2
        replace B2 := Lib.hid B2
        have hnb : decide (¬ hasBit o0 2) = false := decide_eq_false (not_not_intro (of_decide_eq_true hb2))
        have HE := Lib.hid (show lockM o0 ⟨op, stage, 3, old, since, left, awoke, starve, need, front⟩ now pat = (o0, ⟨op, stage, 4, o0, since, left, awoke, true, need, front⟩, noA) from HO.trans (by simp only [Bool.or_false, Bool.or_true, if_pos (of_decide_eq_true hb2), hnb]))
        clear HO hb2 hnb
        go_enter Try.func34, Try.ntmps34
        have ac0 := row11 (b := q) (FR.out.at 0 rfl rfl)
        have ac1 := row10 (b := q + 1) (FR.out.at 1 rfl rfl)
        have af17 : v5.frozen? ⟨q + 1, 7, none⟩ = false := FR.out.frozen 1 7 rfl rfl
        obtain ⟨w6p, hw6p⟩ : ∃ W, (v5.setCell ⟨q + 1, 7, none⟩ (.bool true)) = W := ⟨_, rfl⟩
        replace FR := Lib.hid (((FR.out.set 1 7 rfl rfl (.bool true))).eqw hw6p)
        have bc0 := row11 (b := q) (FR.out.at 0 rfl rfl)
        have bc1 := row10 (b := q + 1) (FR.out.at 1 rfl rfl)
        have bf12 : w6p.frozen? ⟨q + 1, 2, none⟩ = false := FR.out.frozen 1 2 rfl rfl
        have bf13 : w6p.frozen? ⟨q + 1, 3, none⟩ = false := FR.out.frozen 1 3 rfl rfl
        obtain ⟨w7p, hw7p⟩ : ∃ W, ((w6p.setCell ⟨q + 1, 3, none⟩ (.int .i64 o0)).setCell ⟨q + 1, 2, none⟩ (.int .i64 4)) = W := ⟨_, rfl⟩
        replace FR := Lib.hid ((((FR.out.set 1 3 rfl rfl (.int .i64 o0)).set 1 2 rfl rfl (.int .i64 4))).eqw hw7p)
        have cc0 := row11 (b := q) (FR.out.at 0 rfl rfl)
        have cc1 := row10 (b := q + 1) (FR.out.at 1 rfl rfl)
        go_wp2_with fail
        refine (B2.out _).mono ?_
        rintro e wz ⟨rfl, hw⟩
        obtain rfl := hw.symm
        clear ac0 ac1 af17 bc0 bc1 bf12 bf13 cc0 cc1
        have ac0 := row11 (b := q) (FR.out.at 0 rfl rfl)
        have ac1 := row10 (b := q + 1) (FR.out.at 1 rfl rfl)
        go_wp2
        clear ac0 ac1
        have HF0 := Lib.hid FR.out.drew
        obtain ⟨w8r, hw8r⟩ : ∃ W, w7p.drew.setCells (q + 2) 0 [.int .i64 kd, .int .i64 o0, .int .i64 o1, .int .i64 o2, .int .i64 o3, .int .i64 o4, .int .i64 o5, .int .u32 wa, .int .u32 to, .slice A n c, .slice B m d] = W := ⟨_, rfl⟩
        have HF1 := Lib.hid ((HF0.out.all 2 rfl rfl (by rfl)).eqw hw8r)
        have hh1 := Lib.hid hw8r
        clear hw8r
        obtain ⟨w9r, hw9r⟩ : ∃ W, w8r.setCells (q + 3) 0 [.int .i64 op, .int .i64 stage, .int .i64 4, .int .i64 o0, .int .i64 since, .int .i64 left, .bool awoke, .bool true, .int .i64 need, .bool front] = W := ⟨_, rfl⟩
        have HF2 := Lib.hid ((HF1.out.all 3 rfl rfl (by rfl)).eqw hw9r)
        have hh2 := Lib.hid hw9r
        clear hw9r
        obtain ⟨w10r, hw10r⟩ : ∃ W, w9r.setCells (q + 4) 0 [.bool false, .bool false, .bool false, .int .i64 0, .int .i64 0, .int .u64 0, .slice none 0 0] = W := ⟨_, rfl⟩
        have HF3 := Lib.hid ((HF2.out.all 4 rfl rfl (by rfl)).eqw hw10r)
        have hh3 := Lib.hid hw10r
        clear hw10r
        refine wp_region_noPanic ?_
        refine wp_region_held_drew (S := (fun wv => Hid (wv.heap[q]? = some (.cells #[.int .i64 kd, .int .i64 o0, .int .i64 o1, .int .i64 o2, .int .i64 o3, .int .i64 o4, .int .i64 o5, .int .u32 wa, .int .u32 to, .slice A n c, .slice B m d] 29) ∧ wv.heap[q + 1]? = some (.cells #[.int .i64 op, .int .i64 stage, .int .i64 4, .int .i64 o0, .int .i64 since, .int .i64 left, .bool awoke, .bool true, .int .i64 need, .bool front] 31)))) (by kernel_rfl) (Lib.hid (And.intro (HF0.out.blk 0 _ rfl) (HF0.out.blk 1 _ rfl))) (fun hS => ?_)
        refine wpAnyH_take (i := 0) (oi := ⟨some 107, .load 29 (.tmp 4), 29, "ref.go:69", #[], none⟩) (v := .agg (([.int .i64 kd, .int .i64 o0, .int .i64 o1, .int .i64 o2, .int .i64 o3, .int .i64 o4, .int .i64 o5, .int .u32 wa, .int .u32 to, .slice A n c, .slice B m d] : List Value)).toArray) rfl (by kernel_rfl) (by kernel_rfl) (by kernel_rfl) (fun _ _ _ h => h) (yieldsIf_load_mid (by rfl) _ _ (by rfl) (q) (0) (by rfl) _ _ (fun wv hS => blk_rngl hS.out.1) Try.underlying29 (by rfl) (by kernel_rfl)) hS ?_
        try simp only [Act.put, List.setIfInBounds_toArray, List.set_cons_zero, List.set_cons_succ]
        refine wpAnyH_take (i := 1) (oi := ⟨some 108, .load 31 (.tmp 5), 31, "ref.go:69", #[⟨3, .gcOnly .lateStores⟩], none⟩) (v := .agg (([.int .i64 op, .int .i64 stage, .int .i64 4, .int .i64 o0, .int .i64 since, .int .i64 left, .bool awoke, .bool true, .int .i64 need, .bool front] : List Value)).toArray) rfl (by kernel_rfl) (by kernel_rfl) (by kernel_rfl) (fun _ _ _ h => h) (yieldsIf_load_mid (by rfl) _ _ (by rfl) (q + 1) (0) (by rfl) _ _ (fun wv hS => blk_rngl hS.out.2) Try.underlying31 (by rfl) (by kernel_rfl)) hS ?_
        try simp only [Act.put, List.setIfInBounds_toArray, List.set_cons_zero, List.set_cons_succ]
        refine wpAnyH_take (i := 2) (oi := ⟨some 109, .build 38 #[], 38, "ref.go:69", #[⟨4, .gcOnly .lateStores⟩], none⟩) (v := ?_) rfl (by kernel_rfl) (by kernel_rfl) (by kernel_rfl) (fun _ _ _ h => h) (Or.inl ⟨by rfl, ?_⟩) hS ?_
        rotate_left
        · intro wv _; go_simp; try with_reducible rfl
        try simp only [Act.put, List.setIfInBounds_toArray, List.set_cons_zero, List.set_cons_succ]
        refine wpAnyH_ready (rs := [3]) (by kernel_rfl) (by simp) (AllReadyH.cons (o := ⟨none, .store 29 (.tmp 8) (.tmp 107), 0, "ref.go:69", #[⟨0, .data⟩, ⟨0, .phase⟩, ⟨1, .textOnly .lateStores⟩, ⟨2, .textOnly .lateStores⟩], none⟩) rfl (fun K hK => ?_) AllReadyH.nil)
        refine op_storeS (by rfl) rfl rfl rfl (there_blk (HF0.out.blk 2 _ rfl) rfl) (by kernel_rfl) (by simp [Value.oneCell']) hh1.out ?_
        replace hS := Lib.hid (And.intro (HF1.out.blk 0 _ rfl) (HF1.out.blk 1 _ rfl))
        refine Shut.out hK _ _ hS (fun _ => ?_)
        clear hK K
        try simp only [Act.put, List.setIfInBounds_toArray, List.set_cons_zero, List.set_cons_succ]
        refine wpAnyH_ready (rs := [4]) (by kernel_rfl) (by simp) (AllReadyH.cons (o := ⟨none, .store 31 (.tmp 9) (.tmp 108), 0, "ref.go:69", #[⟨1, .data⟩, ⟨3, .chain⟩, ⟨0, .phase⟩, ⟨1, .phase⟩, ⟨2, .textOnly .lateStores⟩, ⟨3, .phase⟩], none⟩) rfl (fun K hK => ?_) AllReadyH.nil)
        refine op_storeS (by rfl) rfl rfl rfl (there_blk (HF1.out.blk 3 _ rfl) rfl) (by kernel_rfl) (by simp [Value.oneCell']) hh2.out ?_
        replace hS := Lib.hid (And.intro (HF2.out.blk 0 _ rfl) (HF2.out.blk 1 _ rfl))
        refine Shut.out hK _ _ hS (fun _ => ?_)
        clear hK K
        try simp only [Act.put, List.setIfInBounds_toArray, List.set_cons_zero, List.set_cons_succ]
        refine wpAnyH_ready (rs := [5]) (by kernel_rfl) (by simp) (AllReadyH.cons (o := ⟨none, .store 38 (.tmp 10) (.tmp 109), 0, "ref.go:69", #[⟨2, .data⟩, ⟨4, .chain⟩, ⟨0, .phase⟩, ⟨1, .phase⟩, ⟨2, .phase⟩, ⟨3, .phase⟩, ⟨4, .phase⟩], none⟩) rfl (fun K hK => ?_) AllReadyH.nil)
        refine op_storeS (by rfl) rfl rfl rfl (there_blk (HF2.out.blk 4 _ rfl) rfl) (by kernel_rfl) (by simp [Value.oneCell']) hh3.out ?_
        replace hS := Lib.hid (And.intro (HF3.out.blk 0 _ rfl) (HF3.out.blk 1 _ rfl))
        refine Shut.out hK _ _ hS (fun _ => ?_)
        clear hK K
        try simp only [Act.put, List.setIfInBounds_toArray, List.set_cons_zero, List.set_cons_succ]
        refine wpAnyH_done (by kernel_rfl) ?_ _
        refine NoPanic.normal ?_
        go_wp2
        refine bodyPost_ret (res_ccc Try.results34 (by rfl) (by rfl) (by rfl) (HF3.out.load 2 rfl rfl Try.underlying29 (by kernel_rfl)) (HF3.out.load 3 rfl rfl Try.underlying31 (by kernel_rfl)) (HF3.out.load 4 rfl rfl Try.underlying38 (by kernel_rfl))) rfl ?_
        replace FR := HF3
        rw [HE.out]
        exact ⟨rfl, FR.out.out⟩
  have n3 : (phase == 3) = false := by simp [p3]
  by_cases p4 : phase = 4
  · subst p4
    have HO : lockM o0 ⟨op, stage, 4, old, since, left, awoke, starve, need, front⟩ now pat = (IntKind.i64.wrap (o0 - (if starve = false ∨ old / 8 = 1 then 11 else 7)), noF, doneA) := by
      unfold lockM
      rw [if_neg (fun h => (show ¬ ((4 : Int) = 0) by decide) h.1), if_neg (fun h => by rcases h with h | h; exact (show ¬ ((4 : Int) = 0) by decide) h; exact (show ¬ ((4 : Int) = 2) by decide) h.1), if_neg (fun h => (show ¬ ((4 : Int) = 1) by decide) h), if_neg (fun h => (show ¬ ((4 : Int) = 2) by decide) h), if_neg (fun h => (show ¬ ((4 : Int) = 3) by decide) h), if_pos rfl]
    obtain ⟨x, hx⟩ : ∃ x, old / 8 = x := ⟨_, rfl⟩
    have hx2 : old / 2 ^ 3 = x := hx
    rw [hx] at HO
    clear p0 p1 p2 p3 n0 n1 n2 n3
    cases starve
    · obtain ⟨z, hz⟩ : ∃ z, IntKind.i64.wrap (o0 - 11) = z := ⟨_, rfl⟩
      have HE := Lib.hid (HO.trans (show _ = (z, noF, doneA) from by rw [if_pos (Or.inl rfl), hz]))
      clear HO
      go_enter Try.func34, Try.ntmps34
      have ac0 := row11 (b := q) (FR.out.at 0 rfl rfl)
      have af01 : v5.frozen? ⟨q, 1, none⟩ = false := FR.out.frozen 0 1 rfl rfl
      have ac1 := row10 (b := q + 1) (FR.out.at 1 rfl rfl)
      obtain ⟨w6p, hw6p⟩ : ∃ W, (v5.setCell ⟨q, 1, none⟩ (.int .i64 z)) = W := ⟨_, rfl⟩
      replace FR := Lib.hid (((FR.out.set 0 1 rfl rfl (.int .i64 z))).eqw hw6p)
      have bc0 := row11 (b := q) (FR.out.at 0 rfl rfl)
      have bc1 := row10 (b := q + 1) (FR.out.at 1 rfl rfl)
      obtain ⟨mw7r, w7r, hw7r, hse, F⟩ := FR.out.put11 2 rfl (b := q + 2) rfl (.int .i64 kd) (.int .i64 z) (.int .i64 o1) (.int .i64 o2) (.int .i64 o3) (.int .i64 o4) (.int .i64 o5) (.int .u32 wa) (.int .u32 to) (.slice A n c) (.slice B m d)
      replace FR := F
      clear F hse
      obtain ⟨mw8r, w8r, hw8r, hse, F⟩ := FR.out.put10 3 rfl (b := q + 3) rfl (.int .i64 0) (.int .i64 0) (.int .i64 0) (.int .i64 0) (.int .i64 0) (.int .i64 0) (.bool false) (.bool false) (.int .i64 0) (.bool false)
      replace FR := F
      clear F hse
      obtain ⟨mw9r, w9r, hw9r, hse, F⟩ := FR.out.put7 4 rfl (b := q + 4) rfl (.bool true) (.bool false) (.bool false) (.int .i64 0) (.int .i64 0) (.int .u64 0) (.slice none 0 0)
      replace FR := F
      clear F hse
      go_wp2
      refine bodyPost_ret (res_ccc Try.results34 (by rfl) (by rfl) (by rfl) (FR.out.load 2 rfl rfl Try.underlying29 (by kernel_rfl)) (FR.out.load 3 rfl rfl Try.underlying31 (by kernel_rfl)) (FR.out.load 4 rfl rfl Try.underlying38 (by kernel_rfl))) rfl ?_
      rw [HE.out]
      exact ⟨rfl, FR.out.out⟩
    · by_cases h1 : x = 1
      · have e1 : (x == 1) = true := by simp [h1]
        obtain ⟨z, hz⟩ : ∃ z, IntKind.i64.wrap (o0 - 11) = z := ⟨_, rfl⟩
        have HE := Lib.hid (HO.trans (show _ = (z, noF, doneA) from by rw [if_pos (Or.inr h1), hz]))
        clear HO
        go_enter Try.func34, Try.ntmps34
        have ac0 := row11 (b := q) (FR.out.at 0 rfl rfl)
        have af01 : v5.frozen? ⟨q, 1, none⟩ = false := FR.out.frozen 0 1 rfl rfl
        have ac1 := row10 (b := q + 1) (FR.out.at 1 rfl rfl)
        obtain ⟨w6p, hw6p⟩ : ∃ W, (v5.setCell ⟨q, 1, none⟩ (.int .i64 z)) = W := ⟨_, rfl⟩
        replace FR := Lib.hid (((FR.out.set 0 1 rfl rfl (.int .i64 z))).eqw hw6p)
        have bc0 := row11 (b := q) (FR.out.at 0 rfl rfl)
        have bc1 := row10 (b := q + 1) (FR.out.at 1 rfl rfl)
        obtain ⟨mw7r, w7r, hw7r, hse, F⟩ := FR.out.put11 2 rfl (b := q + 2) rfl (.int .i64 kd) (.int .i64 z) (.int .i64 o1) (.int .i64 o2) (.int .i64 o3) (.int .i64 o4) (.int .i64 o5) (.int .u32 wa) (.int .u32 to) (.slice A n c) (.slice B m d)
        replace FR := F
        clear F hse
        obtain ⟨mw8r, w8r, hw8r, hse, F⟩ := FR.out.put10 3 rfl (b := q + 3) rfl (.int .i64 0) (.int .i64 0) (.int .i64 0) (.int .i64 0) (.int .i64 0) (.int .i64 0) (.bool false) (.bool false) (.int .i64 0) (.bool false)
        replace FR := F
        clear F hse
        obtain ⟨mw9r, w9r, hw9r, hse, F⟩ := FR.out.put7 4 rfl (b := q + 4) rfl (.bool true) (.bool false) (.bool false) (.int .i64 0) (.int .i64 0) (.int .u64 0) (.slice none 0 0)
        replace FR := F
        clear F hse
        go_wp2
        refine bodyPost_ret (res_ccc Try.results34 (by rfl) (by rfl) (by rfl) (FR.out.load 2 rfl rfl Try.underlying29 (by kernel_rfl)) (FR.out.load 3 rfl rfl Try.underlying31 (by kernel_rfl)) (FR.out.load 4 rfl rfl Try.underlying38 (by kernel_rfl))) rfl ?_
        rw [HE.out]
        exact ⟨rfl, FR.out.out⟩
      · have e1 : (x == 1) = false := by simp [h1]
        obtain ⟨z, hz⟩ : ∃ z, IntKind.i64.wrap (o0 - 7) = z := ⟨_, rfl⟩
        have HE := Lib.hid (HO.trans (show _ = (z, noF, doneA) from by rw [if_neg (fun h => by rcases h with h | h; cases h; exact h1 h), hz]))
        clear HO
        go_enter Try.func34, Try.ntmps34
        have ac0 := row11 (b := q) (FR.out.at 0 rfl rfl)
        have af01 : v5.frozen? ⟨q, 1, none⟩ = false := FR.out.frozen 0 1 rfl rfl
        have ac1 := row10 (b := q + 1) (FR.out.at 1 rfl rfl)
        obtain ⟨w6p, hw6p⟩ : ∃ W, (v5.setCell ⟨q, 1, none⟩ (.int .i64 z)) = W := ⟨_, rfl⟩
        replace FR := Lib.hid (((FR.out.set 0 1 rfl rfl (.int .i64 z))).eqw hw6p)
        have bc0 := row11 (b := q) (FR.out.at 0 rfl rfl)
        have bc1 := row10 (b := q + 1) (FR.out.at 1 rfl rfl)
        obtain ⟨mw7r, w7r, hw7r, hse, F⟩ := FR.out.put11 2 rfl (b := q + 2) rfl (.int .i64 kd) (.int .i64 z) (.int .i64 o1) (.int .i64 o2) (.int .i64 o3) (.int .i64 o4) (.int .i64 o5) (.int .u32 wa) (.int .u32 to) (.slice A n c) (.slice B m d)
        replace FR := F
        clear F hse
        obtain ⟨mw8r, w8r, hw8r, hse, F⟩ := FR.out.put10 3 rfl (b := q + 3) rfl (.int .i64 0) (.int .i64 0) (.int .i64 0) (.int .i64 0) (.int .i64 0) (.int .i64 0) (.bool false) (.bool false) (.int .i64 0) (.bool false)
        replace FR := F
        clear F hse
        obtain ⟨mw9r, w9r, hw9r, hse, F⟩ := FR.out.put7 4 rfl (b := q + 4) rfl (.bool true) (.bool false) (.bool false) (.int .i64 0) (.int .i64 0) (.int .u64 0) (.slice none 0 0)
        replace FR := F
        clear F hse
        go_wp2
        refine bodyPost_ret (res_ccc Try.results34 (by rfl) (by rfl) (by rfl) (FR.out.load 2 rfl rfl Try.underlying29 (by kernel_rfl)) (FR.out.load 3 rfl rfl Try.underlying31 (by kernel_rfl)) (FR.out.load 4 rfl rfl Try.underlying38 (by kernel_rfl))) rfl ?_
        rw [HE.out]
        exact ⟨rfl, FR.out.out⟩
  have n4 : (phase == 4) = false := by simp [p4]
  have HE := Lib.hid (show lockM o0 ⟨op, stage, phase, old, since, left, awoke, starve, need, front⟩ now pat = (o0, ⟨op, stage, phase, old, since, left, awoke, starve, need, front⟩, noA) from by
    unfold lockM
    rw [if_neg (fun h => p0 h.1), if_neg (fun h => by rcases h with h | h; exact p0 h; exact p2 h.1), if_neg p1, if_neg p2, if_neg p3, if_neg p4])
  clear p0 p1 p2 p3 p4
  go_enter Try.func34, Try.ntmps34
  have ac0 := row11 (b := q) (FR.out.at 0 rfl rfl)
  have ac1 := row10 (b := q + 1) (FR.out.at 1 rfl rfl)
  go_wp2
  clear ac0 ac1
  have HF0 := Lib.hid FR.out.drew
  obtain ⟨w6r, hw6r⟩ : ∃ W, v5.drew.setCells (q + 2) 0 [.int .i64 kd, .int .i64 o0, .int .i64 o1, .int .i64 o2, .int .i64 o3, .int .i64 o4, .int .i64 o5, .int .u32 wa, .int .u32 to, .slice A n c, .slice B m d] = W := ⟨_, rfl⟩
  have HF1 := Lib.hid ((HF0.out.all 2 rfl rfl (by rfl)).eqw hw6r)
  have hh1 := Lib.hid hw6r
  clear hw6r
  obtain ⟨w7r, hw7r⟩ : ∃ W, w6r.setCells (q + 3) 0 [.int .i64 op, .int .i64 stage, .int .i64 phase, .int .i64 old, .int .i64 since, .int .i64 left, .bool awoke, .bool starve, .int .i64 need, .bool front] = W := ⟨_, rfl⟩
  have HF2 := Lib.hid ((HF1.out.all 3 rfl rfl (by rfl)).eqw hw7r)
  have hh2 := Lib.hid hw7r
  clear hw7r
  obtain ⟨w8r, hw8r⟩ : ∃ W, w7r.setCells (q + 4) 0 [.bool false, .bool false, .bool false, .int .i64 0, .int .i64 0, .int .u64 0, .slice none 0 0] = W := ⟨_, rfl⟩
  have HF3 := Lib.hid ((HF2.out.all 4 rfl rfl (by rfl)).eqw hw8r)
  have hh3 := Lib.hid hw8r
  clear hw8r
  refine wp_region_noPanic ?_
  refine wp_region_held_drew (S := (fun wv => Hid (wv.heap[q]? = some (.cells #[.int .i64 kd, .int .i64 o0, .int .i64 o1, .int .i64 o2, .int .i64 o3, .int .i64 o4, .int .i64 o5, .int .u32 wa, .int .u32 to, .slice A n c, .slice B m d] 29) ∧ wv.heap[q + 1]? = some (.cells #[.int .i64 op, .int .i64 stage, .int .i64 phase, .int .i64 old, .int .i64 since, .int .i64 left, .bool awoke, .bool starve, .int .i64 need, .bool front] 31)))) (by kernel_rfl) (Lib.hid (And.intro (HF0.out.blk 0 _ rfl) (HF0.out.blk 1 _ rfl))) (fun hS => ?_)
  refine wpAnyH_take (i := 0) (oi := ⟨some 130, .load 29 (.tmp 4), 29, "ref.go:79", #[], none⟩) (v := .agg (([.int .i64 kd, .int .i64 o0, .int .i64 o1, .int .i64 o2, .int .i64 o3, .int .i64 o4, .int .i64 o5, .int .u32 wa, .int .u32 to, .slice A n c, .slice B m d] : List Value)).toArray) rfl (by kernel_rfl) (by kernel_rfl) (by kernel_rfl) (fun _ _ _ h => h) (yieldsIf_load_mid (by rfl) _ _ (by rfl) (q) (0) (by rfl) _ _ (fun wv hS => blk_rngl hS.out.1) Try.underlying29 (by rfl) (by kernel_rfl)) hS ?_
  try simp only [Act.put, List.setIfInBounds_toArray, List.set_cons_zero, List.set_cons_succ]
  refine wpAnyH_take (i := 1) (oi := ⟨some 131, .load 31 (.tmp 5), 31, "ref.go:79", #[⟨3, .gcOnly .lateStores⟩], none⟩) (v := .agg (([.int .i64 op, .int .i64 stage, .int .i64 phase, .int .i64 old, .int .i64 since, .int .i64 left, .bool awoke, .bool starve, .int .i64 need, .bool front] : List Value)).toArray) rfl (by kernel_rfl) (by kernel_rfl) (by kernel_rfl) (fun _ _ _ h => h) (yieldsIf_load_mid (by rfl) _ _ (by rfl) (q + 1) (0) (by rfl) _ _ (fun wv hS => blk_rngl hS.out.2) Try.underlying31 (by rfl) (by kernel_rfl)) hS ?_
  try simp only [Act.put, List.setIfInBounds_toArray, List.set_cons_zero, List.set_cons_succ]
  refine wpAnyH_take (i := 2) (oi := ⟨some 132, .build 38 #[], 38, "ref.go:79", #[⟨4, .gcOnly .lateStores⟩], none⟩) (v := ?_) rfl (by kernel_rfl) (by kernel_rfl) (by kernel_rfl) (fun _ _ _ h => h) (Or.inl ⟨by rfl, ?_⟩) hS ?_
  rotate_left
  · intro wv _; go_simp; try with_reducible rfl
  try simp only [Act.put, List.setIfInBounds_toArray, List.set_cons_zero, List.set_cons_succ]
  refine wpAnyH_ready (rs := [3]) (by kernel_rfl) (by simp) (AllReadyH.cons (o := ⟨none, .store 29 (.tmp 8) (.tmp 130), 0, "ref.go:79", #[⟨0, .data⟩, ⟨0, .phase⟩, ⟨1, .textOnly .lateStores⟩, ⟨2, .textOnly .lateStores⟩], none⟩) rfl (fun K hK => ?_) AllReadyH.nil)
  refine op_storeS (by rfl) rfl rfl rfl (there_blk (HF0.out.blk 2 _ rfl) rfl) (by kernel_rfl) (by simp [Value.oneCell']) hh1.out ?_
  replace hS := Lib.hid (And.intro (HF1.out.blk 0 _ rfl) (HF1.out.blk 1 _ rfl))
  refine Shut.out hK _ _ hS (fun _ => ?_)
  clear hK K
  try simp only [Act.put, List.setIfInBounds_toArray, List.set_cons_zero, List.set_cons_succ]
  refine wpAnyH_ready (rs := [4]) (by kernel_rfl) (by simp) (AllReadyH.cons (o := ⟨none, .store 31 (.tmp 9) (.tmp 131), 0, "ref.go:79", #[⟨1, .data⟩, ⟨3, .chain⟩, ⟨0, .phase⟩, ⟨1, .phase⟩, ⟨2, .textOnly .lateStores⟩, ⟨3, .phase⟩], none⟩) rfl (fun K hK => ?_) AllReadyH.nil)
  refine op_storeS (by rfl) rfl rfl rfl (there_blk (HF1.out.blk 3 _ rfl) rfl) (by kernel_rfl) (by simp [Value.oneCell']) hh2.out ?_
  replace hS := Lib.hid (And.intro (HF2.out.blk 0 _ rfl) (HF2.out.blk 1 _ rfl))
  refine Shut.out hK _ _ hS (fun _ => ?_)
  clear hK K
  try simp only [Act.put, List.setIfInBounds_toArray, List.set_cons_zero, List.set_cons_succ]
  refine wpAnyH_ready (rs := [5]) (by kernel_rfl) (by simp) (AllReadyH.cons (o := ⟨none, .store 38 (.tmp 10) (.tmp 132), 0, "ref.go:79", #[⟨2, .data⟩, ⟨4, .chain⟩, ⟨0, .phase⟩, ⟨1, .phase⟩, ⟨2, .phase⟩, ⟨3, .phase⟩, ⟨4, .phase⟩], none⟩) rfl (fun K hK => ?_) AllReadyH.nil)
  refine op_storeS (by rfl) rfl rfl rfl (there_blk (HF2.out.blk 4 _ rfl) rfl) (by kernel_rfl) (by simp [Value.oneCell']) hh3.out ?_
  replace hS := Lib.hid (And.intro (HF3.out.blk 0 _ rfl) (HF3.out.blk 1 _ rfl))
  refine Shut.out hK _ _ hS (fun _ => ?_)
  clear hK K
  try simp only [Act.put, List.setIfInBounds_toArray, List.set_cons_zero, List.set_cons_succ]
  refine wpAnyH_done (by kernel_rfl) ?_ _
  refine NoPanic.normal ?_
  go_wp2
  refine bodyPost_ret (res_ccc Try.results34 (by rfl) (by rfl) (by rfl) (HF3.out.load 2 rfl rfl Try.underlying29 (by kernel_rfl)) (HF3.out.load 3 rfl rfl Try.underlying31 (by kernel_rfl)) (HF3.out.load 4 rfl rfl Try.underlying38 (by kernel_rfl))) rfl ?_
  replace FR := HF3
  rw [HE.out]
  exact ⟨rfl, FR.out.out⟩
end Go.Proofs.Ytpkegfochfkkcaa
