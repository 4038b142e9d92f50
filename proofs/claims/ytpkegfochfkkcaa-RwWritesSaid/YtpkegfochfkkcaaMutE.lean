/- Layer 15: what the document's own Unlock answers; no condition. -/
import Derived.Test.YtpkegfochfkkcaaMutD
namespace Go.Proofs.Ytpkegfochfkkcaa
set_option linter.unusedVariables false
set_option linter.unusedSimpArgs false
open Go.RowKit
set_option maxRecDepth 100000 in
set_option maxHeartbeats 16000000 in
theorem unlock15_any (kd o0 o1 o2 o3 o4 o5 wa to : Int) (A : Option Addr) (n c : Nat) (B : Option Addr) (m d : Nat) (f : MFr) (w : World) : Calls Try.prog 39 #[obV kd o0 o1 o2 o3 o4 o5 wa to A n c B m d, frV f] w (StepC w kd o1 o2 o3 o4 o5 wa to A n c B m d (unlockM o0 f)) := by
  obtain ⟨op, stage, phase, old, since, left, awoke, starve, need, front⟩ := f
  unfold obV frV frC
  simp only
  have B0 := fun (x : Int) (W : World) => bit15_any x 0 (by omega) W
  have B1 := fun (x : Int) (W : World) => bit15_any x 1 (by omega) W
  have B2 := fun (x : Int) (W : World) => bit15_any x 2 (by omega) W
  obtain ⟨v1, hv1, z1, v2, hv2, z2, v3, hv3, z3, v4, hv4, z4, v5, hv5, z5, F⟩ := boxes5 w (.cells #[.int .i64 kd, .int .i64 o0, .int .i64 o1, .int .i64 o2, .int .i64 o3, .int .i64 o4, .int .i64 o5, .int .u32 wa, .int .u32 to, .slice A n c, .slice B m d] 29) (.cells #[.int .i64 op, .int .i64 stage, .int .i64 phase, .int .i64 old, .int .i64 since, .int .i64 left, .bool awoke, .bool starve, .int .i64 need, .bool front] 31) (.cells #[.int .i64 0, .int .i64 0, .int .i64 0, .int .i64 0, .int .i64 0, .int .i64 0, .int .i64 0, .int .u32 0, .int .u32 0, .slice none 0 0, .slice none 0 0] 29) (.cells #[.int .i64 0, .int .i64 0, .int .i64 0, .int .i64 0, .int .i64 0, .int .i64 0, .bool false, .bool false, .int .i64 0, .bool false] 31) (.cells #[.bool false, .bool false, .bool false, .int .i64 0, .int .i64 0, .int .u64 0, .slice none 0 0] 38)
  generalize hq : w.heap.size = q at *
  have FR := Lib.hid F
  clear F
  by_cases p0 : phase = 0
  · subst p0
    replace B0 := B0 o0
    clear B1
    cases hb0 : decide (hasBit o0 0)
    · rw [hb0] at B0
      replace B0 := Lib.hid B0
      clear B2
      have HE := Lib.hid (show unlockM o0 ⟨op, stage, 0, old, since, left, awoke, starve, need, front⟩ = (o0, noF, ⟨false, 0, false, 1⟩) from if_pos ⟨rfl, of_decide_eq_false hb0⟩)
      clear hb0
      go_enter Try.func39, Try.ntmps39
      have ac0 := row11 (b := q) (FR.out.at 0 rfl rfl)
      have ac1 := row10 (b := q + 1) (FR.out.at 1 rfl rfl)
      go_wp2_with fail
      refine (B0.out _).mono ?_
      rintro e wz ⟨rfl, hw⟩
      obtain rfl := hw.symm
      clear ac0 ac1
      have ac0 := row11 (b := q) (FR.out.at 0 rfl rfl)
      obtain ⟨mw6r, w6r, hw6r, hse, F⟩ := FR.out.put11 2 rfl (b := q + 2) rfl (.int .i64 kd) (.int .i64 o0) (.int .i64 o1) (.int .i64 o2) (.int .i64 o3) (.int .i64 o4) (.int .i64 o5) (.int .u32 wa) (.int .u32 to) (.slice A n c) (.slice B m d)
      replace FR := F
      clear F hse
      obtain ⟨mw7r, w7r, hw7r, hse, F⟩ := FR.out.put10 3 rfl (b := q + 3) rfl (.int .i64 0) (.int .i64 0) (.int .i64 0) (.int .i64 0) (.int .i64 0) (.int .i64 0) (.bool false) (.bool false) (.int .i64 0) (.bool false)
      replace FR := F
      clear F hse
      obtain ⟨mw8r, w8r, hw8r, hse, F⟩ := FR.out.put7 4 rfl (b := q + 4) rfl (.bool false) (.bool false) (.bool false) (.int .i64 0) (.int .i64 1) (.int .u64 0) (.slice none 0 0)
      replace FR := F
      clear F hse
      go_wp2
      refine bodyPost_ret (res_ccc Try.results39 (by rfl) (by rfl) (by rfl) (FR.out.load 2 rfl rfl Try.underlying29 (by kernel_rfl)) (FR.out.load 3 rfl rfl Try.underlying31 (by kernel_rfl)) (FR.out.load 4 rfl rfl Try.underlying38 (by kernel_rfl))) rfl ?_
      rw [HE.out]
      exact ⟨rfl, FR.out.out⟩
    · rw [hb0] at B0
      replace B0 := Lib.hid B0
      obtain ⟨z, hz⟩ : ∃ z, IntKind.i64.wrap (o0 - 1) = z := ⟨_, rfl⟩
      have HO : unlockM o0 ⟨op, stage, 0, old, since, left, awoke, starve, need, front⟩ = (if o0 = 1 then (0, noF, doneA) else (z, ⟨op, stage, if hasBit o0 2 then 2 else 1, z, since, left, awoke, starve, need, front⟩, noA)) := by
        unfold unlockM
        rw [if_neg (fun h => h.2 (of_decide_eq_true hb0)), if_pos rfl, hz]
      clear hb0
      by_cases h1 : o0 = 1
      · have e1 : (o0 == 1) = true := by simp [h1]
        have ez : z = 0 := by rw [← hz, h1]; rfl
        have HE := Lib.hid (HO.trans (if_pos h1))
        rw [ez] at hz
        clear HO B2 h1 ez
        go_enter Try.func39, Try.ntmps39
        have ac0 := row11 (b := q) (FR.out.at 0 rfl rfl)
        have ac1 := row10 (b := q + 1) (FR.out.at 1 rfl rfl)
        go_wp2_with fail
        refine (B0.out _).mono ?_
        rintro e wz ⟨rfl, hw⟩
        obtain rfl := hw.symm
        clear ac0 ac1
        have ac0 := row11 (b := q) (FR.out.at 0 rfl rfl)
        have af01 : v5.frozen? ⟨q, 1, none⟩ = false := FR.out.frozen 0 1 rfl rfl
        have ac1 := row10 (b := q + 1) (FR.out.at 1 rfl rfl)
        obtain ⟨w6p, hw6p⟩ : ∃ W, (v5.setCell ⟨q, 1, none⟩ (.int .i64 0)) = W := ⟨_, rfl⟩
        replace FR := Lib.hid (((FR.out.set 0 1 rfl rfl (.int .i64 0))).eqw hw6p)
        have bc0 := row11 (b := q) (FR.out.at 0 rfl rfl)
        have bc1 := row10 (b := q + 1) (FR.out.at 1 rfl rfl)
        obtain ⟨mw7r, w7r, hw7r, hse, F⟩ := FR.out.put11 2 rfl (b := q + 2) rfl (.int .i64 kd) (.int .i64 0) (.int .i64 o1) (.int .i64 o2) (.int .i64 o3) (.int .i64 o4) (.int .i64 o5) (.int .u32 wa) (.int .u32 to) (.slice A n c) (.slice B m d)
        replace FR := F
        clear F hse
        obtain ⟨mw8r, w8r, hw8r, hse, F⟩ := FR.out.put10 3 rfl (b := q + 3) rfl (.int .i64 0) (.int .i64 0) (.int .i64 0) (.int .i64 0) (.int .i64 0) (.int .i64 0) (.bool false) (.bool false) (.int .i64 0) (.bool false)
        replace FR := F
        clear F hse
        obtain ⟨mw9r, w9r, hw9r, hse, F⟩ := FR.out.put7 4 rfl (b := q + 4) rfl (.bool true) (.bool false) (.bool false) (.int .i64 0) (.int .i64 0) (.int .u64 0) (.slice none 0 0)
        replace FR := F
        clear F hse
        go_wp2
        refine bodyPost_ret (res_ccc Try.results39 (by rfl) (by rfl) (by rfl) (FR.out.load 2 rfl rfl Try.underlying29 (by kernel_rfl)) (FR.out.load 3 rfl rfl Try.underlying31 (by kernel_rfl)) (FR.out.load 4 rfl rfl Try.underlying38 (by kernel_rfl))) rfl ?_
        rw [HE.out]
        exact ⟨rfl, FR.out.out⟩
      · have e1 : (o0 == 1) = false := by simp [h1]
        replace B2 := B2 o0
        cases hb2 : decide (hasBit o0 2)
        · rw [hb2] at B2
          replace B2 := Lib.hid B2
          have HE := Lib.hid (show unlockM o0 ⟨op, stage, 0, old, since, left, awoke, starve, need, front⟩ = (z, ⟨op, stage, 1, z, since, left, awoke, starve, need, front⟩, noA) from HO.trans ((if_neg h1).trans (by rw [if_neg (of_decide_eq_false hb2)])))
          clear HO hb2 h1
          go_enter Try.func39, Try.ntmps39
          have ac0 := row11 (b := q) (FR.out.at 0 rfl rfl)
          have ac1 := row10 (b := q + 1) (FR.out.at 1 rfl rfl)
          go_wp2_with fail
          refine (B0.out _).mono ?_
          rintro e wz ⟨rfl, hw⟩
          obtain rfl := hw.symm
          clear ac0 ac1
          have ac0 := row11 (b := q) (FR.out.at 0 rfl rfl)
          have af01 : v5.frozen? ⟨q, 1, none⟩ = false := FR.out.frozen 0 1 rfl rfl
          have ac1 := row10 (b := q + 1) (FR.out.at 1 rfl rfl)
          obtain ⟨w6p, hw6p⟩ : ∃ W, (v5.setCell ⟨q, 1, none⟩ (.int .i64 z)) = W := ⟨_, rfl⟩
          replace FR := Lib.hid (((FR.out.set 0 1 rfl rfl (.int .i64 z))).eqw hw6p)
          have bc0 := row11 (b := q) (FR.out.at 0 rfl rfl)
          have bc1 := row10 (b := q + 1) (FR.out.at 1 rfl rfl)
          have bf12 : w6p.frozen? ⟨q + 1, 2, none⟩ = false := FR.out.frozen 1 2 rfl rfl
          have bf13 : w6p.frozen? ⟨q + 1, 3, none⟩ = false := FR.out.frozen 1 3 rfl rfl
          obtain ⟨w7p, hw7p⟩ : ∃ W, ((w6p.setCell ⟨q + 1, 3, none⟩ (.int .i64 z)).setCell ⟨q + 1, 2, none⟩ (.int .i64 1)) = W := ⟨_, rfl⟩
          replace FR := Lib.hid ((((FR.out.set 1 3 rfl rfl (.int .i64 z)).set 1 2 rfl rfl (.int .i64 1))).eqw hw7p)
          have cc0 := row11 (b := q) (FR.out.at 0 rfl rfl)
          have cc1 := row10 (b := q + 1) (FR.out.at 1 rfl rfl)
          go_wp2_with fail
          refine (B2.out _).mono ?_
          rintro e wz ⟨rfl, hw⟩
          obtain rfl := hw.symm
          clear ac0 af01 ac1 bc0 bc1 bf12 bf13 cc0 cc1
          have ac0 := row11 (b := q) (FR.out.at 0 rfl rfl)
          have ac1 := row10 (b := q + 1) (FR.out.at 1 rfl rfl)
          go_wp2
          clear ac0 ac1
          have HF0 := Lib.hid FR.out.drew
          obtain ⟨w8r, hw8r⟩ : ∃ W, w7p.drew.setCells (q + 2) 0 [.int .i64 kd, .int .i64 z, .int .i64 o1, .int .i64 o2, .int .i64 o3, .int .i64 o4, .int .i64 o5, .int .u32 wa, .int .u32 to, .slice A n c, .slice B m d] = W := ⟨_, rfl⟩
          have HF1 := Lib.hid ((HF0.out.all 2 rfl rfl (by rfl)).eqw hw8r)
          have hh1 := Lib.hid hw8r
          clear hw8r
          obtain ⟨w9r, hw9r⟩ : ∃ W, w8r.setCells (q + 3) 0 [.int .i64 op, .int .i64 stage, .int .i64 1, .int .i64 z, .int .i64 since, .int .i64 left, .bool awoke, .bool starve, .int .i64 need, .bool front] = W := ⟨_, rfl⟩
          have HF2 := Lib.hid ((HF1.out.all 3 rfl rfl (by rfl)).eqw hw9r)
          have hh2 := Lib.hid hw9r
          clear hw9r
          obtain ⟨w10r, hw10r⟩ : ∃ W, w9r.setCells (q + 4) 0 [.bool false, .bool false, .bool false, .int .i64 0, .int .i64 0, .int .u64 0, .slice none 0 0] = W := ⟨_, rfl⟩
          have HF3 := Lib.hid ((HF2.out.all 4 rfl rfl (by rfl)).eqw hw10r)
          have hh3 := Lib.hid hw10r
          clear hw10r
          refine wp_region_noPanic ?_
          refine wp_region_held_drew (S := (fun wv => Hid (wv.heap[q]? = some (.cells #[.int .i64 kd, .int .i64 z, .int .i64 o1, .int .i64 o2, .int .i64 o3, .int .i64 o4, .int .i64 o5, .int .u32 wa, .int .u32 to, .slice A n c, .slice B m d] 29) ∧ wv.heap[q + 1]? = some (.cells #[.int .i64 op, .int .i64 stage, .int .i64 1, .int .i64 z, .int .i64 since, .int .i64 left, .bool awoke, .bool starve, .int .i64 need, .bool front] 31)))) (by kernel_rfl) (Lib.hid (And.intro (HF0.out.blk 0 _ rfl) (HF0.out.blk 1 _ rfl))) (fun hS => ?_)
          refine wpAnyH_take (i := 0) (oi := ⟨some 41, .load 29 (.tmp 2), 29, "ref.go:97", #[], none⟩) (v := .agg (([.int .i64 kd, .int .i64 z, .int .i64 o1, .int .i64 o2, .int .i64 o3, .int .i64 o4, .int .i64 o5, .int .u32 wa, .int .u32 to, .slice A n c, .slice B m d] : List Value)).toArray) rfl (by kernel_rfl) (by kernel_rfl) (by kernel_rfl) (fun _ _ _ h => h) (yieldsIf_load_mid (by rfl) _ _ (by rfl) (q) (0) (by rfl) _ _ (fun wv hS => blk_rngl hS.out.1) Try.underlying29 (by rfl) (by kernel_rfl)) hS ?_
          try simp only [Act.put, List.setIfInBounds_toArray, List.set_cons_zero, List.set_cons_succ]
          refine wpAnyH_take (i := 1) (oi := ⟨some 42, .load 31 (.tmp 3), 31, "ref.go:97", #[⟨3, .gcOnly .lateStores⟩], none⟩) (v := .agg (([.int .i64 op, .int .i64 stage, .int .i64 1, .int .i64 z, .int .i64 since, .int .i64 left, .bool awoke, .bool starve, .int .i64 need, .bool front] : List Value)).toArray) rfl (by kernel_rfl) (by kernel_rfl) (by kernel_rfl) (fun _ _ _ h => h) (yieldsIf_load_mid (by rfl) _ _ (by rfl) (q + 1) (0) (by rfl) _ _ (fun wv hS => blk_rngl hS.out.2) Try.underlying31 (by rfl) (by kernel_rfl)) hS ?_
          try simp only [Act.put, List.setIfInBounds_toArray, List.set_cons_zero, List.set_cons_succ]
          refine wpAnyH_take (i := 2) (oi := ⟨some 43, .build 38 #[], 38, "ref.go:97", #[⟨4, .gcOnly .lateStores⟩], none⟩) (v := ?_) rfl (by kernel_rfl) (by kernel_rfl) (by kernel_rfl) (fun _ _ _ h => h) (Or.inl ⟨by rfl, ?_⟩) hS ?_
          rotate_left
          · intro wv _; go_simp; try with_reducible rfl
          try simp only [Act.put, List.setIfInBounds_toArray, List.set_cons_zero, List.set_cons_succ]
          refine wpAnyH_ready (rs := [3]) (by kernel_rfl) (by simp) (AllReadyH.cons (o := ⟨none, .store 29 (.tmp 4) (.tmp 41), 0, "ref.go:97", #[⟨0, .data⟩, ⟨0, .phase⟩, ⟨1, .textOnly .lateStores⟩, ⟨2, .textOnly .lateStores⟩], none⟩) rfl (fun K hK => ?_) AllReadyH.nil)
          refine op_storeS (by rfl) rfl rfl rfl (there_blk (HF0.out.blk 2 _ rfl) rfl) (by kernel_rfl) (by simp [Value.oneCell']) hh1.out ?_
          replace hS := Lib.hid (And.intro (HF1.out.blk 0 _ rfl) (HF1.out.blk 1 _ rfl))
          refine Shut.out hK _ _ hS (fun _ => ?_)
          clear hK K
          try simp only [Act.put, List.setIfInBounds_toArray, List.set_cons_zero, List.set_cons_succ]
          refine wpAnyH_ready (rs := [4]) (by kernel_rfl) (by simp) (AllReadyH.cons (o := ⟨none, .store 31 (.tmp 5) (.tmp 42), 0, "ref.go:97", #[⟨1, .data⟩, ⟨3, .chain⟩, ⟨0, .phase⟩, ⟨1, .phase⟩, ⟨2, .textOnly .lateStores⟩, ⟨3, .phase⟩], none⟩) rfl (fun K hK => ?_) AllReadyH.nil)
          refine op_storeS (by rfl) rfl rfl rfl (there_blk (HF1.out.blk 3 _ rfl) rfl) (by kernel_rfl) (by simp [Value.oneCell']) hh2.out ?_
          replace hS := Lib.hid (And.intro (HF2.out.blk 0 _ rfl) (HF2.out.blk 1 _ rfl))
          refine Shut.out hK _ _ hS (fun _ => ?_)
          clear hK K
          try simp only [Act.put, List.setIfInBounds_toArray, List.set_cons_zero, List.set_cons_succ]
          refine wpAnyH_ready (rs := [5]) (by kernel_rfl) (by simp) (AllReadyH.cons (o := ⟨none, .store 38 (.tmp 6) (.tmp 43), 0, "ref.go:97", #[⟨2, .data⟩, ⟨4, .chain⟩, ⟨0, .phase⟩, ⟨1, .phase⟩, ⟨2, .phase⟩, ⟨3, .phase⟩, ⟨4, .phase⟩], none⟩) rfl (fun K hK => ?_) AllReadyH.nil)
          refine op_storeS (by rfl) rfl rfl rfl (there_blk (HF2.out.blk 4 _ rfl) rfl) (by kernel_rfl) (by simp [Value.oneCell']) hh3.out ?_
          replace hS := Lib.hid (And.intro (HF3.out.blk 0 _ rfl) (HF3.out.blk 1 _ rfl))
          refine Shut.out hK _ _ hS (fun _ => ?_)
          clear hK K
          try simp only [Act.put, List.setIfInBounds_toArray, List.set_cons_zero, List.set_cons_succ]
          refine wpAnyH_done (by kernel_rfl) ?_ _
          refine NoPanic.normal ?_
          go_wp2
          refine bodyPost_ret (res_ccc Try.results39 (by rfl) (by rfl) (by rfl) (HF3.out.load 2 rfl rfl Try.underlying29 (by kernel_rfl)) (HF3.out.load 3 rfl rfl Try.underlying31 (by kernel_rfl)) (HF3.out.load 4 rfl rfl Try.underlying38 (by kernel_rfl))) rfl ?_
          replace FR := HF3
          rw [HE.out]
          exact ⟨rfl, FR.out.out⟩
        · rw [hb2] at B2
          replace B2 := Lib.hid B2
          have HE := Lib.hid (show unlockM o0 ⟨op, stage, 0, old, since, left, awoke, starve, need, front⟩ = (z, ⟨op, stage, 2, z, since, left, awoke, starve, need, front⟩, noA) from HO.trans ((if_neg h1).trans (by rw [if_pos (of_decide_eq_true hb2)])))
          clear HO hb2 h1
          go_enter Try.func39, Try.ntmps39
          have ac0 := row11 (b := q) (FR.out.at 0 rfl rfl)
          have ac1 := row10 (b := q + 1) (FR.out.at 1 rfl rfl)
          go_wp2_with fail
          refine (B0.out _).mono ?_
          rintro e wz ⟨rfl, hw⟩
          obtain rfl := hw.symm
          clear ac0 ac1
          have ac0 := row11 (b := q) (FR.out.at 0 rfl rfl)
          have af01 : v5.frozen? ⟨q, 1, none⟩ = false := FR.out.frozen 0 1 rfl rfl
          have ac1 := row10 (b := q + 1) (FR.out.at 1 rfl rfl)
          obtain ⟨w6p, hw6p⟩ : ∃ W, (v5.setCell ⟨q, 1, none⟩ (.int .i64 z)) = W := ⟨_, rfl⟩
          replace FR := Lib.hid (((FR.out.set 0 1 rfl rfl (.int .i64 z))).eqw hw6p)
          have bc0 := row11 (b := q) (FR.out.at 0 rfl rfl)
          have bc1 := row10 (b := q + 1) (FR.out.at 1 rfl rfl)
          have bf12 : w6p.frozen? ⟨q + 1, 2, none⟩ = false := FR.out.frozen 1 2 rfl rfl
          have bf13 : w6p.frozen? ⟨q + 1, 3, none⟩ = false := FR.out.frozen 1 3 rfl rfl
          obtain ⟨w7p, hw7p⟩ : ∃ W, ((w6p.setCell ⟨q + 1, 3, none⟩ (.int .i64 z)).setCell ⟨q + 1, 2, none⟩ (.int .i64 1)) = W := ⟨_, rfl⟩
          replace FR := Lib.hid ((((FR.out.set 1 3 rfl rfl (.int .i64 z)).set 1 2 rfl rfl (.int .i64 1))).eqw hw7p)
          have cc0 := row11 (b := q) (FR.out.at 0 rfl rfl)
          have cc1 := row10 (b := q + 1) (FR.out.at 1 rfl rfl)
          go_wp2_with fail
          refine (B2.out _).mono ?_
          rintro e wz ⟨rfl, hw⟩
          obtain rfl := hw.symm
          clear ac0 af01 ac1 bc0 bc1 bf12 bf13 cc0 cc1
          have ac0 := row11 (b := q) (FR.out.at 0 rfl rfl)
          have ac1 := row10 (b := q + 1) (FR.out.at 1 rfl rfl)
          have af12 : w7p.frozen? ⟨q + 1, 2, none⟩ = false := FR.out.frozen 1 2 rfl rfl
          obtain ⟨w8p, hw8p⟩ : ∃ W, (w7p.setCell ⟨q + 1, 2, none⟩ (.int .i64 2)) = W := ⟨_, rfl⟩
          replace FR := Lib.hid (((FR.out.set 1 2 rfl rfl (.int .i64 2))).eqw hw8p)
          have bc0 := row11 (b := q) (FR.out.at 0 rfl rfl)
          have bc1 := row10 (b := q + 1) (FR.out.at 1 rfl rfl)
          go_wp2
          clear ac0 ac1 af12 bc0 bc1
          have HF0 := Lib.hid FR.out.drew
          obtain ⟨w9r, hw9r⟩ : ∃ W, w8p.drew.setCells (q + 2) 0 [.int .i64 kd, .int .i64 z, .int .i64 o1, .int .i64 o2, .int .i64 o3, .int .i64 o4, .int .i64 o5, .int .u32 wa, .int .u32 to, .slice A n c, .slice B m d] = W := ⟨_, rfl⟩
          have HF1 := Lib.hid ((HF0.out.all 2 rfl rfl (by rfl)).eqw hw9r)
          have hh1 := Lib.hid hw9r
          clear hw9r
          obtain ⟨w10r, hw10r⟩ : ∃ W, w9r.setCells (q + 3) 0 [.int .i64 op, .int .i64 stage, .int .i64 2, .int .i64 z, .int .i64 since, .int .i64 left, .bool awoke, .bool starve, .int .i64 need, .bool front] = W := ⟨_, rfl⟩
          have HF2 := Lib.hid ((HF1.out.all 3 rfl rfl (by rfl)).eqw hw10r)
          have hh2 := Lib.hid hw10r
          clear hw10r
          obtain ⟨w11r, hw11r⟩ : ∃ W, w10r.setCells (q + 4) 0 [.bool false, .bool false, .bool false, .int .i64 0, .int .i64 0, .int .u64 0, .slice none 0 0] = W := ⟨_, rfl⟩
          have HF3 := Lib.hid ((HF2.out.all 4 rfl rfl (by rfl)).eqw hw11r)
          have hh3 := Lib.hid hw11r
          clear hw11r
          refine wp_region_noPanic ?_
          refine wp_region_held_drew (S := (fun wv => Hid (wv.heap[q]? = some (.cells #[.int .i64 kd, .int .i64 z, .int .i64 o1, .int .i64 o2, .int .i64 o3, .int .i64 o4, .int .i64 o5, .int .u32 wa, .int .u32 to, .slice A n c, .slice B m d] 29) ∧ wv.heap[q + 1]? = some (.cells #[.int .i64 op, .int .i64 stage, .int .i64 2, .int .i64 z, .int .i64 since, .int .i64 left, .bool awoke, .bool starve, .int .i64 need, .bool front] 31)))) (by kernel_rfl) (Lib.hid (And.intro (HF0.out.blk 0 _ rfl) (HF0.out.blk 1 _ rfl))) (fun hS => ?_)
          refine wpAnyH_take (i := 0) (oi := ⟨some 41, .load 29 (.tmp 2), 29, "ref.go:97", #[], none⟩) (v := .agg (([.int .i64 kd, .int .i64 z, .int .i64 o1, .int .i64 o2, .int .i64 o3, .int .i64 o4, .int .i64 o5, .int .u32 wa, .int .u32 to, .slice A n c, .slice B m d] : List Value)).toArray) rfl (by kernel_rfl) (by kernel_rfl) (by kernel_rfl) (fun _ _ _ h => h) (yieldsIf_load_mid (by rfl) _ _ (by rfl) (q) (0) (by rfl) _ _ (fun wv hS => blk_rngl hS.out.1) Try.underlying29 (by rfl) (by kernel_rfl)) hS ?_
          try simp only [Act.put, List.setIfInBounds_toArray, List.set_cons_zero, List.set_cons_succ]
          refine wpAnyH_take (i := 1) (oi := ⟨some 42, .load 31 (.tmp 3), 31, "ref.go:97", #[⟨3, .gcOnly .lateStores⟩], none⟩) (v := .agg (([.int .i64 op, .int .i64 stage, .int .i64 2, .int .i64 z, .int .i64 since, .int .i64 left, .bool awoke, .bool starve, .int .i64 need, .bool front] : List Value)).toArray) rfl (by kernel_rfl) (by kernel_rfl) (by kernel_rfl) (fun _ _ _ h => h) (yieldsIf_load_mid (by rfl) _ _ (by rfl) (q + 1) (0) (by rfl) _ _ (fun wv hS => blk_rngl hS.out.2) Try.underlying31 (by rfl) (by kernel_rfl)) hS ?_
          try simp only [Act.put, List.setIfInBounds_toArray, List.set_cons_zero, List.set_cons_succ]
          refine wpAnyH_take (i := 2) (oi := ⟨some 43, .build 38 #[], 38, "ref.go:97", #[⟨4, .gcOnly .lateStores⟩], none⟩) (v := ?_) rfl (by kernel_rfl) (by kernel_rfl) (by kernel_rfl) (fun _ _ _ h => h) (Or.inl ⟨by rfl, ?_⟩) hS ?_
          rotate_left
          · intro wv _; go_simp; try with_reducible rfl
          try simp only [Act.put, List.setIfInBounds_toArray, List.set_cons_zero, List.set_cons_succ]
          refine wpAnyH_ready (rs := [3]) (by kernel_rfl) (by simp) (AllReadyH.cons (o := ⟨none, .store 29 (.tmp 4) (.tmp 41), 0, "ref.go:97", #[⟨0, .data⟩, ⟨0, .phase⟩, ⟨1, .textOnly .lateStores⟩, ⟨2, .textOnly .lateStores⟩], none⟩) rfl (fun K hK => ?_) AllReadyH.nil)
          refine op_storeS (by rfl) rfl rfl rfl (there_blk (HF0.out.blk 2 _ rfl) rfl) (by kernel_rfl) (by simp [Value.oneCell']) hh1.out ?_
          replace hS := Lib.hid (And.intro (HF1.out.blk 0 _ rfl) (HF1.out.blk 1 _ rfl))
          refine Shut.out hK _ _ hS (fun _ => ?_)
          clear hK K
          try simp only [Act.put, List.setIfInBounds_toArray, List.set_cons_zero, List.set_cons_succ]
          refine wpAnyH_ready (rs := [4]) (by kernel_rfl) (by simp) (AllReadyH.cons (o := ⟨none, .store 31 (.tmp 5) (.tmp 42), 0, "ref.go:97", #[⟨1, .data⟩, ⟨3, .chain⟩, ⟨0, .phase⟩, ⟨1, .phase⟩, ⟨2, .textOnly .lateStores⟩, ⟨3, .phase⟩], none⟩) rfl (fun K hK => ?_) AllReadyH.nil)
          refine op_storeS (by rfl) rfl rfl rfl (there_blk (HF1.out.blk 3 _ rfl) rfl) (by kernel_rfl) (by simp [Value.oneCell']) hh2.out ?_
          replace hS := Lib.hid (And.intro (HF2.out.blk 0 _ rfl) (HF2.out.blk 1 _ rfl))
          refine Shut.out hK _ _ hS (fun _ => ?_)
          clear hK K
          try simp only [Act.put, List.setIfInBounds_toArray, List.set_cons_zero, List.set_cons_succ]
          refine wpAnyH_ready (rs := [5]) (by kernel_rfl) (by simp) (AllReadyH.cons (o := ⟨none, .store 38 (.tmp 6) (.tmp 43), 0, "ref.go:97", #[⟨2, .data⟩, ⟨4, .chain⟩, ⟨0, .phase⟩, ⟨1, .phase⟩, ⟨2, .phase⟩, ⟨3, .phase⟩, ⟨4, .phase⟩], none⟩) rfl (fun K hK => ?_) AllReadyH.nil)
          refine op_storeS (by rfl) rfl rfl rfl (there_blk (HF2.out.blk 4 _ rfl) rfl) (by kernel_rfl) (by simp [Value.oneCell']) hh3.out ?_
          replace hS := Lib.hid (And.intro (HF3.out.blk 0 _ rfl) (HF3.out.blk 1 _ rfl))
          refine Shut.out hK _ _ hS (fun _ => ?_)
          clear hK K
          try simp only [Act.put, List.setIfInBounds_toArray, List.set_cons_zero, List.set_cons_succ]
          refine wpAnyH_done (by kernel_rfl) ?_ _
          refine NoPanic.normal ?_
          go_wp2
          refine bodyPost_ret (res_ccc Try.results39 (by rfl) (by rfl) (by rfl) (HF3.out.load 2 rfl rfl Try.underlying29 (by kernel_rfl)) (HF3.out.load 3 rfl rfl Try.underlying31 (by kernel_rfl)) (HF3.out.load 4 rfl rfl Try.underlying38 (by kernel_rfl))) rfl ?_
          replace FR := HF3
          rw [HE.out]
          exact ⟨rfl, FR.out.out⟩
  have n0 : (phase == 0) = false := by simp [p0]
  by_cases p1 : phase = 1
  · subst p1
    have HO : unlockM o0 ⟨op, stage, 1, old, since, left, awoke, starve, need, front⟩ = (if old / 8 = 0 ∨ hasBit old 0 ∨ hasBit old 1 ∨ hasBit old 2 then (o0, noF, doneA) else if o0 ≠ old then (o0, ⟨op, stage, 1, o0, since, left, awoke, starve, need, front⟩, noA) else (IntKind.i64.wrap (o0 - 8 + 2), ⟨op, stage, 3, old, since, left, awoke, starve, need, front⟩, noA)) := by
      unfold unlockM
      rw [if_neg (fun h => (show ¬ ((1 : Int) = 0) by decide) h.1), if_neg (fun h => (show ¬ ((1 : Int) = 0) by decide) h), if_pos rfl]
    replace B0 := B0 old; replace B1 := B1 old; replace B2 := B2 old
    obtain ⟨x, hx⟩ : ∃ x, old / 8 = x := ⟨_, rfl⟩
    have hx2 : old / 2 ^ 3 = x := hx
    rw [hx] at HO
    clear p0 n0
    by_cases hx0 : x = 0
    · have e0 : (x == 0) = true := by simp [hx0]
      have HE := Lib.hid (HO.trans (if_pos (Or.inl hx0)))
      clear HO hx0 B0 B1 B2
      go_enter Try.func39, Try.ntmps39
      have ac0 := row11 (b := q) (FR.out.at 0 rfl rfl)
      have ac1 := row10 (b := q + 1) (FR.out.at 1 rfl rfl)
      clear ac0 ac1
      have ac0 := row11 (b := q) (FR.out.at 0 rfl rfl)
      have ac1 := row10 (b := q + 1) (FR.out.at 1 rfl rfl)
      obtain ⟨mw6r, w6r, hw6r, hse, F⟩ := FR.out.put11 2 rfl (b := q + 2) rfl (.int .i64 kd) (.int .i64 o0) (.int .i64 o1) (.int .i64 o2) (.int .i64 o3) (.int .i64 o4) (.int .i64 o5) (.int .u32 wa) (.int .u32 to) (.slice A n c) (.slice B m d)
      replace FR := F
      clear F hse
      obtain ⟨mw7r, w7r, hw7r, hse, F⟩ := FR.out.put10 3 rfl (b := q + 3) rfl (.int .i64 0) (.int .i64 0) (.int .i64 0) (.int .i64 0) (.int .i64 0) (.int .i64 0) (.bool false) (.bool false) (.int .i64 0) (.bool false)
      replace FR := F
      clear F hse
      obtain ⟨mw8r, w8r, hw8r, hse, F⟩ := FR.out.put7 4 rfl (b := q + 4) rfl (.bool true) (.bool false) (.bool false) (.int .i64 0) (.int .i64 0) (.int .u64 0) (.slice none 0 0)
      replace FR := F
      clear F hse
      go_wp2
      refine bodyPost_ret (res_ccc Try.results39 (by rfl) (by rfl) (by rfl) (FR.out.load 2 rfl rfl Try.underlying29 (by kernel_rfl)) (FR.out.load 3 rfl rfl Try.underlying31 (by kernel_rfl)) (FR.out.load 4 rfl rfl Try.underlying38 (by kernel_rfl))) rfl ?_
      rw [HE.out]
      exact ⟨rfl, FR.out.out⟩
    · have e0 : (x == 0) = false := by simp [hx0]
      cases hb0 : decide (hasBit old 0)
      · rw [hb0] at B0
        replace B0 := Lib.hid B0
        cases hb1 : decide (hasBit old 1)
        · rw [hb1] at B1
          replace B1 := Lib.hid B1
          cases hb2 : decide (hasBit old 2)
          · rw [hb2] at B2
            replace B2 := Lib.hid B2
            replace HO := HO.trans (if_neg (fun h => by rcases h with h | h | h | h; exact hx0 h; exact of_decide_eq_false hb0 h; exact of_decide_eq_false hb1 h; exact of_decide_eq_false hb2 h))
            clear hb0 hb1 hb2 hx0
            by_cases h0 : o0 = old
            rotate_left
            · have t0 : (o0 != old) = true := by simp [h0]
              have HE := Lib.hid (HO.trans (if_pos h0))
              clear HO h0
              go_enter Try.func39, Try.ntmps39
              have ac0 := row11 (b := q) (FR.out.at 0 rfl rfl)
              have ac1 := row10 (b := q + 1) (FR.out.at 1 rfl rfl)
              go_wp2_with fail
              refine (B0.out _).mono ?_
              rintro e wz ⟨rfl, hw⟩
              obtain rfl := hw.symm
              go_wp2_with fail
              refine (B1.out _).mono ?_
              rintro e wz ⟨rfl, hw⟩
              obtain rfl := hw.symm
              go_wp2_with fail
              refine (B2.out _).mono ?_
              rintro e wz ⟨rfl, hw⟩
              obtain rfl := hw.symm
              clear ac0 ac1
              have ac0 := row11 (b := q) (FR.out.at 0 rfl rfl)
              have ac1 := row10 (b := q + 1) (FR.out.at 1 rfl rfl)
              have af13 : v5.frozen? ⟨q + 1, 3, none⟩ = false := FR.out.frozen 1 3 rfl rfl
              obtain ⟨w6p, hw6p⟩ : ∃ W, (v5.setCell ⟨q + 1, 3, none⟩ (.int .i64 o0)) = W := ⟨_, rfl⟩
              replace FR := Lib.hid (((FR.out.set 1 3 rfl rfl (.int .i64 o0))).eqw hw6p)
              have bc0 := row11 (b := q) (FR.out.at 0 rfl rfl)
              have bc1 := row10 (b := q + 1) (FR.out.at 1 rfl rfl)
              go_wp2
              clear ac0 ac1 af13 bc0 bc1
              have HF0 := Lib.hid FR.out.drew
              obtain ⟨w7r, hw7r⟩ : ∃ W, w6p.drew.setCells (q + 2) 0 [.int .i64 kd, .int .i64 o0, .int .i64 o1, .int .i64 o2, .int .i64 o3, .int .i64 o4, .int .i64 o5, .int .u32 wa, .int .u32 to, .slice A n c, .slice B m d] = W := ⟨_, rfl⟩
              have HF1 := Lib.hid ((HF0.out.all 2 rfl rfl (by rfl)).eqw hw7r)
              have hh1 := Lib.hid hw7r
              clear hw7r
              obtain ⟨w8r, hw8r⟩ : ∃ W, w7r.setCells (q + 3) 0 [.int .i64 op, .int .i64 stage, .int .i64 1, .int .i64 o0, .int .i64 since, .int .i64 left, .bool awoke, .bool starve, .int .i64 need, .bool front] = W := ⟨_, rfl⟩
              have HF2 := Lib.hid ((HF1.out.all 3 rfl rfl (by rfl)).eqw hw8r)
              have hh2 := Lib.hid hw8r
              clear hw8r
              obtain ⟨w9r, hw9r⟩ : ∃ W, w8r.setCells (q + 4) 0 [.bool false, .bool false, .bool false, .int .i64 0, .int .i64 0, .int .u64 0, .slice none 0 0] = W := ⟨_, rfl⟩
              have HF3 := Lib.hid ((HF2.out.all 4 rfl rfl (by rfl)).eqw hw9r)
              have hh3 := Lib.hid hw9r
              clear hw9r
              refine wp_region_noPanic ?_
              refine wp_region_held_drew (S := (fun wv => Hid (wv.heap[q]? = some (.cells #[.int .i64 kd, .int .i64 o0, .int .i64 o1, .int .i64 o2, .int .i64 o3, .int .i64 o4, .int .i64 o5, .int .u32 wa, .int .u32 to, .slice A n c, .slice B m d] 29) ∧ wv.heap[q + 1]? = some (.cells #[.int .i64 op, .int .i64 stage, .int .i64 1, .int .i64 o0, .int .i64 since, .int .i64 left, .bool awoke, .bool starve, .int .i64 need, .bool front] 31)))) (by kernel_rfl) (Lib.hid (And.intro (HF0.out.blk 0 _ rfl) (HF0.out.blk 1 _ rfl))) (fun hS => ?_)
              refine wpAnyH_take (i := 0) (oi := ⟨some 75, .load 29 (.tmp 2), 29, "ref.go:105", #[], none⟩) (v := .agg (([.int .i64 kd, .int .i64 o0, .int .i64 o1, .int .i64 o2, .int .i64 o3, .int .i64 o4, .int .i64 o5, .int .u32 wa, .int .u32 to, .slice A n c, .slice B m d] : List Value)).toArray) rfl (by kernel_rfl) (by kernel_rfl) (by kernel_rfl) (fun _ _ _ h => h) (yieldsIf_load_mid (by rfl) _ _ (by rfl) (q) (0) (by rfl) _ _ (fun wv hS => blk_rngl hS.out.1) Try.underlying29 (by rfl) (by kernel_rfl)) hS ?_
              try simp only [Act.put, List.setIfInBounds_toArray, List.set_cons_zero, List.set_cons_succ]
              refine wpAnyH_take (i := 1) (oi := ⟨some 76, .load 31 (.tmp 3), 31, "ref.go:105", #[⟨3, .gcOnly .lateStores⟩], none⟩) (v := .agg (([.int .i64 op, .int .i64 stage, .int .i64 1, .int .i64 o0, .int .i64 since, .int .i64 left, .bool awoke, .bool starve, .int .i64 need, .bool front] : List Value)).toArray) rfl (by kernel_rfl) (by kernel_rfl) (by kernel_rfl) (fun _ _ _ h => h) (yieldsIf_load_mid (by rfl) _ _ (by rfl) (q + 1) (0) (by rfl) _ _ (fun wv hS => blk_rngl hS.out.2) Try.underlying31 (by rfl) (by kernel_rfl)) hS ?_
              try simp only [Act.put, List.setIfInBounds_toArray, List.set_cons_zero, List.set_cons_succ]
              refine wpAnyH_take (i := 2) (oi := ⟨some 77, .build 38 #[], 38, "ref.go:105", #[⟨4, .gcOnly .lateStores⟩], none⟩) (v := ?_) rfl (by kernel_rfl) (by kernel_rfl) (by kernel_rfl) (fun _ _ _ h => h) (Or.inl ⟨by rfl, ?_⟩) hS ?_
              rotate_left
              · intro wv _; go_simp; try with_reducible rfl
              try simp only [Act.put, List.setIfInBounds_toArray, List.set_cons_zero, List.set_cons_succ]
              refine wpAnyH_ready (rs := [3]) (by kernel_rfl) (by simp) (AllReadyH.cons (o := ⟨none, .store 29 (.tmp 4) (.tmp 75), 0, "ref.go:105", #[⟨0, .data⟩, ⟨0, .phase⟩, ⟨1, .textOnly .lateStores⟩, ⟨2, .textOnly .lateStores⟩], none⟩) rfl (fun K hK => ?_) AllReadyH.nil)
              refine op_storeS (by rfl) rfl rfl rfl (there_blk (HF0.out.blk 2 _ rfl) rfl) (by kernel_rfl) (by simp [Value.oneCell']) hh1.out ?_
              replace hS := Lib.hid (And.intro (HF1.out.blk 0 _ rfl) (HF1.out.blk 1 _ rfl))
              refine Shut.out hK _ _ hS (fun _ => ?_)
              clear hK K
              try simp only [Act.put, List.setIfInBounds_toArray, List.set_cons_zero, List.set_cons_succ]
              refine wpAnyH_ready (rs := [4]) (by kernel_rfl) (by simp) (AllReadyH.cons (o := ⟨none, .store 31 (.tmp 5) (.tmp 76), 0, "ref.go:105", #[⟨1, .data⟩, ⟨3, .chain⟩, ⟨0, .phase⟩, ⟨1, .phase⟩, ⟨2, .textOnly .lateStores⟩, ⟨3, .phase⟩], none⟩) rfl (fun K hK => ?_) AllReadyH.nil)
              refine op_storeS (by rfl) rfl rfl rfl (there_blk (HF1.out.blk 3 _ rfl) rfl) (by kernel_rfl) (by simp [Value.oneCell']) hh2.out ?_
              replace hS := Lib.hid (And.intro (HF2.out.blk 0 _ rfl) (HF2.out.blk 1 _ rfl))
              refine Shut.out hK _ _ hS (fun _ => ?_)
              clear hK K
              try simp only [Act.put, List.setIfInBounds_toArray, List.set_cons_zero, List.set_cons_succ]
              refine wpAnyH_ready (rs := [5]) (by kernel_rfl) (by simp) (AllReadyH.cons (o := ⟨none, .store 38 (.tmp 6) (.tmp 77), 0, "ref.go:105", #[⟨2, .data⟩, ⟨4, .chain⟩, ⟨0, .phase⟩, ⟨1, .phase⟩, ⟨2, .phase⟩, ⟨3, .phase⟩, ⟨4, .phase⟩], none⟩) rfl (fun K hK => ?_) AllReadyH.nil)
              refine op_storeS (by rfl) rfl rfl rfl (there_blk (HF2.out.blk 4 _ rfl) rfl) (by kernel_rfl) (by simp [Value.oneCell']) hh3.out ?_
              replace hS := Lib.hid (And.intro (HF3.out.blk 0 _ rfl) (HF3.out.blk 1 _ rfl))
              refine Shut.out hK _ _ hS (fun _ => ?_)
              clear hK K
              try simp only [Act.put, List.setIfInBounds_toArray, List.set_cons_zero, List.set_cons_succ]
              refine wpAnyH_done (by kernel_rfl) ?_ _
              refine NoPanic.normal ?_
              go_wp2
              refine bodyPost_ret (res_ccc Try.results39 (by rfl) (by rfl) (by rfl) (HF3.out.load 2 rfl rfl Try.underlying29 (by kernel_rfl)) (HF3.out.load 3 rfl rfl Try.underlying31 (by kernel_rfl)) (HF3.out.load 4 rfl rfl Try.underlying38 (by kernel_rfl))) rfl ?_
              replace FR := HF3
              rw [HE.out]
              exact ⟨rfl, FR.out.out⟩
            · have t0 : (o0 != old) = false := by simp [h0]
              obtain ⟨z1_, hz1⟩ : ∃ z, IntKind.i64.wrap (o0 - 8) = z := ⟨_, rfl⟩
              obtain ⟨z, hz⟩ : ∃ z, IntKind.i64.wrap (z1_ + 2) = z := ⟨_, rfl⟩
              have hzz : IntKind.i64.wrap (o0 - 8 + 2) = z := by rw [← hz, ← hz1]; simp only [IntKind.wrap_i64]; omega
              have HE := Lib.hid (HO.trans ((if_neg (fun h => h h0)).trans (by rw [hzz])))
              clear HO h0 hzz
              go_enter Try.func39, Try.ntmps39
              have ac0 := row11 (b := q) (FR.out.at 0 rfl rfl)
              have ac1 := row10 (b := q + 1) (FR.out.at 1 rfl rfl)
              go_wp2_with fail
              refine (B0.out _).mono ?_
              rintro e wz ⟨rfl, hw⟩
              obtain rfl := hw.symm
              go_wp2_with fail
              refine (B1.out _).mono ?_
              rintro e wz ⟨rfl, hw⟩
              obtain rfl := hw.symm
              go_wp2_with fail
              refine (B2.out _).mono ?_
              rintro e wz ⟨rfl, hw⟩
              obtain rfl := hw.symm
              clear ac0 ac1
              have ac0 := row11 (b := q) (FR.out.at 0 rfl rfl)
              have af01 : v5.frozen? ⟨q, 1, none⟩ = false := FR.out.frozen 0 1 rfl rfl
              have ac1 := row10 (b := q + 1) (FR.out.at 1 rfl rfl)
              obtain ⟨w6p, hw6p⟩ : ∃ W, (v5.setCell ⟨q, 1, none⟩ (.int .i64 z)) = W := ⟨_, rfl⟩
              replace FR := Lib.hid (((FR.out.set 0 1 rfl rfl (.int .i64 z))).eqw hw6p)
              have bc0 := row11 (b := q) (FR.out.at 0 rfl rfl)
              have bc1 := row10 (b := q + 1) (FR.out.at 1 rfl rfl)
              have bf12 : w6p.frozen? ⟨q + 1, 2, none⟩ = false := FR.out.frozen 1 2 rfl rfl
              obtain ⟨w7p, hw7p⟩ : ∃ W, (w6p.setCell ⟨q + 1, 2, none⟩ (.int .i64 3)) = W := ⟨_, rfl⟩
              replace FR := Lib.hid (((FR.out.set 1 2 rfl rfl (.int .i64 3))).eqw hw7p)
              have cc0 := row11 (b := q) (FR.out.at 0 rfl rfl)
              have cc1 := row10 (b := q + 1) (FR.out.at 1 rfl rfl)
              go_wp2
              clear ac0 af01 ac1 bc0 bc1 bf12 cc0 cc1
              have HF0 := Lib.hid FR.out.drew
              obtain ⟨w8r, hw8r⟩ : ∃ W, w7p.drew.setCells (q + 2) 0 [.int .i64 kd, .int .i64 z, .int .i64 o1, .int .i64 o2, .int .i64 o3, .int .i64 o4, .int .i64 o5, .int .u32 wa, .int .u32 to, .slice A n c, .slice B m d] = W := ⟨_, rfl⟩
              have HF1 := Lib.hid ((HF0.out.all 2 rfl rfl (by rfl)).eqw hw8r)
              have hh1 := Lib.hid hw8r
              clear hw8r
              obtain ⟨w9r, hw9r⟩ : ∃ W, w8r.setCells (q + 3) 0 [.int .i64 op, .int .i64 stage, .int .i64 3, .int .i64 old, .int .i64 since, .int .i64 left, .bool awoke, .bool starve, .int .i64 need, .bool front] = W := ⟨_, rfl⟩
              have HF2 := Lib.hid ((HF1.out.all 3 rfl rfl (by rfl)).eqw hw9r)
              have hh2 := Lib.hid hw9r
              clear hw9r
              obtain ⟨w10r, hw10r⟩ : ∃ W, w9r.setCells (q + 4) 0 [.bool false, .bool false, .bool false, .int .i64 0, .int .i64 0, .int .u64 0, .slice none 0 0] = W := ⟨_, rfl⟩
              have HF3 := Lib.hid ((HF2.out.all 4 rfl rfl (by rfl)).eqw hw10r)
              have hh3 := Lib.hid hw10r
              clear hw10r
              refine wp_region_noPanic ?_
              refine wp_region_held_drew (S := (fun wv => Hid (wv.heap[q]? = some (.cells #[.int .i64 kd, .int .i64 z, .int .i64 o1, .int .i64 o2, .int .i64 o3, .int .i64 o4, .int .i64 o5, .int .u32 wa, .int .u32 to, .slice A n c, .slice B m d] 29) ∧ wv.heap[q + 1]? = some (.cells #[.int .i64 op, .int .i64 stage, .int .i64 3, .int .i64 old, .int .i64 since, .int .i64 left, .bool awoke, .bool starve, .int .i64 need, .bool front] 31)))) (by kernel_rfl) (Lib.hid (And.intro (HF0.out.blk 0 _ rfl) (HF0.out.blk 1 _ rfl))) (fun hS => ?_)
              refine wpAnyH_take (i := 0) (oi := ⟨some 84, .load 29 (.tmp 2), 29, "ref.go:109", #[], none⟩) (v := .agg (([.int .i64 kd, .int .i64 z, .int .i64 o1, .int .i64 o2, .int .i64 o3, .int .i64 o4, .int .i64 o5, .int .u32 wa, .int .u32 to, .slice A n c, .slice B m d] : List Value)).toArray) rfl (by kernel_rfl) (by kernel_rfl) (by kernel_rfl) (fun _ _ _ h => h) (yieldsIf_load_mid (by rfl) _ _ (by rfl) (q) (0) (by rfl) _ _ (fun wv hS => blk_rngl hS.out.1) Try.underlying29 (by rfl) (by kernel_rfl)) hS ?_
              try simp only [Act.put, List.setIfInBounds_toArray, List.set_cons_zero, List.set_cons_succ]
              refine wpAnyH_take (i := 1) (oi := ⟨some 85, .load 31 (.tmp 3), 31, "ref.go:109", #[⟨3, .gcOnly .lateStores⟩], none⟩) (v := .agg (([.int .i64 op, .int .i64 stage, .int .i64 3, .int .i64 old, .int .i64 since, .int .i64 left, .bool awoke, .bool starve, .int .i64 need, .bool front] : List Value)).toArray) rfl (by kernel_rfl) (by kernel_rfl) (by kernel_rfl) (fun _ _ _ h => h) (yieldsIf_load_mid (by rfl) _ _ (by rfl) (q + 1) (0) (by rfl) _ _ (fun wv hS => blk_rngl hS.out.2) Try.underlying31 (by rfl) (by kernel_rfl)) hS ?_
              try simp only [Act.put, List.setIfInBounds_toArray, List.set_cons_zero, List.set_cons_succ]
              refine wpAnyH_take (i := 2) (oi := ⟨some 86, .build 38 #[], 38, "ref.go:109", #[⟨4, .gcOnly .lateStores⟩], none⟩) (v := ?_) rfl (by kernel_rfl) (by kernel_rfl) (by kernel_rfl) (fun _ _ _ h => h) (Or.inl ⟨by rfl, ?_⟩) hS ?_
              rotate_left
              · intro wv _; go_simp; try with_reducible rfl
              try simp only [Act.put, List.setIfInBounds_toArray, List.set_cons_zero, List.set_cons_succ]
              refine wpAnyH_ready (rs := [3]) (by kernel_rfl) (by simp) (AllReadyH.cons (o := ⟨none, .store 29 (.tmp 4) (.tmp 84), 0, "ref.go:109", #[⟨0, .data⟩, ⟨0, .phase⟩, ⟨1, .textOnly .lateStores⟩, ⟨2, .textOnly .lateStores⟩], none⟩) rfl (fun K hK => ?_) AllReadyH.nil)
              refine op_storeS (by rfl) rfl rfl rfl (there_blk (HF0.out.blk 2 _ rfl) rfl) (by kernel_rfl) (by simp [Value.oneCell']) hh1.out ?_
              replace hS := Lib.hid (And.intro (HF1.out.blk 0 _ rfl) (HF1.out.blk 1 _ rfl))
              refine Shut.out hK _ _ hS (fun _ => ?_)
              clear hK K
              try simp only [Act.put, List.setIfInBounds_toArray, List.set_cons_zero, List.set_cons_succ]
              refine wpAnyH_ready (rs := [4]) (by kernel_rfl) (by simp) (AllReadyH.cons (o := ⟨none, .store 31 (.tmp 5) (.tmp 85), 0, "ref.go:109", #[⟨1, .data⟩, ⟨3, .chain⟩, ⟨0, .phase⟩, ⟨1, .phase⟩, ⟨2, .textOnly .lateStores⟩, ⟨3, .phase⟩], none⟩) rfl (fun K hK => ?_) AllReadyH.nil)
              refine op_storeS (by rfl) rfl rfl rfl (there_blk (HF1.out.blk 3 _ rfl) rfl) (by kernel_rfl) (by simp [Value.oneCell']) hh2.out ?_
              replace hS := Lib.hid (And.intro (HF2.out.blk 0 _ rfl) (HF2.out.blk 1 _ rfl))
              refine Shut.out hK _ _ hS (fun _ => ?_)
              clear hK K
              try simp only [Act.put, List.setIfInBounds_toArray, List.set_cons_zero, List.set_cons_succ]
              refine wpAnyH_ready (rs := [5]) (by kernel_rfl) (by simp) (AllReadyH.cons (o := ⟨none, .store 38 (.tmp 6) (.tmp 86), 0, "ref.go:109", #[⟨2, .data⟩, ⟨4, .chain⟩, ⟨0, .phase⟩, ⟨1, .phase⟩, ⟨2, .phase⟩, ⟨3, .phase⟩, ⟨4, .phase⟩], none⟩) rfl (fun K hK => ?_) AllReadyH.nil)
              refine op_storeS (by rfl) rfl rfl rfl (there_blk (HF2.out.blk 4 _ rfl) rfl) (by kernel_rfl) (by simp [Value.oneCell']) hh3.out ?_
              replace hS := Lib.hid (And.intro (HF3.out.blk 0 _ rfl) (HF3.out.blk 1 _ rfl))
              refine Shut.out hK _ _ hS (fun _ => ?_)
              clear hK K
              try simp only [Act.put, List.setIfInBounds_toArray, List.set_cons_zero, List.set_cons_succ]
              refine wpAnyH_done (by kernel_rfl) ?_ _
              refine NoPanic.normal ?_
              go_wp2
              refine bodyPost_ret (res_ccc Try.results39 (by rfl) (by rfl) (by rfl) (HF3.out.load 2 rfl rfl Try.underlying29 (by kernel_rfl)) (HF3.out.load 3 rfl rfl Try.underlying31 (by kernel_rfl)) (HF3.out.load 4 rfl rfl Try.underlying38 (by kernel_rfl))) rfl ?_
              replace FR := HF3
              rw [HE.out]
              exact ⟨rfl, FR.out.out⟩
          · rw [hb2] at B2
            replace B2 := Lib.hid B2
            have HE := Lib.hid (HO.trans (if_pos (Or.inr (Or.inr (Or.inr ((of_decide_eq_true hb2)))))))
            clear HO hb0 hb1 hb2 hx0
            go_enter Try.func39, Try.ntmps39
            have ac0 := row11 (b := q) (FR.out.at 0 rfl rfl)
            have ac1 := row10 (b := q + 1) (FR.out.at 1 rfl rfl)
            go_wp2_with fail
            refine (B0.out _).mono ?_
            rintro e wz ⟨rfl, hw⟩
            obtain rfl := hw.symm
            go_wp2_with fail
            refine (B1.out _).mono ?_
            rintro e wz ⟨rfl, hw⟩
            obtain rfl := hw.symm
            go_wp2_with fail
            refine (B2.out _).mono ?_
            rintro e wz ⟨rfl, hw⟩
            obtain rfl := hw.symm
            clear ac0 ac1
            have ac0 := row11 (b := q) (FR.out.at 0 rfl rfl)
            have ac1 := row10 (b := q + 1) (FR.out.at 1 rfl rfl)
            obtain ⟨mw6r, w6r, hw6r, hse, F⟩ := FR.out.put11 2 rfl (b := q + 2) rfl (.int .i64 kd) (.int .i64 o0) (.int .i64 o1) (.int .i64 o2) (.int .i64 o3) (.int .i64 o4) (.int .i64 o5) (.int .u32 wa) (.int .u32 to) (.slice A n c) (.slice B m d)
            replace FR := F
            clear F hse
            obtain ⟨mw7r, w7r, hw7r, hse, F⟩ := FR.out.put10 3 rfl (b := q + 3) rfl (.int .i64 0) (.int .i64 0) (.int .i64 0) (.int .i64 0) (.int .i64 0) (.int .i64 0) (.bool false) (.bool false) (.int .i64 0) (.bool false)
            replace FR := F
            clear F hse
            obtain ⟨mw8r, w8r, hw8r, hse, F⟩ := FR.out.put7 4 rfl (b := q + 4) rfl (.bool true) (.bool false) (.bool false) (.int .i64 0) (.int .i64 0) (.int .u64 0) (.slice none 0 0)
            replace FR := F
            clear F hse
            go_wp2
            refine bodyPost_ret (res_ccc Try.results39 (by rfl) (by rfl) (by rfl) (FR.out.load 2 rfl rfl Try.underlying29 (by kernel_rfl)) (FR.out.load 3 rfl rfl Try.underlying31 (by kernel_rfl)) (FR.out.load 4 rfl rfl Try.underlying38 (by kernel_rfl))) rfl ?_
            rw [HE.out]
            exact ⟨rfl, FR.out.out⟩
        · rw [hb1] at B1
          replace B1 := Lib.hid B1
          have HE := Lib.hid (HO.trans (if_pos (Or.inr (Or.inr (Or.inl (of_decide_eq_true hb1))))))
          clear HO hb0 hb1 hx0 B2
          go_enter Try.func39, Try.ntmps39
          have ac0 := row11 (b := q) (FR.out.at 0 rfl rfl)
          have ac1 := row10 (b := q + 1) (FR.out.at 1 rfl rfl)
          go_wp2_with fail
          refine (B0.out _).mono ?_
          rintro e wz ⟨rfl, hw⟩
          obtain rfl := hw.symm
          go_wp2_with fail
          refine (B1.out _).mono ?_
          rintro e wz ⟨rfl, hw⟩
          obtain rfl := hw.symm
          clear ac0 ac1
          have ac0 := row11 (b := q) (FR.out.at 0 rfl rfl)
          have ac1 := row10 (b := q + 1) (FR.out.at 1 rfl rfl)
          obtain ⟨mw6r, w6r, hw6r, hse, F⟩ := FR.out.put11 2 rfl (b := q + 2) rfl (.int .i64 kd) (.int .i64 o0) (.int .i64 o1) (.int .i64 o2) (.int .i64 o3) (.int .i64 o4) (.int .i64 o5) (.int .u32 wa) (.int .u32 to) (.slice A n c) (.slice B m d)
          replace FR := F
          clear F hse
          obtain ⟨mw7r, w7r, hw7r, hse, F⟩ := FR.out.put10 3 rfl (b := q + 3) rfl (.int .i64 0) (.int .i64 0) (.int .i64 0) (.int .i64 0) (.int .i64 0) (.int .i64 0) (.bool false) (.bool false) (.int .i64 0) (.bool false)
          replace FR := F
          clear F hse
          obtain ⟨mw8r, w8r, hw8r, hse, F⟩ := FR.out.put7 4 rfl (b := q + 4) rfl (.bool true) (.bool false) (.bool false) (.int .i64 0) (.int .i64 0) (.int .u64 0) (.slice none 0 0)
          replace FR := F
          clear F hse
          go_wp2
          refine bodyPost_ret (res_ccc Try.results39 (by rfl) (by rfl) (by rfl) (FR.out.load 2 rfl rfl Try.underlying29 (by kernel_rfl)) (FR.out.load 3 rfl rfl Try.underlying31 (by kernel_rfl)) (FR.out.load 4 rfl rfl Try.underlying38 (by kernel_rfl))) rfl ?_
          rw [HE.out]
          exact ⟨rfl, FR.out.out⟩
      · rw [hb0] at B0
        replace B0 := Lib.hid B0
        have HE := Lib.hid (HO.trans (if_pos (Or.inr (Or.inl (of_decide_eq_true hb0)))))
        clear HO hb0 hx0 B1 B2
        go_enter Try.func39, Try.ntmps39
        have ac0 := row11 (b := q) (FR.out.at 0 rfl rfl)
        have ac1 := row10 (b := q + 1) (FR.out.at 1 rfl rfl)
        go_wp2_with fail
        refine (B0.out _).mono ?_
        rintro e wz ⟨rfl, hw⟩
        obtain rfl := hw.symm
        clear ac0 ac1
        have ac0 := row11 (b := q) (FR.out.at 0 rfl rfl)
        have ac1 := row10 (b := q + 1) (FR.out.at 1 rfl rfl)
        obtain ⟨mw6r, w6r, hw6r, hse, F⟩ := FR.out.put11 2 rfl (b := q + 2) rfl (.int .i64 kd) (.int .i64 o0) (.int .i64 o1) (.int .i64 o2) (.int .i64 o3) (.int .i64 o4) (.int .i64 o5) (.int .u32 wa) (.int .u32 to) (.slice A n c) (.slice B m d)
        replace FR := F
        clear F hse
        obtain ⟨mw7r, w7r, hw7r, hse, F⟩ := FR.out.put10 3 rfl (b := q + 3) rfl (.int .i64 0) (.int .i64 0) (.int .i64 0) (.int .i64 0) (.int .i64 0) (.int .i64 0) (.bool false) (.bool false) (.int .i64 0) (.bool false)
        replace FR := F
        clear F hse
        obtain ⟨mw8r, w8r, hw8r, hse, F⟩ := FR.out.put7 4 rfl (b := q + 4) rfl (.bool true) (.bool false) (.bool false) (.int .i64 0) (.int .i64 0) (.int .u64 0) (.slice none 0 0)
        replace FR := F
        clear F hse
        go_wp2
        refine bodyPost_ret (res_ccc Try.results39 (by rfl) (by rfl) (by rfl) (FR.out.load 2 rfl rfl Try.underlying29 (by kernel_rfl)) (FR.out.load 3 rfl rfl Try.underlying31 (by kernel_rfl)) (FR.out.load 4 rfl rfl Try.underlying38 (by kernel_rfl))) rfl ?_
        rw [HE.out]
        exact ⟨rfl, FR.out.out⟩
  have n1 : (phase == 1) = false := by simp [p1]
  by_cases p2 : phase = 2
  · subst p2
    have HE := Lib.hid (show unlockM o0 ⟨op, stage, 2, old, since, left, awoke, starve, need, front⟩ = (o0, noF, ⟨true, 2, true, 0⟩) from (by
      unfold unlockM
      rw [if_neg (fun h => (show ¬ ((2 : Int) = 0) by decide) h.1), if_neg (fun h => (show ¬ ((2 : Int) = 0) by decide) h), if_neg (fun h => (show ¬ ((2 : Int) = 1) by decide) h), if_pos rfl]))
    clear p0 p1 n0 n1 B0 B1 B2
    go_enter Try.func39, Try.ntmps39
    have ac0 := row11 (b := q) (FR.out.at 0 rfl rfl)
    have ac1 := row10 (b := q + 1) (FR.out.at 1 rfl rfl)
    obtain ⟨mw6r, w6r, hw6r, hse, F⟩ := FR.out.put11 2 rfl (b := q + 2) rfl (.int .i64 kd) (.int .i64 o0) (.int .i64 o1) (.int .i64 o2) (.int .i64 o3) (.int .i64 o4) (.int .i64 o5) (.int .u32 wa) (.int .u32 to) (.slice A n c) (.slice B m d)
    replace FR := F
    clear F hse
    obtain ⟨mw7r, w7r, hw7r, hse, F⟩ := FR.out.put10 3 rfl (b := q + 3) rfl (.int .i64 0) (.int .i64 0) (.int .i64 0) (.int .i64 0) (.int .i64 0) (.int .i64 0) (.bool false) (.bool false) (.int .i64 0) (.bool false)
    replace FR := F
    clear F hse
    obtain ⟨mw8r, w8r, hw8r, hse, F⟩ := FR.out.put7 4 rfl (b := q + 4) rfl (.bool true) (.bool false) (.bool true) (.int .i64 2) (.int .i64 0) (.int .u64 0) (.slice none 0 0)
    replace FR := F
    clear F hse
    go_wp2
    refine bodyPost_ret (res_ccc Try.results39 (by rfl) (by rfl) (by rfl) (FR.out.load 2 rfl rfl Try.underlying29 (by kernel_rfl)) (FR.out.load 3 rfl rfl Try.underlying31 (by kernel_rfl)) (FR.out.load 4 rfl rfl Try.underlying38 (by kernel_rfl))) rfl ?_
    rw [HE.out]
    exact ⟨rfl, FR.out.out⟩
  have n2 : (phase == 2) = false := by simp [p2]
  by_cases p3 : phase = 3
  · subst p3
    have HE := Lib.hid (show unlockM o0 ⟨op, stage, 3, old, since, left, awoke, starve, need, front⟩ = (o0, noF, ⟨true, 2, false, 0⟩) from (by
      unfold unlockM
      rw [if_neg (fun h => (show ¬ ((3 : Int) = 0) by decide) h.1), if_neg (fun h => (show ¬ ((3 : Int) = 0) by decide) h), if_neg (fun h => (show ¬ ((3 : Int) = 1) by decide) h), if_neg (fun h => (show ¬ ((3 : Int) = 2) by decide) h), if_pos rfl]))
    clear p0 p1 p2 n0 n1 n2 B0 B1 B2
    go_enter Try.func39, Try.ntmps39
    have ac0 := row11 (b := q) (FR.out.at 0 rfl rfl)
    have ac1 := row10 (b := q + 1) (FR.out.at 1 rfl rfl)
    obtain ⟨mw6r, w6r, hw6r, hse, F⟩ := FR.out.put11 2 rfl (b := q + 2) rfl (.int .i64 kd) (.int .i64 o0) (.int .i64 o1) (.int .i64 o2) (.int .i64 o3) (.int .i64 o4) (.int .i64 o5) (.int .u32 wa) (.int .u32 to) (.slice A n c) (.slice B m d)
    replace FR := F
    clear F hse
    obtain ⟨mw7r, w7r, hw7r, hse, F⟩ := FR.out.put10 3 rfl (b := q + 3) rfl (.int .i64 0) (.int .i64 0) (.int .i64 0) (.int .i64 0) (.int .i64 0) (.int .i64 0) (.bool false) (.bool false) (.int .i64 0) (.bool false)
    replace FR := F
    clear F hse
    obtain ⟨mw8r, w8r, hw8r, hse, F⟩ := FR.out.put7 4 rfl (b := q + 4) rfl (.bool true) (.bool false) (.bool false) (.int .i64 2) (.int .i64 0) (.int .u64 0) (.slice none 0 0)
    replace FR := F
    clear F hse
    go_wp2
    refine bodyPost_ret (res_ccc Try.results39 (by rfl) (by rfl) (by rfl) (FR.out.load 2 rfl rfl Try.underlying29 (by kernel_rfl)) (FR.out.load 3 rfl rfl Try.underlying31 (by kernel_rfl)) (FR.out.load 4 rfl rfl Try.underlying38 (by kernel_rfl))) rfl ?_
    rw [HE.out]
    exact ⟨rfl, FR.out.out⟩
  have n3 : (phase == 3) = false := by simp [p3]
  have HE := Lib.hid (show unlockM o0 ⟨op, stage, phase, old, since, left, awoke, starve, need, front⟩ = (o0, ⟨op, stage, phase, old, since, left, awoke, starve, need, front⟩, noA) from by
    unfold unlockM
    rw [if_neg (fun h => p0 h.1), if_neg p0, if_neg p1, if_neg p2, if_neg p3])
  clear p0 p1 p2 p3 B0 B1 B2
  go_enter Try.func39, Try.ntmps39
  have ac0 := row11 (b := q) (FR.out.at 0 rfl rfl)
  have ac1 := row10 (b := q + 1) (FR.out.at 1 rfl rfl)
  go_wp2
  clear ac0 ac1
  have HF0 := Lib.hid FR.out.drew
  obtain ⟨w6r, hw6r⟩ : ∃ W, v5.drew.setCells (q + 2) 0 [.int .i64 kd, .int .i64 o0, .int .i64 o1, .int .i64 o2, .int .i64 o3, .int .i64 o4, .int .i64 o5, .int .u32 wa, .int .u32 to, .slice A n c, .slice B m d] = W := ⟨_, rfl⟩
  have HF1 := Lib.hid ((HF0.out.all 2 rfl rfl (by rfl)).eqw hw6r)
  have hh1 := Lib.hid hw6r
  clear hw6r
  obtain ⟨w7r, hw7r⟩ : ∃ W, w6r.setCells (q + 3) 0 [.int .i64 op, .int .i64 stage, .int .i64 phase, .int .i64 old, .int .i64 since, .int .i64 left, .bool awoke, .bool starve, .int .i64 need, .bool front] = W := ⟨_, rfl⟩
  have HF2 := Lib.hid ((HF1.out.all 3 rfl rfl (by rfl)).eqw hw7r)
  have hh2 := Lib.hid hw7r
  clear hw7r
  obtain ⟨w8r, hw8r⟩ : ∃ W, w7r.setCells (q + 4) 0 [.bool false, .bool false, .bool false, .int .i64 0, .int .i64 0, .int .u64 0, .slice none 0 0] = W := ⟨_, rfl⟩
  have HF3 := Lib.hid ((HF2.out.all 4 rfl rfl (by rfl)).eqw hw8r)
  have hh3 := Lib.hid hw8r
  clear hw8r
  refine wp_region_noPanic ?_
  refine wp_region_held_drew (S := (fun wv => Hid (wv.heap[q]? = some (.cells #[.int .i64 kd, .int .i64 o0, .int .i64 o1, .int .i64 o2, .int .i64 o3, .int .i64 o4, .int .i64 o5, .int .u32 wa, .int .u32 to, .slice A n c, .slice B m d] 29) ∧ wv.heap[q + 1]? = some (.cells #[.int .i64 op, .int .i64 stage, .int .i64 phase, .int .i64 old, .int .i64 since, .int .i64 left, .bool awoke, .bool starve, .int .i64 need, .bool front] 31)))) (by kernel_rfl) (Lib.hid (And.intro (HF0.out.blk 0 _ rfl) (HF0.out.blk 1 _ rfl))) (fun hS => ?_)
  refine wpAnyH_take (i := 0) (oi := ⟨some 99, .load 29 (.tmp 2), 29, "ref.go:117", #[], none⟩) (v := .agg (([.int .i64 kd, .int .i64 o0, .int .i64 o1, .int .i64 o2, .int .i64 o3, .int .i64 o4, .int .i64 o5, .int .u32 wa, .int .u32 to, .slice A n c, .slice B m d] : List Value)).toArray) rfl (by kernel_rfl) (by kernel_rfl) (by kernel_rfl) (fun _ _ _ h => h) (yieldsIf_load_mid (by rfl) _ _ (by rfl) (q) (0) (by rfl) _ _ (fun wv hS => blk_rngl hS.out.1) Try.underlying29 (by rfl) (by kernel_rfl)) hS ?_
  try simp only [Act.put, List.setIfInBounds_toArray, List.set_cons_zero, List.set_cons_succ]
  refine wpAnyH_take (i := 1) (oi := ⟨some 100, .load 31 (.tmp 3), 31, "ref.go:117", #[⟨3, .gcOnly .lateStores⟩], none⟩) (v := .agg (([.int .i64 op, .int .i64 stage, .int .i64 phase, .int .i64 old, .int .i64 since, .int .i64 left, .bool awoke, .bool starve, .int .i64 need, .bool front] : List Value)).toArray) rfl (by kernel_rfl) (by kernel_rfl) (by kernel_rfl) (fun _ _ _ h => h) (yieldsIf_load_mid (by rfl) _ _ (by rfl) (q + 1) (0) (by rfl) _ _ (fun wv hS => blk_rngl hS.out.2) Try.underlying31 (by rfl) (by kernel_rfl)) hS ?_
  try simp only [Act.put, List.setIfInBounds_toArray, List.set_cons_zero, List.set_cons_succ]
  refine wpAnyH_take (i := 2) (oi := ⟨some 101, .build 38 #[], 38, "ref.go:117", #[⟨4, .gcOnly .lateStores⟩], none⟩) (v := ?_) rfl (by kernel_rfl) (by kernel_rfl) (by kernel_rfl) (fun _ _ _ h => h) (Or.inl ⟨by rfl, ?_⟩) hS ?_
  rotate_left
  · intro wv _; go_simp; try with_reducible rfl
  try simp only [Act.put, List.setIfInBounds_toArray, List.set_cons_zero, List.set_cons_succ]
  refine wpAnyH_ready (rs := [3]) (by kernel_rfl) (by simp) (AllReadyH.cons (o := ⟨none, .store 29 (.tmp 4) (.tmp 99), 0, "ref.go:117", #[⟨0, .data⟩, ⟨0, .phase⟩, ⟨1, .textOnly .lateStores⟩, ⟨2, .textOnly .lateStores⟩], none⟩) rfl (fun K hK => ?_) AllReadyH.nil)
  refine op_storeS (by rfl) rfl rfl rfl (there_blk (HF0.out.blk 2 _ rfl) rfl) (by kernel_rfl) (by simp [Value.oneCell']) hh1.out ?_
  replace hS := Lib.hid (And.intro (HF1.out.blk 0 _ rfl) (HF1.out.blk 1 _ rfl))
  refine Shut.out hK _ _ hS (fun _ => ?_)
  clear hK K
  try simp only [Act.put, List.setIfInBounds_toArray, List.set_cons_zero, List.set_cons_succ]
  refine wpAnyH_ready (rs := [4]) (by kernel_rfl) (by simp) (AllReadyH.cons (o := ⟨none, .store 31 (.tmp 5) (.tmp 100), 0, "ref.go:117", #[⟨1, .data⟩, ⟨3, .chain⟩, ⟨0, .phase⟩, ⟨1, .phase⟩, ⟨2, .textOnly .lateStores⟩, ⟨3, .phase⟩], none⟩) rfl (fun K hK => ?_) AllReadyH.nil)
  refine op_storeS (by rfl) rfl rfl rfl (there_blk (HF1.out.blk 3 _ rfl) rfl) (by kernel_rfl) (by simp [Value.oneCell']) hh2.out ?_
  replace hS := Lib.hid (And.intro (HF2.out.blk 0 _ rfl) (HF2.out.blk 1 _ rfl))
  refine Shut.out hK _ _ hS (fun _ => ?_)
  clear hK K
  try simp only [Act.put, List.setIfInBounds_toArray, List.set_cons_zero, List.set_cons_succ]
  refine wpAnyH_ready (rs := [5]) (by kernel_rfl) (by simp) (AllReadyH.cons (o := ⟨none, .store 38 (.tmp 6) (.tmp 101), 0, "ref.go:117", #[⟨2, .data⟩, ⟨4, .chain⟩, ⟨0, .phase⟩, ⟨1, .phase⟩, ⟨2, .phase⟩, ⟨3, .phase⟩, ⟨4, .phase⟩], none⟩) rfl (fun K hK => ?_) AllReadyH.nil)
  refine op_storeS (by rfl) rfl rfl rfl (there_blk (HF2.out.blk 4 _ rfl) rfl) (by kernel_rfl) (by simp [Value.oneCell']) hh3.out ?_
  replace hS := Lib.hid (And.intro (HF3.out.blk 0 _ rfl) (HF3.out.blk 1 _ rfl))
  refine Shut.out hK _ _ hS (fun _ => ?_)
  clear hK K
  try simp only [Act.put, List.setIfInBounds_toArray, List.set_cons_zero, List.set_cons_succ]
  refine wpAnyH_done (by kernel_rfl) ?_ _
  refine NoPanic.normal ?_
  go_wp2
  refine bodyPost_ret (res_ccc Try.results39 (by rfl) (by rfl) (by rfl) (HF3.out.load 2 rfl rfl Try.underlying29 (by kernel_rfl)) (HF3.out.load 3 rfl rfl Try.underlying31 (by kernel_rfl)) (HF3.out.load 4 rfl rfl Try.underlying38 (by kernel_rfl))) rfl ?_
  replace FR := HF3
  rw [HE.out]
  exact ⟨rfl, FR.out.out⟩
end Go.Proofs.Ytpkegfochfkkcaa
