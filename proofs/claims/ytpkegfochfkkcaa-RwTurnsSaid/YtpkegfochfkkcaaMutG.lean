/- Layer 15: what the landed mutex's steps of unlocking, slices.Clone of waiters and of claims, and step.Own answer; for lists of up to 16384. -/
import Derived.Test.YtpkegfochfkkcaaMutF
import Derived.Test.YtpkegfochfkkcaaRo
namespace Go.Proofs.Ytpkegfochfkkcaa
set_option linter.unusedVariables false
set_option linter.unusedSimpArgs false
open Go.RowKit
theorem dec_zero {x : Int} (h : IntKind.i64.wrap x = x) : (IntKind.i64.wrap (x - 1) == 0) = decide (x = 1) := by
  have h2 : IntKind.i64.wrap (x - 1) = 0 ↔ x = 1 := by rw [IntKind.wrap_i64] at h ⊢; omega
  by_cases h1 : x = 1
  · rw [decide_eq_true h1, h2.2 h1]; rfl
  · rw [decide_eq_false h1]; simpa using fun e => h1 (h2.1 e)
theorem dec_bit {x : Int} (h : hasBit x 0) : decide (hasBit (IntKind.i64.wrap (x - 1)) 2) = decide (hasBit x 2) := decide_eq_decide.2 (by rw [bit_wrap2, hasBit2, hasBit2]; rw [hasBit0] at h; omega)
set_option maxRecDepth 100000 in
set_option maxHeartbeats 16000000 in
theorem muUnOnce_any (o0 : Int) (f : MFr) (hp : f.phase = 0) (hr : IntKind.i64.wrap o0 = o0) (w : World) : Calls Try.prog 48 #[.int .i64 o0, frV f] w (TupC w (unlockM o0 f)) := by
  obtain ⟨op, stage, phase, old, since, left, awoke, starve, need, front⟩ := f
  have hp2 : phase = 0 := hp
  subst hp2
  clear hp
  have hdz := dec_zero hr
  have B0 := fun (W : World) => muHas1 o0 W
  have hdb := dec_bit (x := o0)
  obtain ⟨z, hz⟩ : ∃ z, IntKind.i64.wrap (o0 - 1) = z := ⟨_, rfl⟩
  have B2 := fun (W : World) => muHas4 z W
  have HO : unlockM o0 ⟨op, stage, 0, old, since, left, awoke, starve, need, front⟩ = (if ¬ hasBit o0 0 then (o0, noF, ⟨false, 0, false, 1⟩) else if o0 = 1 then (0, noF, doneA) else (z, ⟨op, stage, if hasBit o0 2 then 2 else 1, z, since, left, awoke, starve, need, front⟩, noA)) := by
    unfold unlockM
    by_cases h : hasBit o0 0
    · rw [if_neg (fun e => e.2 h), if_pos rfl]; simp only [hz]; exact (if_neg (fun e : ¬ hasBit o0 0 => e h)).symm
    · rw [if_pos ⟨rfl, h⟩, if_pos h]
  rw [hz] at hdz hdb
  clear hr
  unfold frV frC
  simp only
  obtain ⟨v1, hv1, z1, v2, hv2, z2, v3, hv3, z3, F⟩ := boxes3 w (.cells #[.int .i64 op, .int .i64 stage, .int .i64 0, .int .i64 old, .int .i64 since, .int .i64 left, .bool awoke, .bool starve, .int .i64 need, .bool front] 31) (.cells #[.int .i64 0, .int .i64 0, .int .i64 0, .int .i64 0, .int .i64 0, .int .i64 0, .bool false, .bool false, .int .i64 0, .bool false] 31) (.cells #[.bool false, .bool false, .bool false, .int .i64 0, .int .i64 0, .int .u64 0, .slice none 0 0] 38)
  generalize hq : w.heap.size = q at *
  have FR := Lib.hid F
  clear F
  cases hb0 : decide (hasBit o0 0)
  · rw [hb0] at B0
    replace B0 := Lib.hid B0
    have HE := Lib.hid (HO.trans (if_pos (of_decide_eq_false hb0)))
    clear HO hb0 hdz hdb hz B2
    go_enter Try.func48, Try.ntmps48
    go_wp2_with fail
    refine (B0.out _).mono ?_
    rintro e wz ⟨rfl, hw⟩
    obtain rfl := hw.symm
    obtain ⟨mw4r, w4r, hw4r, hse, F⟩ := FR.out.put10 1 rfl (b := q + 1) rfl (.int .i64 0) (.int .i64 0) (.int .i64 0) (.int .i64 0) (.int .i64 0) (.int .i64 0) (.bool false) (.bool false) (.int .i64 0) (.bool false)
    replace FR := F
    clear F hse
    obtain ⟨mw5r, w5r, hw5r, hse, F⟩ := FR.out.put7 2 rfl (b := q + 2) rfl (.bool false) (.bool false) (.bool false) (.int .i64 0) (.int .i64 1) (.int .u64 0) (.slice none 0 0)
    replace FR := F
    clear F hse
    go_wp2
    refine bodyPost_ret (res_scc Try.results48 (by rfl) (by rfl) (FR.out.load 1 rfl rfl Try.underlying31 (by kernel_rfl)) (FR.out.load 2 rfl rfl Try.underlying38 (by kernel_rfl))) rfl ?_
    rw [HE.out]
    exact ⟨rfl, FR.out.out⟩
  · rw [hb0] at B0
    replace B0 := Lib.hid B0
    replace HO := HO.trans (if_neg (fun h => h (of_decide_eq_true hb0)))
    replace hdb := hdb (of_decide_eq_true hb0)
    clear hb0
    by_cases h1 : o0 = 1
    · rw [decide_eq_true h1] at hdz
      have hz0 : z = 0 := by simpa using hdz
      subst hz0
      have HE := Lib.hid (HO.trans (if_pos h1))
      have t1 : ((0 : Int) == 0) = true := rfl
      clear HO h1 hdz hdb B2
      go_enter Try.func48, Try.ntmps48
      go_wp2_with fail
      refine (B0.out _).mono ?_
      rintro e wz ⟨rfl, hw⟩
      obtain rfl := hw.symm
      go_wp2_with fail
      refine (muDone_any 0 _).mono ?_
      rintro e w4 ⟨rfl, hb⟩
      replace FR := Lib.hid (FR.out.step hb)
      clear hb
      obtain ⟨mw5r, w5r, hw5r, hse, F⟩ := FR.out.put10 1 rfl (b := q + 1) rfl (.int .i64 0) (.int .i64 0) (.int .i64 0) (.int .i64 0) (.int .i64 0) (.int .i64 0) (.bool false) (.bool false) (.int .i64 0) (.bool false)
      replace FR := F
      clear F hse
      obtain ⟨mw6r, w6r, hw6r, hse, F⟩ := FR.out.put7 2 rfl (b := q + 2) rfl (.bool true) (.bool false) (.bool false) (.int .i64 0) (.int .i64 0) (.int .u64 0) (.slice none 0 0)
      replace FR := F
      clear F hse
      go_wp2
      refine bodyPost_ret (res_scc Try.results48 (by rfl) (by rfl) (FR.out.load 1 rfl rfl Try.underlying31 (by kernel_rfl)) (FR.out.load 2 rfl rfl Try.underlying38 (by kernel_rfl))) rfl ?_
      rw [HE.out]
      exact ⟨rfl, FR.out.out⟩
    · rw [decide_eq_false h1] at hdz
      replace HO := HO.trans (if_neg h1)
      rw [hdb] at B2
      clear h1 hdb
      cases hb2 : decide (hasBit o0 2)
      · rw [hb2] at B2
        replace B2 := Lib.hid B2
        have HE := Lib.hid (show unlockM o0 ⟨op, stage, 0, old, since, left, awoke, starve, need, front⟩ = (z, ⟨op, stage, 1, z, since, left, awoke, starve, need, front⟩, noA) from HO.trans (by rw [if_neg (of_decide_eq_false hb2)]))
        clear HO hb2
        go_enter Try.func48, Try.ntmps48
        go_wp2_with fail
        refine (B0.out _).mono ?_
        rintro e wz ⟨rfl, hw⟩
        obtain rfl := hw.symm
        have ac0 := row10 (b := q) (FR.out.at 0 rfl rfl)
        have af03 : v3.frozen? ⟨q, 3, none⟩ = false := FR.out.frozen 0 3 rfl rfl
        obtain ⟨w4p, hw4p⟩ : ∃ W, (v3.setCell ⟨q, 3, none⟩ (.int .i64 z)) = W := ⟨_, rfl⟩
        replace FR := Lib.hid (((FR.out.set 0 3 rfl rfl (.int .i64 z))).eqw hw4p)
        have bc0 := row10 (b := q) (FR.out.at 0 rfl rfl)
        have bf02 : w4p.frozen? ⟨q, 2, none⟩ = false := FR.out.frozen 0 2 rfl rfl
        obtain ⟨w5p, hw5p⟩ : ∃ W, (w4p.setCell ⟨q, 2, none⟩ (.int .i64 1)) = W := ⟨_, rfl⟩
        replace FR := Lib.hid (((FR.out.set 0 2 rfl rfl (.int .i64 1))).eqw hw5p)
        have cc0 := row10 (b := q) (FR.out.at 0 rfl rfl)
        go_wp2_with fail
        refine (B2.out _).mono ?_
        rintro e wz ⟨rfl, hw⟩
        obtain rfl := hw.symm
        clear ac0 af03 bc0 bf02 cc0
        have ac0 := row10 (b := q) (FR.out.at 0 rfl rfl)
        go_wp2
        clear ac0
        have HF0 := Lib.hid FR.out.drew
        obtain ⟨w6r, hw6r⟩ : ∃ W, w5p.drew.setCells (q + 1) 0 [.int .i64 op, .int .i64 stage, .int .i64 1, .int .i64 z, .int .i64 since, .int .i64 left, .bool awoke, .bool starve, .int .i64 need, .bool front] = W := ⟨_, rfl⟩
        have HF1 := Lib.hid ((HF0.out.all 1 rfl rfl (by rfl)).eqw hw6r)
        have hh1 := Lib.hid hw6r
        clear hw6r
        obtain ⟨w7r, hw7r⟩ : ∃ W, w6r.setCells (q + 2) 0 [.bool false, .bool false, .bool false, .int .i64 0, .int .i64 0, .int .u64 0, .slice none 0 0] = W := ⟨_, rfl⟩
        have HF2 := Lib.hid ((HF1.out.all 2 rfl rfl (by rfl)).eqw hw7r)
        have hh2 := Lib.hid hw7r
        clear hw7r
        refine wp_region_noPanic ?_
        refine wp_region_held_drew (S := (fun wv => Hid (wv.heap[q]? = some (.cells #[.int .i64 op, .int .i64 stage, .int .i64 1, .int .i64 z, .int .i64 since, .int .i64 left, .bool awoke, .bool starve, .int .i64 need, .bool front] 31)))) (by kernel_rfl) (Lib.hid (HF0.out.blk 0 _ rfl)) (fun hS => ?_)
        refine wpAnyH_take (i := 0) (oi := ⟨some 28, .move (.tmp 0), 2, "unlock.go:27", #[], none⟩) (v := ?_) rfl (by kernel_rfl) (by kernel_rfl) (by kernel_rfl) (fun _ _ _ h => h) (Or.inl ⟨by rfl, ?_⟩) hS ?_
        rotate_left
        · intro wv _; go_simp; try with_reducible rfl
        try simp only [Act.put, List.setIfInBounds_toArray, List.set_cons_zero, List.set_cons_succ]
        refine wpAnyH_take (i := 1) (oi := ⟨some 29, .load 31 (.tmp 3), 31, "unlock.go:27", #[⟨3, .gcOnly .lateStores⟩], none⟩) (v := .agg (([.int .i64 op, .int .i64 stage, .int .i64 1, .int .i64 z, .int .i64 since, .int .i64 left, .bool awoke, .bool starve, .int .i64 need, .bool front] : List Value)).toArray) rfl (by kernel_rfl) (by kernel_rfl) (by kernel_rfl) (fun _ _ _ h => h) (yieldsIf_load_mid (by rfl) _ _ (by rfl) (q) (0) (by rfl) _ _ (fun wv hS => blk_rngl hS.out) Try.underlying31 (by rfl) (by kernel_rfl)) hS ?_
        try simp only [Act.put, List.setIfInBounds_toArray, List.set_cons_zero, List.set_cons_succ]
        refine wpAnyH_take (i := 2) (oi := ⟨some 30, .build 38 #[], 38, "unlock.go:27", #[⟨4, .gcOnly .lateStores⟩], none⟩) (v := ?_) rfl (by kernel_rfl) (by kernel_rfl) (by kernel_rfl) (fun _ _ _ h => h) (Or.inl ⟨by rfl, ?_⟩) hS ?_
        rotate_left
        · intro wv _; go_simp; try with_reducible rfl
        try simp only [Act.put, List.setIfInBounds_toArray, List.set_cons_zero, List.set_cons_succ]
        refine wpAnyH_take (i := 3) (oi := ⟨some 4, .assign (.tmp 28), 2, "unlock.go:27", #[⟨0, .data⟩, ⟨0, .phase⟩, ⟨1, .textOnly .lateStores⟩, ⟨2, .textOnly .lateStores⟩], none⟩) (v := ?_) rfl (by kernel_rfl) (by kernel_rfl) (by kernel_rfl) (fun _ _ _ h => h) (Or.inl ⟨by rfl, ?_⟩) hS ?_
        rotate_left
        · intro wv _; go_simp; try with_reducible rfl
        try simp only [Act.put, List.setIfInBounds_toArray, List.set_cons_zero, List.set_cons_succ]
        refine wpAnyH_ready (rs := [4]) (by kernel_rfl) (by simp) (AllReadyH.cons (o := ⟨none, .store 31 (.tmp 5) (.tmp 29), 0, "unlock.go:27", #[⟨1, .data⟩, ⟨3, .chain⟩, ⟨0, .phase⟩, ⟨1, .phase⟩, ⟨2, .textOnly .lateStores⟩, ⟨3, .phase⟩], none⟩) rfl (fun K hK => ?_) AllReadyH.nil)
        refine op_storeS (by rfl) rfl rfl rfl (there_blk (HF0.out.blk 1 _ rfl) rfl) (by kernel_rfl) (by simp [Value.oneCell']) hh1.out ?_
        replace hS := Lib.hid (HF1.out.blk 0 _ rfl)
        refine Shut.out hK _ _ hS (fun _ => ?_)
        clear hK K
        try simp only [Act.put, List.setIfInBounds_toArray, List.set_cons_zero, List.set_cons_succ]
        refine wpAnyH_ready (rs := [5]) (by kernel_rfl) (by simp) (AllReadyH.cons (o := ⟨none, .store 38 (.tmp 6) (.tmp 30), 0, "unlock.go:27", #[⟨2, .data⟩, ⟨4, .chain⟩, ⟨0, .phase⟩, ⟨1, .phase⟩, ⟨2, .phase⟩, ⟨3, .phase⟩, ⟨4, .phase⟩], none⟩) rfl (fun K hK => ?_) AllReadyH.nil)
        refine op_storeS (by rfl) rfl rfl rfl (there_blk (HF1.out.blk 2 _ rfl) rfl) (by kernel_rfl) (by simp [Value.oneCell']) hh2.out ?_
        replace hS := Lib.hid (HF2.out.blk 0 _ rfl)
        refine Shut.out hK _ _ hS (fun _ => ?_)
        clear hK K
        try simp only [Act.put, List.setIfInBounds_toArray, List.set_cons_zero, List.set_cons_succ]
        refine wpAnyH_done (by kernel_rfl) ?_ _
        refine NoPanic.normal ?_
        go_wp2
        refine bodyPost_ret (res_scc Try.results48 (by rfl) (by rfl) (HF2.out.load 1 rfl rfl Try.underlying31 (by kernel_rfl)) (HF2.out.load 2 rfl rfl Try.underlying38 (by kernel_rfl))) rfl ?_
        replace FR := HF2
        rw [HE.out]
        exact ⟨rfl, FR.out.out⟩
      · rw [hb2] at B2
        replace B2 := Lib.hid B2
        have HE := Lib.hid (show unlockM o0 ⟨op, stage, 0, old, since, left, awoke, starve, need, front⟩ = (z, ⟨op, stage, 2, z, since, left, awoke, starve, need, front⟩, noA) from HO.trans (by rw [if_pos (of_decide_eq_true hb2)]))
        clear HO hb2
        go_enter Try.func48, Try.ntmps48
        go_wp2_with fail
        refine (B0.out _).mono ?_
        rintro e wz ⟨rfl, hw⟩
        obtain rfl := hw.symm
        have ac0 := row10 (b := q) (FR.out.at 0 rfl rfl)
        have af03 : v3.frozen? ⟨q, 3, none⟩ = false := FR.out.frozen 0 3 rfl rfl
        obtain ⟨w4p, hw4p⟩ : ∃ W, (v3.setCell ⟨q, 3, none⟩ (.int .i64 z)) = W := ⟨_, rfl⟩
        replace FR := Lib.hid (((FR.out.set 0 3 rfl rfl (.int .i64 z))).eqw hw4p)
        have bc0 := row10 (b := q) (FR.out.at 0 rfl rfl)
        have bf02 : w4p.frozen? ⟨q, 2, none⟩ = false := FR.out.frozen 0 2 rfl rfl
        obtain ⟨w5p, hw5p⟩ : ∃ W, (w4p.setCell ⟨q, 2, none⟩ (.int .i64 1)) = W := ⟨_, rfl⟩
        replace FR := Lib.hid (((FR.out.set 0 2 rfl rfl (.int .i64 1))).eqw hw5p)
        have cc0 := row10 (b := q) (FR.out.at 0 rfl rfl)
        go_wp2_with fail
        refine (B2.out _).mono ?_
        rintro e wz ⟨rfl, hw⟩
        obtain rfl := hw.symm
        clear ac0 af03 bc0 bf02 cc0
        have ac0 := row10 (b := q) (FR.out.at 0 rfl rfl)
        have af02 : w5p.frozen? ⟨q, 2, none⟩ = false := FR.out.frozen 0 2 rfl rfl
        obtain ⟨w6p, hw6p⟩ : ∃ W, (w5p.setCell ⟨q, 2, none⟩ (.int .i64 2)) = W := ⟨_, rfl⟩
        replace FR := Lib.hid (((FR.out.set 0 2 rfl rfl (.int .i64 2))).eqw hw6p)
        have bc0 := row10 (b := q) (FR.out.at 0 rfl rfl)
        go_wp2
        clear ac0 af02 bc0
        have HF0 := Lib.hid FR.out.drew
        obtain ⟨w7r, hw7r⟩ : ∃ W, w6p.drew.setCells (q + 1) 0 [.int .i64 op, .int .i64 stage, .int .i64 2, .int .i64 z, .int .i64 since, .int .i64 left, .bool awoke, .bool starve, .int .i64 need, .bool front] = W := ⟨_, rfl⟩
        have HF1 := Lib.hid ((HF0.out.all 1 rfl rfl (by rfl)).eqw hw7r)
        have hh1 := Lib.hid hw7r
        clear hw7r
        obtain ⟨w8r, hw8r⟩ : ∃ W, w7r.setCells (q + 2) 0 [.bool false, .bool false, .bool false, .int .i64 0, .int .i64 0, .int .u64 0, .slice none 0 0] = W := ⟨_, rfl⟩
        have HF2 := Lib.hid ((HF1.out.all 2 rfl rfl (by rfl)).eqw hw8r)
        have hh2 := Lib.hid hw8r
        clear hw8r
        refine wp_region_noPanic ?_
        refine wp_region_held_drew (S := (fun wv => Hid (wv.heap[q]? = some (.cells #[.int .i64 op, .int .i64 stage, .int .i64 2, .int .i64 z, .int .i64 since, .int .i64 left, .bool awoke, .bool starve, .int .i64 need, .bool front] 31)))) (by kernel_rfl) (Lib.hid (HF0.out.blk 0 _ rfl)) (fun hS => ?_)
        refine wpAnyH_take (i := 0) (oi := ⟨some 28, .move (.tmp 0), 2, "unlock.go:27", #[], none⟩) (v := ?_) rfl (by kernel_rfl) (by kernel_rfl) (by kernel_rfl) (fun _ _ _ h => h) (Or.inl ⟨by rfl, ?_⟩) hS ?_
        rotate_left
        · intro wv _; go_simp; try with_reducible rfl
        try simp only [Act.put, List.setIfInBounds_toArray, List.set_cons_zero, List.set_cons_succ]
        refine wpAnyH_take (i := 1) (oi := ⟨some 29, .load 31 (.tmp 3), 31, "unlock.go:27", #[⟨3, .gcOnly .lateStores⟩], none⟩) (v := .agg (([.int .i64 op, .int .i64 stage, .int .i64 2, .int .i64 z, .int .i64 since, .int .i64 left, .bool awoke, .bool starve, .int .i64 need, .bool front] : List Value)).toArray) rfl (by kernel_rfl) (by kernel_rfl) (by kernel_rfl) (fun _ _ _ h => h) (yieldsIf_load_mid (by rfl) _ _ (by rfl) (q) (0) (by rfl) _ _ (fun wv hS => blk_rngl hS.out) Try.underlying31 (by rfl) (by kernel_rfl)) hS ?_
        try simp only [Act.put, List.setIfInBounds_toArray, List.set_cons_zero, List.set_cons_succ]
        refine wpAnyH_take (i := 2) (oi := ⟨some 30, .build 38 #[], 38, "unlock.go:27", #[⟨4, .gcOnly .lateStores⟩], none⟩) (v := ?_) rfl (by kernel_rfl) (by kernel_rfl) (by kernel_rfl) (fun _ _ _ h => h) (Or.inl ⟨by rfl, ?_⟩) hS ?_
        rotate_left
        · intro wv _; go_simp; try with_reducible rfl
        try simp only [Act.put, List.setIfInBounds_toArray, List.set_cons_zero, List.set_cons_succ]
        refine wpAnyH_take (i := 3) (oi := ⟨some 4, .assign (.tmp 28), 2, "unlock.go:27", #[⟨0, .data⟩, ⟨0, .phase⟩, ⟨1, .textOnly .lateStores⟩, ⟨2, .textOnly .lateStores⟩], none⟩) (v := ?_) rfl (by kernel_rfl) (by kernel_rfl) (by kernel_rfl) (fun _ _ _ h => h) (Or.inl ⟨by rfl, ?_⟩) hS ?_
        rotate_left
        · intro wv _; go_simp; try with_reducible rfl
        try simp only [Act.put, List.setIfInBounds_toArray, List.set_cons_zero, List.set_cons_succ]
        refine wpAnyH_ready (rs := [4]) (by kernel_rfl) (by simp) (AllReadyH.cons (o := ⟨none, .store 31 (.tmp 5) (.tmp 29), 0, "unlock.go:27", #[⟨1, .data⟩, ⟨3, .chain⟩, ⟨0, .phase⟩, ⟨1, .phase⟩, ⟨2, .textOnly .lateStores⟩, ⟨3, .phase⟩], none⟩) rfl (fun K hK => ?_) AllReadyH.nil)
        refine op_storeS (by rfl) rfl rfl rfl (there_blk (HF0.out.blk 1 _ rfl) rfl) (by kernel_rfl) (by simp [Value.oneCell']) hh1.out ?_
        replace hS := Lib.hid (HF1.out.blk 0 _ rfl)
        refine Shut.out hK _ _ hS (fun _ => ?_)
        clear hK K
        try simp only [Act.put, List.setIfInBounds_toArray, List.set_cons_zero, List.set_cons_succ]
        refine wpAnyH_ready (rs := [5]) (by kernel_rfl) (by simp) (AllReadyH.cons (o := ⟨none, .store 38 (.tmp 6) (.tmp 30), 0, "unlock.go:27", #[⟨2, .data⟩, ⟨4, .chain⟩, ⟨0, .phase⟩, ⟨1, .phase⟩, ⟨2, .phase⟩, ⟨3, .phase⟩, ⟨4, .phase⟩], none⟩) rfl (fun K hK => ?_) AllReadyH.nil)
        refine op_storeS (by rfl) rfl rfl rfl (there_blk (HF1.out.blk 2 _ rfl) rfl) (by kernel_rfl) (by simp [Value.oneCell']) hh2.out ?_
        replace hS := Lib.hid (HF2.out.blk 0 _ rfl)
        refine Shut.out hK _ _ hS (fun _ => ?_)
        clear hK K
        try simp only [Act.put, List.setIfInBounds_toArray, List.set_cons_zero, List.set_cons_succ]
        refine wpAnyH_done (by kernel_rfl) ?_ _
        refine NoPanic.normal ?_
        go_wp2
        refine bodyPost_ret (res_scc Try.results48 (by rfl) (by rfl) (HF2.out.load 1 rfl rfl Try.underlying31 (by kernel_rfl)) (HF2.out.load 2 rfl rfl Try.underlying38 (by kernel_rfl))) rfl ?_
        replace FR := HF2
        rw [HE.out]
        exact ⟨rfl, FR.out.out⟩
set_option maxRecDepth 100000 in
set_option maxHeartbeats 16000000 in
theorem muWoke_any (o0 : Int) (f : MFr) (hp : f.phase = 1) (w : World) : Calls Try.prog 49 #[.int .i64 o0, frV f] w (TupC w (unlockM o0 f)) := by
  obtain ⟨op, stage, phase, old, since, left, awoke, starve, need, front⟩ := f
  have hp2 : phase = 1 := hp
  subst hp2
  clear hp
  have HO : unlockM o0 ⟨op, stage, 1, old, since, left, awoke, starve, need, front⟩ = (if old / 8 = 0 ∨ hasBit old 0 ∨ hasBit old 1 ∨ hasBit old 2 then (o0, noF, doneA) else if o0 ≠ old then (o0, ⟨op, stage, 1, o0, since, left, awoke, starve, need, front⟩, noA) else (IntKind.i64.wrap (o0 - 8 + 2), ⟨op, stage, 3, old, since, left, awoke, starve, need, front⟩, noA)) := by
    unfold unlockM
    rw [if_neg (fun h => (show ¬ ((1 : Int) = 0) by decide) h.1), if_neg (fun h => (show ¬ ((1 : Int) = 0) by decide) h), if_pos rfl]
  have MY := fun (W : World) => muMany_any old W
  have B7 := fun (W : World) => muHas7 old W
  obtain ⟨x, hx⟩ : ∃ x, old / 8 = x := ⟨_, rfl⟩
  rw [hx] at HO MY
  replace MY := Lib.hid MY
  clear hx
  unfold frV frC
  simp only
  obtain ⟨v1, hv1, z1, v2, hv2, z2, v3, hv3, z3, F⟩ := boxes3 w (.cells #[.int .i64 op, .int .i64 stage, .int .i64 1, .int .i64 old, .int .i64 since, .int .i64 left, .bool awoke, .bool starve, .int .i64 need, .bool front] 31) (.cells #[.int .i64 0, .int .i64 0, .int .i64 0, .int .i64 0, .int .i64 0, .int .i64 0, .bool false, .bool false, .int .i64 0, .bool false] 31) (.cells #[.bool false, .bool false, .bool false, .int .i64 0, .int .i64 0, .int .u64 0, .slice none 0 0] 38)
  generalize hq : w.heap.size = q at *
  have FR := Lib.hid F
  clear F
  by_cases hx0 : x = 0
  · have e0 : (x == 0) = true := by simp [hx0]
    have HE := Lib.hid (HO.trans (if_pos (Or.inl hx0)))
    clear HO hx0 B7
    go_enter Try.func49, Try.ntmps49
    have ac0 := row10 (b := q) (FR.out.at 0 rfl rfl)
    go_wp2_with fail
    refine (MY.out _).mono ?_
    rintro e wz ⟨rfl, hw⟩
    obtain rfl := hw.symm
    go_wp2_with fail
    refine (muDone_any o0 _).mono ?_
    rintro e w7 ⟨rfl, hb⟩
    clear ac0
    replace FR := Lib.hid (FR.out.step hb)
    clear hb
    obtain ⟨mw4r, w4r, hw4r, hse, F⟩ := FR.out.put10 1 rfl (b := q + 1) rfl (.int .i64 0) (.int .i64 0) (.int .i64 0) (.int .i64 0) (.int .i64 0) (.int .i64 0) (.bool false) (.bool false) (.int .i64 0) (.bool false)
    replace FR := F
    clear F hse
    obtain ⟨mw5r, w5r, hw5r, hse, F⟩ := FR.out.put7 2 rfl (b := q + 2) rfl (.bool true) (.bool false) (.bool false) (.int .i64 0) (.int .i64 0) (.int .u64 0) (.slice none 0 0)
    replace FR := F
    clear F hse
    go_wp2
    refine bodyPost_ret (res_scc Try.results49 (by rfl) (by rfl) (FR.out.load 1 rfl rfl Try.underlying31 (by kernel_rfl)) (FR.out.load 2 rfl rfl Try.underlying38 (by kernel_rfl))) rfl ?_
    rw [HE.out]
    exact ⟨rfl, FR.out.out⟩
  · have e0 : (x == 0) = false := by simp [hx0]
    cases hb7 : (decide (hasBit old 0) || (decide (hasBit old 1) || decide (hasBit old 2)))
    rotate_left
    · rw [hb7] at B7
      replace B7 := Lib.hid B7
      have HE := Lib.hid (HO.trans (if_pos (Or.inr (by simpa using hb7))))
      clear HO hx0 hb7
      go_enter Try.func49, Try.ntmps49
      have ac0 := row10 (b := q) (FR.out.at 0 rfl rfl)
      go_wp2_with fail
      refine (MY.out _).mono ?_
      rintro e wz ⟨rfl, hw⟩
      obtain rfl := hw.symm
      go_wp2_with fail
      refine (B7.out _).mono ?_
      rintro e wz ⟨rfl, hw⟩
      obtain rfl := hw.symm
      go_wp2_with fail
      refine (muDone_any o0 _).mono ?_
      rintro e w7 ⟨rfl, hb⟩
      clear ac0
      replace FR := Lib.hid (FR.out.step hb)
      clear hb
      obtain ⟨mw4r, w4r, hw4r, hse, F⟩ := FR.out.put10 1 rfl (b := q + 1) rfl (.int .i64 0) (.int .i64 0) (.int .i64 0) (.int .i64 0) (.int .i64 0) (.int .i64 0) (.bool false) (.bool false) (.int .i64 0) (.bool false)
      replace FR := F
      clear F hse
      obtain ⟨mw5r, w5r, hw5r, hse, F⟩ := FR.out.put7 2 rfl (b := q + 2) rfl (.bool true) (.bool false) (.bool false) (.int .i64 0) (.int .i64 0) (.int .u64 0) (.slice none 0 0)
      replace FR := F
      clear F hse
      go_wp2
      refine bodyPost_ret (res_scc Try.results49 (by rfl) (by rfl) (FR.out.load 1 rfl rfl Try.underlying31 (by kernel_rfl)) (FR.out.load 2 rfl rfl Try.underlying38 (by kernel_rfl))) rfl ?_
      rw [HE.out]
      exact ⟨rfl, FR.out.out⟩
    · rw [hb7] at B7
      replace B7 := Lib.hid B7
      have hn7 : ¬ (hasBit old 0 ∨ hasBit old 1 ∨ hasBit old 2) := by simpa using hb7
      replace HO := HO.trans (if_neg (fun h => by rcases h with h | h; exact hx0 h; exact hn7 h))
      clear hx0 hb7
      by_cases h0 : o0 = old
      rotate_left
      · have t0 : (o0 != old) = true := by simp [h0]
        have HE := Lib.hid (HO.trans (if_pos h0))
        clear HO h0 hn7
        go_enter Try.func49, Try.ntmps49
        have ac0 := row10 (b := q) (FR.out.at 0 rfl rfl)
        have af03 : v3.frozen? ⟨q, 3, none⟩ = false := FR.out.frozen 0 3 rfl rfl
        go_wp2_with fail
        refine (MY.out _).mono ?_
        rintro e wz ⟨rfl, hw⟩
        obtain rfl := hw.symm
        go_wp2_with fail
        refine (B7.out _).mono ?_
        rintro e wz ⟨rfl, hw⟩
        obtain rfl := hw.symm
        clear ac0 af03
        have ac0 := row10 (b := q) (FR.out.at 0 rfl rfl)
        have af03 : v3.frozen? ⟨q, 3, none⟩ = false := FR.out.frozen 0 3 rfl rfl
        obtain ⟨w4p, hw4p⟩ : ∃ W, (v3.setCell ⟨q, 3, none⟩ (.int .i64 o0)) = W := ⟨_, rfl⟩
        replace FR := Lib.hid (((FR.out.set 0 3 rfl rfl (.int .i64 o0))).eqw hw4p)
        have bc0 := row10 (b := q) (FR.out.at 0 rfl rfl)
        go_wp2
        clear ac0 af03 bc0
        have HF0 := Lib.hid FR.out.drew
        obtain ⟨w5r, hw5r⟩ : ∃ W, w4p.drew.setCells (q + 1) 0 [.int .i64 op, .int .i64 stage, .int .i64 1, .int .i64 o0, .int .i64 since, .int .i64 left, .bool awoke, .bool starve, .int .i64 need, .bool front] = W := ⟨_, rfl⟩
        have HF1 := Lib.hid ((HF0.out.all 1 rfl rfl (by rfl)).eqw hw5r)
        have hh1 := Lib.hid hw5r
        clear hw5r
        obtain ⟨w6r, hw6r⟩ : ∃ W, w5r.setCells (q + 2) 0 [.bool false, .bool false, .bool false, .int .i64 0, .int .i64 0, .int .u64 0, .slice none 0 0] = W := ⟨_, rfl⟩
        have HF2 := Lib.hid ((HF1.out.all 2 rfl rfl (by rfl)).eqw hw6r)
        have hh2 := Lib.hid hw6r
        clear hw6r
        refine wp_region_noPanic ?_
        refine wp_region_held_drew (S := (fun wv => Hid (wv.heap[q]? = some (.cells #[.int .i64 op, .int .i64 stage, .int .i64 1, .int .i64 o0, .int .i64 since, .int .i64 left, .bool awoke, .bool starve, .int .i64 need, .bool front] 31)))) (by kernel_rfl) (Lib.hid (HF0.out.blk 0 _ rfl)) (fun hS => ?_)
        refine wpAnyH_take (i := 0) (oi := ⟨some 27, .move (.tmp 0), 2, "unlock.go:38", #[], none⟩) (v := ?_) rfl (by kernel_rfl) (by kernel_rfl) (by kernel_rfl) (fun _ _ _ h => h) (Or.inl ⟨by rfl, ?_⟩) hS ?_
        rotate_left
        · intro wv _; go_simp; try with_reducible rfl
        try simp only [Act.put, List.setIfInBounds_toArray, List.set_cons_zero, List.set_cons_succ]
        refine wpAnyH_take (i := 1) (oi := ⟨some 28, .load 31 (.tmp 3), 31, "unlock.go:38", #[⟨3, .gcOnly .lateStores⟩], none⟩) (v := .agg (([.int .i64 op, .int .i64 stage, .int .i64 1, .int .i64 o0, .int .i64 since, .int .i64 left, .bool awoke, .bool starve, .int .i64 need, .bool front] : List Value)).toArray) rfl (by kernel_rfl) (by kernel_rfl) (by kernel_rfl) (fun _ _ _ h => h) (yieldsIf_load_mid (by rfl) _ _ (by rfl) (q) (0) (by rfl) _ _ (fun wv hS => blk_rngl hS.out) Try.underlying31 (by rfl) (by kernel_rfl)) hS ?_
        try simp only [Act.put, List.setIfInBounds_toArray, List.set_cons_zero, List.set_cons_succ]
        refine wpAnyH_take (i := 2) (oi := ⟨some 29, .build 38 #[], 38, "unlock.go:38", #[⟨4, .gcOnly .lateStores⟩], none⟩) (v := ?_) rfl (by kernel_rfl) (by kernel_rfl) (by kernel_rfl) (fun _ _ _ h => h) (Or.inl ⟨by rfl, ?_⟩) hS ?_
        rotate_left
        · intro wv _; go_simp; try with_reducible rfl
        try simp only [Act.put, List.setIfInBounds_toArray, List.set_cons_zero, List.set_cons_succ]
        refine wpAnyH_take (i := 3) (oi := ⟨some 4, .assign (.tmp 27), 2, "unlock.go:38", #[⟨0, .data⟩, ⟨0, .phase⟩, ⟨1, .textOnly .lateStores⟩, ⟨2, .textOnly .lateStores⟩], none⟩) (v := ?_) rfl (by kernel_rfl) (by kernel_rfl) (by kernel_rfl) (fun _ _ _ h => h) (Or.inl ⟨by rfl, ?_⟩) hS ?_
        rotate_left
        · intro wv _; go_simp; try with_reducible rfl
        try simp only [Act.put, List.setIfInBounds_toArray, List.set_cons_zero, List.set_cons_succ]
        refine wpAnyH_ready (rs := [4]) (by kernel_rfl) (by simp) (AllReadyH.cons (o := ⟨none, .store 31 (.tmp 5) (.tmp 28), 0, "unlock.go:38", #[⟨1, .data⟩, ⟨3, .chain⟩, ⟨0, .phase⟩, ⟨1, .phase⟩, ⟨2, .textOnly .lateStores⟩, ⟨3, .phase⟩], none⟩) rfl (fun K hK => ?_) AllReadyH.nil)
        refine op_storeS (by rfl) rfl rfl rfl (there_blk (HF0.out.blk 1 _ rfl) rfl) (by kernel_rfl) (by simp [Value.oneCell']) hh1.out ?_
        replace hS := Lib.hid (HF1.out.blk 0 _ rfl)
        refine Shut.out hK _ _ hS (fun _ => ?_)
        clear hK K
        try simp only [Act.put, List.setIfInBounds_toArray, List.set_cons_zero, List.set_cons_succ]
        refine wpAnyH_ready (rs := [5]) (by kernel_rfl) (by simp) (AllReadyH.cons (o := ⟨none, .store 38 (.tmp 6) (.tmp 29), 0, "unlock.go:38", #[⟨2, .data⟩, ⟨4, .chain⟩, ⟨0, .phase⟩, ⟨1, .phase⟩, ⟨2, .phase⟩, ⟨3, .phase⟩, ⟨4, .phase⟩], none⟩) rfl (fun K hK => ?_) AllReadyH.nil)
        refine op_storeS (by rfl) rfl rfl rfl (there_blk (HF1.out.blk 2 _ rfl) rfl) (by kernel_rfl) (by simp [Value.oneCell']) hh2.out ?_
        replace hS := Lib.hid (HF2.out.blk 0 _ rfl)
        refine Shut.out hK _ _ hS (fun _ => ?_)
        clear hK K
        try simp only [Act.put, List.setIfInBounds_toArray, List.set_cons_zero, List.set_cons_succ]
        refine wpAnyH_done (by kernel_rfl) ?_ _
        refine NoPanic.normal ?_
        go_wp2
        refine bodyPost_ret (res_scc Try.results49 (by rfl) (by rfl) (HF2.out.load 1 rfl rfl Try.underlying31 (by kernel_rfl)) (HF2.out.load 2 rfl rfl Try.underlying38 (by kernel_rfl))) rfl ?_
        replace FR := HF2
        rw [HE.out]
        exact ⟨rfl, FR.out.out⟩
      · have t0 : (o0 != old) = false := by simp [h0]
        have HE := Lib.hid (show unlockM o0 ⟨op, stage, 1, old, since, left, awoke, starve, need, front⟩ = (bits .or .i64 (IntKind.i64.wrap (old - 8)) 2, ⟨op, stage, 3, old, since, left, awoke, starve, need, front⟩, noA) from (HO.trans (if_neg (fun h => h h0))).trans (by
          rw [or_2, if_neg (fun h => hn7 (Or.inr (Or.inl (by rw [bit_wrap1, hasBit1] at h; rw [hasBit1]; omega)))), wrap_add, h0]))
        clear HO h0 hn7
        go_enter Try.func49, Try.ntmps49
        have ac0 := row10 (b := q) (FR.out.at 0 rfl rfl)
        go_wp2_with fail
        refine (MY.out _).mono ?_
        rintro e wz ⟨rfl, hw⟩
        obtain rfl := hw.symm
        go_wp2_with fail
        refine (B7.out _).mono ?_
        rintro e wz ⟨rfl, hw⟩
        obtain rfl := hw.symm
        clear ac0
        have ac0 := row10 (b := q) (FR.out.at 0 rfl rfl)
        have af02 : v3.frozen? ⟨q, 2, none⟩ = false := FR.out.frozen 0 2 rfl rfl
        obtain ⟨w4p, hw4p⟩ : ∃ W, (v3.setCell ⟨q, 2, none⟩ (.int .i64 3)) = W := ⟨_, rfl⟩
        replace FR := Lib.hid (((FR.out.set 0 2 rfl rfl (.int .i64 3))).eqw hw4p)
        have bc0 := row10 (b := q) (FR.out.at 0 rfl rfl)
        go_wp2
        clear ac0 af02 bc0
        have HF0 := Lib.hid FR.out.drew
        obtain ⟨w5r, hw5r⟩ : ∃ W, w4p.drew.setCells (q + 1) 0 [.int .i64 op, .int .i64 stage, .int .i64 3, .int .i64 old, .int .i64 since, .int .i64 left, .bool awoke, .bool starve, .int .i64 need, .bool front] = W := ⟨_, rfl⟩
        have HF1 := Lib.hid ((HF0.out.all 1 rfl rfl (by rfl)).eqw hw5r)
        have hh1 := Lib.hid hw5r
        clear hw5r
        obtain ⟨w6r, hw6r⟩ : ∃ W, w5r.setCells (q + 2) 0 [.bool false, .bool false, .bool false, .int .i64 0, .int .i64 0, .int .u64 0, .slice none 0 0] = W := ⟨_, rfl⟩
        have HF2 := Lib.hid ((HF1.out.all 2 rfl rfl (by rfl)).eqw hw6r)
        have hh2 := Lib.hid hw6r
        clear hw6r
        refine wp_region_noPanic ?_
        refine wp_region_held_drew (S := (fun wv => Hid (wv.heap[q]? = some (.cells #[.int .i64 op, .int .i64 stage, .int .i64 3, .int .i64 old, .int .i64 since, .int .i64 left, .bool awoke, .bool starve, .int .i64 need, .bool front] 31)))) (by kernel_rfl) (Lib.hid (HF0.out.blk 0 _ rfl)) (fun hS => ?_)
        refine wpAnyH_take (i := 0) (oi := ⟨some 31, .fieldAddr 31 (.tmp 3) 3, 0, "unlock.go:41", #[], none⟩) (v := ?_) rfl (by kernel_rfl) (by kernel_rfl) (by kernel_rfl) (fun _ _ _ h => h) (Or.inl ⟨by rfl, ?_⟩) hS ?_
        rotate_left
        · intro wv _; go_simp; try with_reducible rfl
        try simp only [Act.put, List.setIfInBounds_toArray, List.set_cons_zero, List.set_cons_succ]
        refine wpAnyH_take (i := 1) (oi := ⟨some 32, .load 2 (.tmp 31), 2, "unlock.go:41", #[⟨0, .data⟩], none⟩) (v := ?_) rfl (by kernel_rfl) (by kernel_rfl) (by kernel_rfl) (fun _ _ _ h => h) (Or.inl ⟨by rfl, ?_⟩) hS ?_
        rotate_left
        · intro wv hS; have hrun := (show wv.cell? ⟨q, 3, none⟩ = some (.int .i64 old) from (blk_cell hS.out 3).trans rfl); go_simp; try with_reducible rfl
        try simp only [Act.put, List.setIfInBounds_toArray, List.set_cons_zero, List.set_cons_succ]
        refine wpAnyH_take (i := 2) (oi := ⟨some 33, .binOp .sub 2 (.tmp 32) (.const (Value.int IntKind.i64 8)) 2, 2, "unlock.go:41", #[⟨1, .data⟩], none⟩) (v := ?_) rfl (by kernel_rfl) (by kernel_rfl) (by kernel_rfl) (fun _ _ _ h => h) (Or.inl ⟨by rfl, ?_⟩) hS ?_
        rotate_left
        · intro wv _; go_simp; try with_reducible rfl
        try simp only [Act.put, List.setIfInBounds_toArray, List.set_cons_zero, List.set_cons_succ]
        refine wpAnyH_take (i := 3) (oi := ⟨some 34, .binOp .or 2 (.tmp 33) (.const (Value.int IntKind.i64 2)) 2, 2, "unlock.go:41", #[⟨2, .data⟩], none⟩) (v := ?_) rfl (by kernel_rfl) (by kernel_rfl) (by kernel_rfl) (fun _ _ _ h => h) (Or.inl ⟨by rfl, ?_⟩) hS ?_
        rotate_left
        · intro wv _; go_simp; try with_reducible rfl
        try simp only [Act.put, List.setIfInBounds_toArray, List.set_cons_zero, List.set_cons_succ]
        refine wpAnyH_take (i := 4) (oi := ⟨some 35, .load 31 (.tmp 3), 31, "unlock.go:41", #[⟨6, .gcOnly .lateStores⟩], none⟩) (v := .agg (([.int .i64 op, .int .i64 stage, .int .i64 3, .int .i64 old, .int .i64 since, .int .i64 left, .bool awoke, .bool starve, .int .i64 need, .bool front] : List Value)).toArray) rfl (by kernel_rfl) (by kernel_rfl) (by kernel_rfl) (fun _ _ _ h => h) (yieldsIf_load_mid (by rfl) _ _ (by rfl) (q) (0) (by rfl) _ _ (fun wv hS => blk_rngl hS.out) Try.underlying31 (by rfl) (by kernel_rfl)) hS ?_
        try simp only [Act.put, List.setIfInBounds_toArray, List.set_cons_zero, List.set_cons_succ]
        refine wpAnyH_take (i := 5) (oi := ⟨some 36, .build 38 #[], 38, "unlock.go:41", #[⟨7, .gcOnly .lateStores⟩], none⟩) (v := ?_) rfl (by kernel_rfl) (by kernel_rfl) (by kernel_rfl) (fun _ _ _ h => h) (Or.inl ⟨by rfl, ?_⟩) hS ?_
        rotate_left
        · intro wv _; go_simp; try with_reducible rfl
        try simp only [Act.put, List.setIfInBounds_toArray, List.set_cons_zero, List.set_cons_succ]
        refine wpAnyH_take (i := 6) (oi := ⟨some 4, .assign (.tmp 34), 2, "unlock.go:41", #[⟨3, .data⟩, ⟨0, .phase⟩, ⟨1, .phase⟩, ⟨2, .phase⟩, ⟨3, .phase⟩, ⟨4, .textOnly .lateStores⟩, ⟨5, .textOnly .lateStores⟩], none⟩) (v := ?_) rfl (by kernel_rfl) (by kernel_rfl) (by kernel_rfl) (fun _ _ _ h => h) (Or.inl ⟨by rfl, ?_⟩) hS ?_
        rotate_left
        · intro wv _; go_simp; try with_reducible rfl
        try simp only [Act.put, List.setIfInBounds_toArray, List.set_cons_zero, List.set_cons_succ]
        refine wpAnyH_ready (rs := [7]) (by kernel_rfl) (by simp) (AllReadyH.cons (o := ⟨none, .store 31 (.tmp 5) (.tmp 35), 0, "unlock.go:41", #[⟨4, .data⟩, ⟨6, .chain⟩, ⟨0, .phase⟩, ⟨1, .phase⟩, ⟨2, .phase⟩, ⟨3, .phase⟩, ⟨4, .phase⟩, ⟨5, .textOnly .lateStores⟩, ⟨6, .phase⟩], none⟩) rfl (fun K hK => ?_) AllReadyH.nil)
        refine op_storeS (by rfl) rfl rfl rfl (there_blk (HF0.out.blk 1 _ rfl) rfl) (by kernel_rfl) (by simp [Value.oneCell']) hh1.out ?_
        replace hS := Lib.hid (HF1.out.blk 0 _ rfl)
        refine Shut.out hK _ _ hS (fun _ => ?_)
        clear hK K
        try simp only [Act.put, List.setIfInBounds_toArray, List.set_cons_zero, List.set_cons_succ]
        refine wpAnyH_ready (rs := [8]) (by kernel_rfl) (by simp) (AllReadyH.cons (o := ⟨none, .store 38 (.tmp 6) (.tmp 36), 0, "unlock.go:41", #[⟨5, .data⟩, ⟨7, .chain⟩, ⟨0, .phase⟩, ⟨1, .phase⟩, ⟨2, .phase⟩, ⟨3, .phase⟩, ⟨4, .phase⟩, ⟨5, .phase⟩, ⟨6, .phase⟩, ⟨7, .phase⟩], none⟩) rfl (fun K hK => ?_) AllReadyH.nil)
        refine op_storeS (by rfl) rfl rfl rfl (there_blk (HF1.out.blk 2 _ rfl) rfl) (by kernel_rfl) (by simp [Value.oneCell']) hh2.out ?_
        replace hS := Lib.hid (HF2.out.blk 0 _ rfl)
        refine Shut.out hK _ _ hS (fun _ => ?_)
        clear hK K
        try simp only [Act.put, List.setIfInBounds_toArray, List.set_cons_zero, List.set_cons_succ]
        refine wpAnyH_done (by kernel_rfl) ?_ _
        refine NoPanic.normal ?_
        go_wp2
        refine bodyPost_ret (res_scc Try.results49 (by rfl) (by rfl) (HF2.out.load 1 rfl rfl Try.underlying31 (by kernel_rfl)) (HF2.out.load 2 rfl rfl Try.underlying38 (by kernel_rfl))) rfl ?_
        replace FR := HF2
        rw [HE.out]
        exact ⟨rfl, FR.out.out⟩
theorem infoCl : (Try.prog.info? 62).map (fun i => (i.zero, i.size, i.bytes)) = some (some (.agg #[.int .i64 0, .int .i64 0]), 2, 16) := by kernel_rfl
/-- a row of the call's own, with the same cells; of none, none. -/
def NewRow (T : TypeId) (w : World) (A : Option Addr) (n : Nat) (cs : List Value) (e : Ending) (w' : World) : Prop :=
  ∃ B d, e = .returned (.slice B n d) ∧ w'.ownsRow w.heap.size T 2 (.slice B n d) n cs ∧ Below w.heap.size w w' ∧ (A = none → B = none ∧ d = 0)
set_option maxHeartbeats 1000000 in
theorem cloneW_any (A : Option Addr) (n c : Nat) (ws : List Wt) (w : World) (hx : Wts w A n c ws) (hn : n ≤ 16384) :
    Calls Try.prog 40 #[.slice A n c] w (NewRow 67 w A n (wtC ws)) := by
  cases A with
  | none =>
    have h0 : n = 0 := by
      rcases Nat.eq_zero_or_pos n with h0 | h0
      · exact h0
      · obtain ⟨b, off, e, _⟩ := Es.mem hx (by omega); cases e
    subst h0
    obtain rfl : ws = [] := List.eq_nil_of_length_eq_zero hx.len
    have hq : ∀ W : World, (binOp .eql 24 (.slice none 0 c) (.slice none 0 0)).run Try.prog W = .ok (.bool true) W := fun _ => by kernel_rfl
    go_enter Try.func40, Try.ntmps40
    go_wp2
    go_ret
    exact ⟨none, 0, rfl, World.ownsRow_nil _ _ _ _, Below.refl _ _, fun _ => ⟨rfl, rfl⟩⟩
  | some ad =>
    obtain ⟨i5, hi5, hz0, hz1, hz2⟩ := info_of infoWt
    have hown0 : (w.alloc (.cells #[] 67)).ownsRow w.heap.size 67 2 (.slice (some ⟨w.heap.size, 0, none⟩) 0 0) 0 [] := World.ownsRow_lit w #[] 0 (Nat.le_refl _) (by unfold maxLen; omega) (by simp)
    obtain ⟨v, w3, hap, hown, hgr, hvk⟩ := eapp_own (P := Try.prog) (w.alloc (.cells #[] 67)) w.heap.size 24 24 67 i5 _ 2 16 Try.underlying24 hi5 hz0 hz1 hz2 rfl (by decide) _ 0 _ hown0 (some ad) n c _ (Es.alloc hx _) (by unfold maxLen; omega) (by omega) (by simp)
    rw [Nat.zero_add, List.nil_append] at hown
    have hb3 : Below w.heap.size w w3 := ((Below.refl _ _).alloc (Nat.le_refl _) _).grown hgr (by simp) (by simp [Value.ownBlock])
    obtain ⟨B, d, rfl⟩ := (show ∃ B d, v = .slice B n d from by obtain ⟨B, d, h, _⟩ := Es.of_own hown (wtC_one _); exact ⟨B, d, h⟩)
    have HO := Lib.hid hown; have HB3 := Lib.hid hb3
    have hq : ∀ W : World, (binOp .eql 24 (.slice (some ad) n c) (.slice none 0 0)).run Try.prog W = .ok (.bool false) W := fun _ => by kernel_rfl
    clear hown hgr hb3 hown0 hx hi5 hz0 hz1 hz2 hvk
    go_enter Try.func40, Try.ntmps40
    go_wp2_with (at_builtin; refine eapp_run (by rfl) rfl rfl rfl hap ?_)
    go_ret
    exact ⟨_, _, rfl, HO.out, HB3.out, fun h => nomatch h⟩
set_option maxHeartbeats 1000000 in
theorem cloneC_any (A : Option Addr) (n c : Nat) (ws : List Cl) (w : World) (hx : Cls w A n c ws) (hn : n ≤ 16384) :
    Calls Try.prog 41 #[.slice A n c] w (NewRow 62 w A n (clC ws)) := by
  cases A with
  | none =>
    have h0 : n = 0 := by
      rcases Nat.eq_zero_or_pos n with h0 | h0
      · exact h0
      · obtain ⟨b, off, e, _⟩ := Es.mem hx (by omega); cases e
    subst h0
    obtain rfl : ws = [] := List.eq_nil_of_length_eq_zero hx.len
    have hq : ∀ W : World, (binOp .eql 27 (.slice none 0 c) (.slice none 0 0)).run Try.prog W = .ok (.bool true) W := fun _ => by kernel_rfl
    go_enter Try.func41, Try.ntmps41
    go_wp2
    go_ret
    exact ⟨none, 0, rfl, World.ownsRow_nil _ _ _ _, Below.refl _ _, fun _ => ⟨rfl, rfl⟩⟩
  | some ad =>
    obtain ⟨i5, hi5, hz0, hz1, hz2⟩ := info_of infoCl
    have hown0 : (w.alloc (.cells #[] 62)).ownsRow w.heap.size 62 2 (.slice (some ⟨w.heap.size, 0, none⟩) 0 0) 0 [] := World.ownsRow_lit w #[] 0 (Nat.le_refl _) (by unfold maxLen; omega) (by simp)
    obtain ⟨v, w3, hap, hown, hgr, hvk⟩ := eapp_own (P := Try.prog) (w.alloc (.cells #[] 62)) w.heap.size 27 27 62 i5 _ 2 16 Try.underlying27 hi5 hz0 hz1 hz2 rfl (by decide) _ 0 _ hown0 (some ad) n c _ (Es.alloc hx _) (by unfold maxLen; omega) (by omega) (by simp)
    rw [Nat.zero_add, List.nil_append] at hown
    have hb3 : Below w.heap.size w w3 := ((Below.refl _ _).alloc (Nat.le_refl _) _).grown hgr (by simp) (by simp [Value.ownBlock])
    obtain ⟨B, d, rfl⟩ := (show ∃ B d, v = .slice B n d from by obtain ⟨B, d, h, _⟩ := Es.of_own hown (clC_one _); exact ⟨B, d, h⟩)
    have HO := Lib.hid hown; have HB3 := Lib.hid hb3
    have hq : ∀ W : World, (binOp .eql 27 (.slice (some ad) n c) (.slice none 0 0)).run Try.prog W = .ok (.bool false) W := fun _ => by kernel_rfl
    clear hown hgr hb3 hown0 hx hi5 hz0 hz1 hz2 hvk
    go_enter Try.func41, Try.ntmps41
    go_wp2_with (at_builtin; refine eapp_run (by rfl) rfl rfl rfl hap ?_)
    go_ret
    exact ⟨_, _, rfl, HO.out, HB3.out, fun h => nomatch h⟩
/-- an object whose lists are the call's own. -/
def CopO (w : World) (kd o0 o1 o2 o3 o4 o5 wa to : Int) (A : Option Addr) (n : Nat) (B : Option Addr) (m : Nat) (nl : List Wt) (ll : List Cl) (e : Ending) (w' : World) : Prop :=
  ∃ A2 c2 B2 d2, e = .returned (obV kd o0 o1 o2 o3 o4 o5 wa to A2 n c2 B2 m d2) ∧ w'.ownsRow w.heap.size 67 2 (.slice A2 n c2) n (wtC nl) ∧ w'.ownsRow w.heap.size 62 2 (.slice B2 m d2) m (clC ll) ∧ Below w.heap.size w w' ∧ (A = none → A2 = none ∧ c2 = 0) ∧ (B = none → B2 = none ∧ d2 = 0)
theorem own_setCells {base b k n : Nat} {T T' : TypeId} {v : Value} {xs : List Value} (hT : T ≠ T') : ∀ (vs : List Value) (o : Nat) {w : World} {ys : List Value}, w.ownsRow base T k v n xs → w.heap[b]? = some (.cells ys.toArray T') → (w.setCells b o vs).ownsRow base T k v n xs
  | [], _, _, _, h, _ => h
  | u :: vs, o, w, ys, h, hs => own_setCells hT vs (o + 1) (own_set h hs hT) (blk_set (j := o) hs u)
theorem own_whole {base b k n o : Nat} {T T' : TypeId} {v : Value} {xs vs ys : List Value} {w w2 : World} (hT : T ≠ T') (h : w.ownsRow base T k v n xs) (hs : w.heap[b]? = some (.cells ys.toArray T')) (e : w.setCells b o vs = w2) : w2.ownsRow base T k v n xs := e ▸ own_setCells hT vs o h hs
set_option maxRecDepth 100000 in
set_option maxHeartbeats 16000000 in
theorem muCopied_any (kd o0 o1 o2 o3 o4 o5 wa to : Int) (A : Option Addr) (n c : Nat) (B : Option Addr) (m d : Nat) (nl : List Wt) (ll : List Cl) (w : World) (hx : Wts w A n c nl) (hy : Cls w B m d ll) (hn : n ≤ 16384) (hm : m ≤ 16384) : Calls Try.prog 21 #[.agg #[.int .i64 kd, .int .i64 o0, .int .i64 o1, .int .i64 o2, .int .i64 o3, .int .i64 o4, .int .i64 o5, .int .u32 wa, .int .u32 to, .slice A n c, .slice B m d]] w (CopO w kd o0 o1 o2 o3 o4 o5 wa to A n B m nl ll) := by
  have RX := Lib.hid hx; have RY := Lib.hid hy
  have CW := Lib.hid (fun (W : World) (h : Wts W A n c nl) => cloneW_any A n c nl W h hn)
  have CC := Lib.hid (fun (W : World) (h : Cls W B m d ll) => cloneC_any B m d ll W h hm)
  clear hx hy hn hm
  obtain ⟨v1, hv1, z1, v2, hv2, z2, F⟩ := boxes2 w (.cells #[.int .i64 kd, .int .i64 o0, .int .i64 o1, .int .i64 o2, .int .i64 o3, .int .i64 o4, .int .i64 o5, .int .u32 wa, .int .u32 to, .slice A n c, .slice B m d] 29) (.cells #[.int .i64 0, .int .i64 0, .int .i64 0, .int .i64 0, .int .i64 0, .int .i64 0, .int .i64 0, .int .u32 0, .int .u32 0, .slice none 0 0, .slice none 0 0] 29)
  generalize hq : w.heap.size = q at *
  have FR := Lib.hid F
  clear F
  go_enter Try.func21, Try.ntmps21
  have ac0 := row11 (b := q) (FR.out.at 0 rfl rfl)
  go_wp2_with fail
  refine (CW.out _ (FR.out.es RX.out)).mono ?_
  rintro e w3 ⟨A2, c2, rfl, hown, hb, hA⟩
  clear ac0
  have hsz := FR.out.sz
  simp only [List.length_set, List.length_cons, List.length_nil] at hsz
  replace FR := Lib.hid (FR.out.step hb)
  replace hown := own_base hown (show q ≤ _ by omega)
  have OW := Lib.hid hown
  have NW := Lib.hid hA
  clear hown hb hsz hA
  have bc0 := row11 (b := q) (FR.out.at 0 rfl rfl)
  have bf09 : w3.frozen? ⟨q, 9, none⟩ = false := FR.out.frozen 0 9 rfl rfl
  obtain ⟨w3p, hw3p⟩ : ∃ W, (w3.setCell ⟨q, 9, none⟩ (.slice A2 n c2)) = W := ⟨_, rfl⟩
  replace OW := Lib.hid (hw3p ▸ own_set (o := 9) (u := .slice A2 n c2) OW.out (FR.out.blk 0 _ rfl) (by decide))
  replace FR := Lib.hid (((FR.out.set 0 9 rfl rfl (.slice A2 n c2))).eqw hw3p)
  have cc0 := row11 (b := q) (FR.out.at 0 rfl rfl)
  go_wp2_with fail
  refine (CC.out _ (FR.out.es RY.out)).mono ?_
  rintro e w4 ⟨B2, d2, rfl, hown, hb, hB⟩
  clear bc0 bf09 cc0
  clear hw3p
  have hsz := FR.out.sz
  simp only [List.length_set, List.length_cons, List.length_nil] at hsz
  replace FR := Lib.hid (FR.out.step hb)
  replace OW := Lib.hid (own_below OW.out hb)
  replace hown := own_base hown (show q ≤ _ by omega)
  have OC := Lib.hid hown
  have NC := Lib.hid hB
  clear hown hb hsz hB
  have dc0 := row11 (b := q) (FR.out.at 0 rfl rfl)
  have df010 : w4.frozen? ⟨q, 10, none⟩ = false := FR.out.frozen 0 10 rfl rfl
  obtain ⟨w4p, hw4p⟩ : ∃ W, (w4.setCell ⟨q, 10, none⟩ (.slice B2 m d2)) = W := ⟨_, rfl⟩
  replace OW := Lib.hid (hw4p ▸ own_set (o := 10) (u := .slice B2 m d2) OW.out (FR.out.blk 0 _ rfl) (by decide))
  replace OC := Lib.hid (hw4p ▸ own_set (o := 10) (u := .slice B2 m d2) OC.out (FR.out.blk 0 _ rfl) (by decide))
  replace FR := Lib.hid (((FR.out.set 0 10 rfl rfl (.slice B2 m d2))).eqw hw4p)
  have ec0 := row11 (b := q) (FR.out.at 0 rfl rfl)
  have ac0 := row11 (b := q) (FR.out.at 0 rfl rfl)
  obtain ⟨mw5r, w5r, hw5r, hse, F⟩ := FR.out.put11 1 rfl (b := q + 1) rfl (.int .i64 kd) (.int .i64 o0) (.int .i64 o1) (.int .i64 o2) (.int .i64 o3) (.int .i64 o4) (.int .i64 o5) (.int .u32 wa) (.int .u32 to) (.slice A2 n c2) (.slice B2 m d2)
  replace OW := Lib.hid (own_whole (by decide) OW.out (FR.out.blk 1 _ rfl) hse)
  replace OC := Lib.hid (own_whole (by decide) OC.out (FR.out.blk 1 _ rfl) hse)
  replace FR := F
  clear F hse
  go_wp2
  refine bodyPost_ret (res_c Try.results21 (by rfl) (FR.out.load 1 rfl rfl Try.underlying29 (by kernel_rfl))) rfl ?_
  exact ⟨A2, c2, B2, d2, rfl, (by rw [hq]; exact OW.out), (by rw [hq]; exact OC.out), FR.out.out, NW.out, NC.out⟩
end Go.Proofs.Ytpkegfochfkkcaa
