/- Layer 16: what the document's own WLock and WUnlock answer; no condition. -/
import Derived.Test.YtpkegfochfkkcaaRwB
import Derived.Test.YtpkegfochfkkcaaMutE
import Derived.Test.YtpkegfochfkkcaaInv
import Derived.Test.YtpkegfochfkkcaaRo
namespace Go.Proofs.Ytpkegfochfkkcaa
set_option linter.unusedVariables false
set_option linter.unusedSimpArgs false
open Go.RowKit
theorem load_blk {w : World} {b : Nat} {cs : List Value} {T : TypeId} {fs : Array Field} (h : w.heap[b]? = some (.cells cs.toArray T)) (hu : Try.prog.underlying T = some (.struct fs)) (hk : (Try.prog.info? T).map (·.size) = some cs.toArray.size) : (loadVar T ⟨b, 0, none⟩).run Try.prog w = .ok (.agg cs.toArray) w :=
  run_loadVar_row (P := Try.prog) w b T T cs.toArray (0, 0) _ h hu (by rfl) hk
set_option maxRecDepth 100000 in
set_option maxHeartbeats 16000000 in
theorem wunlock16_any (kd o0 o1 o2 o3 o4 o5 wa to : Int) (A : Option Addr) (n c : Nat) (B : Option Addr) (m d : Nat) (f : MFr) (w : World) : Calls Try.prog 19 #[obV kd o0 o1 o2 o3 o4 o5 wa to A n c B m d, frV f] w (StepR w kd o1 o2 o3 wa to A n c B m d (wunlockW o0 o4 o5 f)) := by
  obtain ⟨op, stage, phase, old, since, left, awoke, starve, need, front⟩ := f
  unfold obV frV frC
  simp only
  obtain ⟨v1, hv1, z1, v2, hv2, z2, v3, hv3, z3, v4, hv4, z4, v5, hv5, z5, F⟩ := boxes5 w (.cells #[.int .i64 kd, .int .i64 o0, .int .i64 o1, .int .i64 o2, .int .i64 o3, .int .i64 o4, .int .i64 o5, .int .u32 wa, .int .u32 to, .slice A n c, .slice B m d] 29) (.cells #[.int .i64 op, .int .i64 stage, .int .i64 phase, .int .i64 old, .int .i64 since, .int .i64 left, .bool awoke, .bool starve, .int .i64 need, .bool front] 31) (.cells #[.int .i64 0, .int .i64 0, .int .i64 0, .int .i64 0, .int .i64 0, .int .i64 0, .int .i64 0, .int .u32 0, .int .u32 0, .slice none 0 0, .slice none 0 0] 29) (.cells #[.int .i64 0, .int .i64 0, .int .i64 0, .int .i64 0, .int .i64 0, .int .i64 0, .bool false, .bool false, .int .i64 0, .bool false] 31) (.cells #[.bool false, .bool false, .bool false, .int .i64 0, .int .i64 0, .int .u64 0, .slice none 0 0] 38)
  generalize hq : w.heap.size = q at *
  have FR := Lib.hid F
  clear F
  by_cases s0 : stage = 0
  · subst s0
    by_cases h0 : 0 ≤ o4
    · have c0 : decide (0 ≤ o4) = true := decide_eq_true h0
      have HE := Lib.hid (show wunlockW o0 o4 o5 ⟨op, 0, phase, old, since, left, awoke, starve, need, front⟩ = ((o0, o4, o5), noF, faultA) from by
        unfold wunlockW
        exact if_pos ⟨rfl, h0⟩)
      clear h0
      go_enter Try.func19, Try.ntmps19
      have ac0 := row11 (b := q) (FR.out.at 0 rfl rfl)
      have ac1 := row10 (b := q + 1) (FR.out.at 1 rfl rfl)
      go_wp2_with fail
      refine (fault16_any _ _ _ _ _ _ _ _ _ _ _ _ _ _ _ _).mono ?_
      rintro e w7 ⟨rfl, hb⟩
      clear ac0 ac1
      replace FR := Lib.hid (FR.out.step hb)
      clear hb
      obtain ⟨mw6r, w6r, hw6r, hse, F⟩ := FR.out.put11 2 rfl (b := q + 2) rfl (.int .i64 kd) (.int .i64 o0) (.int .i64 o1) (.int .i64 o2) (.int .i64 o3) (.int .i64 o4) (.int .i64 o5) (.int .u32 wa) (.int .u32 to) (.slice A n c) (.slice B m d)
      replace FR := F
      clear F hse
      obtain ⟨mw7r, w7r, hw7r, hse, F⟩ := FR.out.put10 3 rfl (b := q + 3) rfl (.int .i64 0) (.int .i64 0) (.int .i64 0) (.int .i64 0) (.int .i64 0) (.int .i64 0) (.bool false) (.bool false) (.int .i64 0) (.bool false)
      replace FR := F
      clear F hse
      obtain ⟨mw8r, w8r, hw8r, hse, F⟩ := FR.out.put7 4 rfl (b := q + 4) rfl (.bool false) (.bool false) (.bool false) (.int .i64 0) (.int .i64 1) (.int .u64 0) (.slice none 0 0)
      replace FR := F
      clear F hse
      go_wp2
      refine bodyPost_ret (res_ccc Try.results19 (by rfl) (by rfl) (by rfl) (FR.out.load 2 rfl rfl Try.underlying29 (by kernel_rfl)) (FR.out.load 3 rfl rfl Try.underlying31 (by kernel_rfl)) (FR.out.load 4 rfl rfl Try.underlying38 (by kernel_rfl))) rfl ?_
      rw [HE.out]
      exact ⟨rfl, FR.out.out⟩
    · have c0 : decide (0 ≤ o4) = false := decide_eq_false h0
      obtain ⟨x, hx⟩ : ∃ x, IntKind.i64.wrap (o4 + 1048576) = x := ⟨_, rfl⟩
      have HE := Lib.hid (show wunlockW o0 o4 o5 ⟨op, 0, phase, old, since, left, awoke, starve, need, front⟩ = ((o0, x, o5), ⟨op, 1, phase, old, since, x, awoke, starve, need, front⟩, noA) from by
        unfold wunlockW
        rw [if_neg (fun h => h0 h.2), if_pos rfl, hx])
      clear h0
      go_enter Try.func19, Try.ntmps19
      have ac0 := row11 (b := q) (FR.out.at 0 rfl rfl)
      have af05 : v5.frozen? ⟨q, 5, none⟩ = false := FR.out.frozen 0 5 rfl rfl
      have ac1 := row10 (b := q + 1) (FR.out.at 1 rfl rfl)
      obtain ⟨w6p, hw6p⟩ : ∃ W, (v5.setCell ⟨q, 5, none⟩ (.int .i64 x)) = W := ⟨_, rfl⟩
      replace FR := Lib.hid (((FR.out.set 0 5 rfl rfl (.int .i64 x))).eqw hw6p)
      have bc0 := row11 (b := q) (FR.out.at 0 rfl rfl)
      have bc1 := row10 (b := q + 1) (FR.out.at 1 rfl rfl)
      have bf11 : w6p.frozen? ⟨q + 1, 1, none⟩ = false := FR.out.frozen 1 1 rfl rfl
      have bf15 : w6p.frozen? ⟨q + 1, 5, none⟩ = false := FR.out.frozen 1 5 rfl rfl
      obtain ⟨w7p, hw7p⟩ : ∃ W, ((w6p.setCell ⟨q + 1, 5, none⟩ (.int .i64 x)).setCell ⟨q + 1, 1, none⟩ (.int .i64 1)) = W := ⟨_, rfl⟩
      replace FR := Lib.hid ((((FR.out.set 1 5 rfl rfl (.int .i64 x)).set 1 1 rfl rfl (.int .i64 1))).eqw hw7p)
      have cc0 := row11 (b := q) (FR.out.at 0 rfl rfl)
      have cc1 := row10 (b := q + 1) (FR.out.at 1 rfl rfl)
      go_wp2_with fail
      refine (on16_any _ _ _ _ _ _ _ _ _ _ _ _ _ _ _ _ _ _ _ _ _ _ _ _ _ _).mono ?_
      rintro e w7 ⟨rfl, hb⟩
      clear ac0 af05 ac1 bc0 bc1 bf11 bf15 cc0 cc1
      clear hw6p hw7p
      replace FR := Lib.hid (FR.out.step hb)
      clear hb
      obtain ⟨mw8r, w8r, hw8r, hse, F⟩ := FR.out.put11 2 rfl (b := q + 2) rfl (.int .i64 kd) (.int .i64 o0) (.int .i64 o1) (.int .i64 o2) (.int .i64 o3) (.int .i64 x) (.int .i64 o5) (.int .u32 wa) (.int .u32 to) (.slice A n c) (.slice B m d)
      replace FR := F
      clear F hse
      obtain ⟨mw9r, w9r, hw9r, hse, F⟩ := FR.out.put10 3 rfl (b := q + 3) rfl (.int .i64 op) (.int .i64 1) (.int .i64 phase) (.int .i64 old) (.int .i64 since) (.int .i64 x) (.bool awoke) (.bool starve) (.int .i64 need) (.bool front)
      replace FR := F
      clear F hse
      obtain ⟨mw10r, w10r, hw10r, hse, F⟩ := FR.out.put7 4 rfl (b := q + 4) rfl (.bool false) (.bool false) (.bool false) (.int .i64 0) (.int .i64 0) (.int .u64 0) (.slice none 0 0)
      replace FR := F
      clear F hse
      go_wp2
      refine bodyPost_ret (res_ccc Try.results19 (by rfl) (by rfl) (by rfl) (FR.out.load 2 rfl rfl Try.underlying29 (by kernel_rfl)) (FR.out.load 3 rfl rfl Try.underlying31 (by kernel_rfl)) (FR.out.load 4 rfl rfl Try.underlying38 (by kernel_rfl))) rfl ?_
      rw [HE.out]
      exact ⟨rfl, FR.out.out⟩
  have n0 : (stage == 0) = false := by simp [s0]
  by_cases s1 : stage = 1
  · subst s1
    clear s0 n0
    by_cases h0 : 0 < left
    · have c0 : decide (0 < left) = true := decide_eq_true h0
      obtain ⟨x, hx⟩ : ∃ x, IntKind.i64.wrap (left - 1) = x := ⟨_, rfl⟩
      have HE := Lib.hid (show wunlockW o0 o4 o5 ⟨op, 1, phase, old, since, left, awoke, starve, need, front⟩ = ((o0, o4, o5), ⟨op, 1, phase, old, since, x, awoke, starve, need, front⟩, ⟨false, 4, false, 0⟩) from by
        unfold wunlockW
        rw [if_neg (fun h => (show ¬ ((1 : Int) = 0) by decide) h.1), if_neg (show ¬ ((1 : Int) = 0) by decide), if_pos ⟨rfl, h0⟩, hx])
      clear h0
      go_enter Try.func19, Try.ntmps19
      have ac0 := row11 (b := q) (FR.out.at 0 rfl rfl)
      have ac1 := row10 (b := q + 1) (FR.out.at 1 rfl rfl)
      have af15 : v5.frozen? ⟨q + 1, 5, none⟩ = false := FR.out.frozen 1 5 rfl rfl
      obtain ⟨w6p, hw6p⟩ : ∃ W, (v5.setCell ⟨q + 1, 5, none⟩ (.int .i64 x)) = W := ⟨_, rfl⟩
      replace FR := Lib.hid (((FR.out.set 1 5 rfl rfl (.int .i64 x))).eqw hw6p)
      have bc0 := row11 (b := q) (FR.out.at 0 rfl rfl)
      have bc1 := row10 (b := q + 1) (FR.out.at 1 rfl rfl)
      go_wp2
      clear ac0 ac1 af15 bc0 bc1
      have HF0 := Lib.hid FR.out.drew
      obtain ⟨w7r, hw7r⟩ : ∃ W, w6p.drew.setCells (q + 2) 0 [.int .i64 kd, .int .i64 o0, .int .i64 o1, .int .i64 o2, .int .i64 o3, .int .i64 o4, .int .i64 o5, .int .u32 wa, .int .u32 to, .slice A n c, .slice B m d] = W := ⟨_, rfl⟩
      have HF1 := Lib.hid ((HF0.out.all 2 rfl rfl (by rfl)).eqw hw7r)
      have hh1 := Lib.hid hw7r
      clear hw7r
      obtain ⟨w8r, hw8r⟩ : ∃ W, w7r.setCells (q + 3) 0 [.int .i64 op, .int .i64 1, .int .i64 phase, .int .i64 old, .int .i64 since, .int .i64 x, .bool awoke, .bool starve, .int .i64 need, .bool front] = W := ⟨_, rfl⟩
      have HF2 := Lib.hid ((HF1.out.all 3 rfl rfl (by rfl)).eqw hw8r)
      have hh2 := Lib.hid hw8r
      clear hw8r
      obtain ⟨w9r, hw9r⟩ : ∃ W, w8r.setCells (q + 4) 0 [.bool false, .bool false, .bool false, .int .i64 4, .int .i64 0, .int .u64 0, .slice none 0 0] = W := ⟨_, rfl⟩
      have HF3 := Lib.hid ((HF2.out.all 4 rfl rfl (by rfl)).eqw hw9r)
      have hh3 := Lib.hid hw9r
      clear hw9r
      refine wp_region_noPanic ?_
      refine wp_region_held_drew (S := (fun wv => Hid (wv.heap[q]? = some (.cells #[.int .i64 kd, .int .i64 o0, .int .i64 o1, .int .i64 o2, .int .i64 o3, .int .i64 o4, .int .i64 o5, .int .u32 wa, .int .u32 to, .slice A n c, .slice B m d] 29) ∧ wv.heap[q + 1]? = some (.cells #[.int .i64 op, .int .i64 1, .int .i64 phase, .int .i64 old, .int .i64 since, .int .i64 x, .bool awoke, .bool starve, .int .i64 need, .bool front] 31)))) (by kernel_rfl) (Lib.hid (And.intro (HF0.out.blk 0 _ rfl) (HF0.out.blk 1 _ rfl))) (fun hS => ?_)
      refine wpAnyH_take (i := 0) (oi := ⟨some 53, .load 29 (.tmp 2), 29, "ref.go:111", #[], none⟩) (v := .agg (([.int .i64 kd, .int .i64 o0, .int .i64 o1, .int .i64 o2, .int .i64 o3, .int .i64 o4, .int .i64 o5, .int .u32 wa, .int .u32 to, .slice A n c, .slice B m d] : List Value)).toArray) rfl (by kernel_rfl) (by kernel_rfl) (by kernel_rfl) (fun _ _ _ h => h) (yieldsIf_load_mid (by rfl) _ _ (by rfl) (q) (0) (by rfl) _ _ (fun wv hS => blk_rngl hS.out.1) Try.underlying29 (by rfl) (by kernel_rfl)) hS ?_
      try simp only [Act.put, List.setIfInBounds_toArray, List.set_cons_zero, List.set_cons_succ]
      refine wpAnyH_take (i := 1) (oi := ⟨some 54, .load 31 (.tmp 3), 31, "ref.go:111", #[⟨3, .gcOnly .lateStores⟩], none⟩) (v := .agg (([.int .i64 op, .int .i64 1, .int .i64 phase, .int .i64 old, .int .i64 since, .int .i64 x, .bool awoke, .bool starve, .int .i64 need, .bool front] : List Value)).toArray) rfl (by kernel_rfl) (by kernel_rfl) (by kernel_rfl) (fun _ _ _ h => h) (yieldsIf_load_mid (by rfl) _ _ (by rfl) (q + 1) (0) (by rfl) _ _ (fun wv hS => blk_rngl hS.out.2) Try.underlying31 (by rfl) (by kernel_rfl)) hS ?_
      try simp only [Act.put, List.setIfInBounds_toArray, List.set_cons_zero, List.set_cons_succ]
      refine wpAnyH_take (i := 2) (oi := ⟨some 55, .build 38 #[(3, .const (Value.int IntKind.i64 4))], 38, "ref.go:111", #[⟨4, .gcOnly .lateStores⟩], none⟩) (v := ?_) rfl (by kernel_rfl) (by kernel_rfl) (by kernel_rfl) (fun _ _ _ h => h) (Or.inl ⟨by rfl, ?_⟩) hS ?_
      rotate_left
      · intro wv _; go_simp; try with_reducible rfl
      try simp only [Act.put, List.setIfInBounds_toArray, List.set_cons_zero, List.set_cons_succ]
      refine wpAnyH_ready (rs := [3]) (by kernel_rfl) (by simp) (AllReadyH.cons (o := ⟨none, .store 29 (.tmp 4) (.tmp 53), 0, "ref.go:111", #[⟨0, .data⟩, ⟨0, .phase⟩, ⟨1, .textOnly .lateStores⟩, ⟨2, .textOnly .lateStores⟩], none⟩) rfl (fun K hK => ?_) AllReadyH.nil)
      refine op_storeS (by rfl) rfl rfl rfl (there_blk (HF0.out.blk 2 _ rfl) rfl) (by kernel_rfl) (by simp [Value.oneCell']) hh1.out ?_
      replace hS := Lib.hid (And.intro (HF1.out.blk 0 _ rfl) (HF1.out.blk 1 _ rfl))
      refine Shut.out hK _ _ hS (fun _ => ?_)
      clear hK K
      try simp only [Act.put, List.setIfInBounds_toArray, List.set_cons_zero, List.set_cons_succ]
      refine wpAnyH_ready (rs := [4]) (by kernel_rfl) (by simp) (AllReadyH.cons (o := ⟨none, .store 31 (.tmp 5) (.tmp 54), 0, "ref.go:111", #[⟨1, .data⟩, ⟨3, .chain⟩, ⟨0, .phase⟩, ⟨1, .phase⟩, ⟨2, .textOnly .lateStores⟩, ⟨3, .phase⟩], none⟩) rfl (fun K hK => ?_) AllReadyH.nil)
      refine op_storeS (by rfl) rfl rfl rfl (there_blk (HF1.out.blk 3 _ rfl) rfl) (by kernel_rfl) (by simp [Value.oneCell']) hh2.out ?_
      replace hS := Lib.hid (And.intro (HF2.out.blk 0 _ rfl) (HF2.out.blk 1 _ rfl))
      refine Shut.out hK _ _ hS (fun _ => ?_)
      clear hK K
      try simp only [Act.put, List.setIfInBounds_toArray, List.set_cons_zero, List.set_cons_succ]
      refine wpAnyH_ready (rs := [5]) (by kernel_rfl) (by simp) (AllReadyH.cons (o := ⟨none, .store 38 (.tmp 6) (.tmp 55), 0, "ref.go:111", #[⟨2, .data⟩, ⟨4, .chain⟩, ⟨0, .phase⟩, ⟨1, .phase⟩, ⟨2, .phase⟩, ⟨3, .phase⟩, ⟨4, .phase⟩], none⟩) rfl (fun K hK => ?_) AllReadyH.nil)
      refine op_storeS (by rfl) rfl rfl rfl (there_blk (HF2.out.blk 4 _ rfl) rfl) (by kernel_rfl) (by simp [Value.oneCell']) hh3.out ?_
      replace hS := Lib.hid (And.intro (HF3.out.blk 0 _ rfl) (HF3.out.blk 1 _ rfl))
      refine Shut.out hK _ _ hS (fun _ => ?_)
      clear hK K
      try simp only [Act.put, List.setIfInBounds_toArray, List.set_cons_zero, List.set_cons_succ]
      refine wpAnyH_done (by kernel_rfl) ?_ _
      refine NoPanic.normal ?_
      go_wp2
      refine bodyPost_ret (res_ccc Try.results19 (by rfl) (by rfl) (by rfl) (HF3.out.load 2 rfl rfl Try.underlying29 (by kernel_rfl)) (HF3.out.load 3 rfl rfl Try.underlying31 (by kernel_rfl)) (HF3.out.load 4 rfl rfl Try.underlying38 (by kernel_rfl))) rfl ?_
      replace FR := HF3
      rw [HE.out]
      exact ⟨rfl, FR.out.out⟩
    · have c0 : decide (0 < left) = false := decide_eq_false h0
      have HE := Lib.hid (show wunlockW o0 o4 o5 ⟨op, 1, phase, old, since, left, awoke, starve, need, front⟩ = ((o0, o4, o5), ⟨op, 2, 0, old, since, left, awoke, starve, need, front⟩, noA) from by
        unfold wunlockW
        rw [if_neg (fun h => (show ¬ ((1 : Int) = 0) by decide) h.1), if_neg (show ¬ ((1 : Int) = 0) by decide), if_neg (fun h => h0 h.2), if_pos rfl])
      clear h0
      go_enter Try.func19, Try.ntmps19
      have ac0 := row11 (b := q) (FR.out.at 0 rfl rfl)
      have ac1 := row10 (b := q + 1) (FR.out.at 1 rfl rfl)
      have af11 : v5.frozen? ⟨q + 1, 1, none⟩ = false := FR.out.frozen 1 1 rfl rfl
      have af12 : v5.frozen? ⟨q + 1, 2, none⟩ = false := FR.out.frozen 1 2 rfl rfl
      obtain ⟨w6p, hw6p⟩ : ∃ W, ((v5.setCell ⟨q + 1, 1, none⟩ (.int .i64 2)).setCell ⟨q + 1, 2, none⟩ (.int .i64 0)) = W := ⟨_, rfl⟩
      replace FR := Lib.hid ((((FR.out.set 1 1 rfl rfl (.int .i64 2)).set 1 2 rfl rfl (.int .i64 0))).eqw hw6p)
      have bc0 := row11 (b := q) (FR.out.at 0 rfl rfl)
      have bc1 := row10 (b := q + 1) (FR.out.at 1 rfl rfl)
      go_wp2_with fail
      refine (on16_any _ _ _ _ _ _ _ _ _ _ _ _ _ _ _ _ _ _ _ _ _ _ _ _ _ _).mono ?_
      rintro e w7 ⟨rfl, hb⟩
      clear ac0 ac1 af11 af12 bc0 bc1
      clear hw6p
      replace FR := Lib.hid (FR.out.step hb)
      clear hb
      obtain ⟨mw7r, w7r, hw7r, hse, F⟩ := FR.out.put11 2 rfl (b := q + 2) rfl (.int .i64 kd) (.int .i64 o0) (.int .i64 o1) (.int .i64 o2) (.int .i64 o3) (.int .i64 o4) (.int .i64 o5) (.int .u32 wa) (.int .u32 to) (.slice A n c) (.slice B m d)
      replace FR := F
      clear F hse
      obtain ⟨mw8r, w8r, hw8r, hse, F⟩ := FR.out.put10 3 rfl (b := q + 3) rfl (.int .i64 op) (.int .i64 2) (.int .i64 0) (.int .i64 old) (.int .i64 since) (.int .i64 left) (.bool awoke) (.bool starve) (.int .i64 need) (.bool front)
      replace FR := F
      clear F hse
      obtain ⟨mw9r, w9r, hw9r, hse, F⟩ := FR.out.put7 4 rfl (b := q + 4) rfl (.bool false) (.bool false) (.bool false) (.int .i64 0) (.int .i64 0) (.int .u64 0) (.slice none 0 0)
      replace FR := F
      clear F hse
      go_wp2
      refine bodyPost_ret (res_ccc Try.results19 (by rfl) (by rfl) (by rfl) (FR.out.load 2 rfl rfl Try.underlying29 (by kernel_rfl)) (FR.out.load 3 rfl rfl Try.underlying31 (by kernel_rfl)) (FR.out.load 4 rfl rfl Try.underlying38 (by kernel_rfl))) rfl ?_
      rw [HE.out]
      exact ⟨rfl, FR.out.out⟩
  have n1 : (stage == 1) = false := by simp [s1]
  by_cases s2 : stage = 2
  · subst s2
    obtain ⟨⟨z, ⟨gop, gstage, gphase, gold, gsince, gleft, gawoke, gstarve, gneed, gfront⟩, ⟨gdn, ggv, ghd, gft⟩⟩, hr⟩ : ∃ r, unlockM o0 ⟨op, 2, phase, old, since, left, awoke, starve, need, front⟩ = r := ⟨_, rfl⟩
    have HE := Lib.hid (show wunlockW o0 o4 o5 ⟨op, 2, phase, old, since, left, awoke, starve, need, front⟩ = ((z, o4, o5), ⟨gop, gstage, gphase, gold, gsince, gleft, gawoke, gstarve, gneed, gfront⟩, ⟨gdn, ggv, ghd, gft⟩) from by
      unfold wunlockW
      rw [if_neg (fun h => (show ¬ ((2 : Int) = 0) by decide) h.1), if_neg (show ¬ ((2 : Int) = 0) by decide), if_neg (fun h => (show ¬ ((2 : Int) = 1) by decide) h.1), if_neg (show ¬ ((2 : Int) = 1) by decide), if_pos rfl, hr])
    have UC := Lib.hid (show ∀ W : World, Calls Try.prog 39 #[.agg #[.int .i64 kd, .int .i64 o0, .int .i64 o1, .int .i64 o2, .int .i64 o3, .int .i64 o4, .int .i64 o5, .int .u32 wa, .int .u32 to, .slice A n c, .slice B m d], .agg #[.int .i64 op, .int .i64 2, .int .i64 phase, .int .i64 old, .int .i64 since, .int .i64 left, .bool awoke, .bool starve, .int .i64 need, .bool front]] W (fun e w' => e = .returned (.tuple #[.agg #[.int .i64 kd, .int .i64 z, .int .i64 o1, .int .i64 o2, .int .i64 o3, .int .i64 o4, .int .i64 o5, .int .u32 wa, .int .u32 to, .slice A n c, .slice B m d], .agg #[.int .i64 gop, .int .i64 gstage, .int .i64 gphase, .int .i64 gold, .int .i64 gsince, .int .i64 gleft, .bool gawoke, .bool gstarve, .int .i64 gneed, .bool gfront], .agg #[.bool gdn, .bool false, .bool ghd, .int .i64 ggv, .int .i64 gft, .int .u64 0, .slice none 0 0]]) ∧ Below W.heap.size W w') from fun W => by have h := unlock15_any kd o0 o1 o2 o3 o4 o5 wa to A n c B m d ⟨op, 2, phase, old, since, left, awoke, starve, need, front⟩ W; rw [hr] at h; exact h)
    clear s0 s1 n0 n1 hr
    go_enter Try.func19, Try.ntmps19
    have ac0 := row11 (b := q) (FR.out.at 0 rfl rfl)
    have ac1 := row10 (b := q + 1) (FR.out.at 1 rfl rfl)
    go_wp2_with fail
    refine (UC.out _).mono ?_
    rintro e w7 ⟨rfl, hb⟩
    clear ac0 ac1
    replace FR := Lib.hid (FR.out.step hb)
    clear hb
    obtain ⟨mw6r, w6r, hw6r, hse, F⟩ := FR.out.put11 2 rfl (b := q + 2) rfl (.int .i64 kd) (.int .i64 z) (.int .i64 o1) (.int .i64 o2) (.int .i64 o3) (.int .i64 o4) (.int .i64 o5) (.int .u32 wa) (.int .u32 to) (.slice A n c) (.slice B m d)
    replace FR := F
    clear F hse
    obtain ⟨mw7r, w7r, hw7r, hse, F⟩ := FR.out.put10 3 rfl (b := q + 3) rfl (.int .i64 gop) (.int .i64 gstage) (.int .i64 gphase) (.int .i64 gold) (.int .i64 gsince) (.int .i64 gleft) (.bool gawoke) (.bool gstarve) (.int .i64 gneed) (.bool gfront)
    replace FR := F
    clear F hse
    obtain ⟨mw8r, w8r, hw8r, hse, F⟩ := FR.out.put7 4 rfl (b := q + 4) rfl (.bool gdn) (.bool false) (.bool ghd) (.int .i64 ggv) (.int .i64 gft) (.int .u64 0) (.slice none 0 0)
    replace FR := F
    clear F hse
    go_wp2
    refine bodyPost_ret (res_ccc Try.results19 (by rfl) (by rfl) (by rfl) (FR.out.load 2 rfl rfl Try.underlying29 (by kernel_rfl)) (FR.out.load 3 rfl rfl Try.underlying31 (by kernel_rfl)) (FR.out.load 4 rfl rfl Try.underlying38 (by kernel_rfl))) rfl ?_
    rw [HE.out]
    exact ⟨rfl, FR.out.out⟩
  have n2 : (stage == 2) = false := by simp [s2]
  have HE := Lib.hid (show wunlockW o0 o4 o5 ⟨op, stage, phase, old, since, left, awoke, starve, need, front⟩ = ((o0, o4, o5), ⟨op, stage, phase, old, since, left, awoke, starve, need, front⟩, noA) from by
    unfold wunlockW
    rw [if_neg (fun h => s0 h.1), if_neg s0, if_neg (fun h => s1 h.1), if_neg s1, if_neg s2])
  clear s0 s1 s2
  go_enter Try.func19, Try.ntmps19
  have ac0 := row11 (b := q) (FR.out.at 0 rfl rfl)
  have ac1 := row10 (b := q + 1) (FR.out.at 1 rfl rfl)
  go_wp2_with fail
  refine (on16_any _ _ _ _ _ _ _ _ _ _ _ _ _ _ _ _ _ _ _ _ _ _ _ _ _ _).mono ?_
  rintro e w7 ⟨rfl, hb⟩
  clear ac0 ac1
  replace FR := Lib.hid (FR.out.step hb)
  clear hb
  obtain ⟨mw6r, w6r, hw6r, hse, F⟩ := FR.out.put11 2 rfl (b := q + 2) rfl (.int .i64 kd) (.int .i64 o0) (.int .i64 o1) (.int .i64 o2) (.int .i64 o3) (.int .i64 o4) (.int .i64 o5) (.int .u32 wa) (.int .u32 to) (.slice A n c) (.slice B m d)
  replace FR := F
  clear F hse
  obtain ⟨mw7r, w7r, hw7r, hse, F⟩ := FR.out.put10 3 rfl (b := q + 3) rfl (.int .i64 op) (.int .i64 stage) (.int .i64 phase) (.int .i64 old) (.int .i64 since) (.int .i64 left) (.bool awoke) (.bool starve) (.int .i64 need) (.bool front)
  replace FR := F
  clear F hse
  obtain ⟨mw8r, w8r, hw8r, hse, F⟩ := FR.out.put7 4 rfl (b := q + 4) rfl (.bool false) (.bool false) (.bool false) (.int .i64 0) (.int .i64 0) (.int .u64 0) (.slice none 0 0)
  replace FR := F
  clear F hse
  go_wp2
  refine bodyPost_ret (res_ccc Try.results19 (by rfl) (by rfl) (by rfl) (FR.out.load 2 rfl rfl Try.underlying29 (by kernel_rfl)) (FR.out.load 3 rfl rfl Try.underlying31 (by kernel_rfl)) (FR.out.load 4 rfl rfl Try.underlying38 (by kernel_rfl))) rfl ?_
  rw [HE.out]
  exact ⟨rfl, FR.out.out⟩
set_option maxRecDepth 100000 in
set_option maxHeartbeats 16000000 in
theorem wlock16_zero (kd o0 o1 o2 o3 o4 o5 wa to : Int) (A : Option Addr) (n c : Nat) (B : Option Addr) (m d : Nat) (f : MFr) (hp : f.stage = 0) (now pat : Int) (w : World) : Calls Try.prog 17 #[obV kd o0 o1 o2 o3 o4 o5 wa to A n c B m d, frV f, .int .i64 now, .int .i64 pat] w (StepR w kd o1 o2 o3 wa to A n c B m d (wlockW o0 o4 o5 f now pat)) := by
  obtain ⟨op, stage, phase, old, since, left, awoke, starve, need, front⟩ := f
  have hp2 : stage = 0 := hp
  subst hp2
  clear hp
  obtain ⟨⟨z, ⟨gop, gstage, gphase, gold, gsince, gleft, gawoke, gstarve, gneed, gfront⟩, ⟨gdn, ggv, ghd, gft⟩⟩, hr⟩ : ∃ r, lockM o0 ⟨op, 0, phase, old, since, left, awoke, starve, need, front⟩ now pat = r := ⟨_, rfl⟩
  have HO : wlockW o0 o4 o5 ⟨op, 0, phase, old, since, left, awoke, starve, need, front⟩ now pat = (if gdn = true then ((z, o4, o5), stageF ⟨op, 0, phase, old, since, left, awoke, starve, need, front⟩ 1, noA) else ((z, o4, o5), ⟨gop, gstage, gphase, gold, gsince, gleft, gawoke, gstarve, gneed, gfront⟩, ⟨gdn, ggv, ghd, gft⟩)) := by
    unfold wlockW
    rw [if_pos rfl, hr]
  obtain ⟨WA, wn, wc, hwk⟩ : ∃ (X : Option Addr) (i j : Nat), (Value.slice X i j) = .slice none 0 0 := ⟨_, _, _, rfl⟩
  have LC := Lib.hid (show ∀ W : World, Calls Try.prog 34 #[.agg #[.int .i64 kd, .int .i64 o0, .int .i64 o1, .int .i64 o2, .int .i64 o3, .int .i64 o4, .int .i64 o5, .int .u32 wa, .int .u32 to, .slice A n c, .slice B m d], .agg #[.int .i64 op, .int .i64 0, .int .i64 phase, .int .i64 old, .int .i64 since, .int .i64 left, .bool awoke, .bool starve, .int .i64 need, .bool front], .int .i64 now, .int .i64 pat] W (fun e w' => e = .returned (.tuple #[.agg #[.int .i64 kd, .int .i64 z, .int .i64 o1, .int .i64 o2, .int .i64 o3, .int .i64 o4, .int .i64 o5, .int .u32 wa, .int .u32 to, .slice A n c, .slice B m d], .agg #[.int .i64 gop, .int .i64 gstage, .int .i64 gphase, .int .i64 gold, .int .i64 gsince, .int .i64 gleft, .bool gawoke, .bool gstarve, .int .i64 gneed, .bool gfront], .agg #[.bool gdn, .bool false, .bool ghd, .int .i64 ggv, .int .i64 gft, .int .u64 0, .slice WA wn wc]]) ∧ Below W.heap.size W w') from fun W => by have h := lock15_any kd o0 o1 o2 o3 o4 o5 wa to A n c B m d ⟨op, 0, phase, old, since, left, awoke, starve, need, front⟩ now pat W; rw [hr] at h; rw [hwk]; exact h)
  have HWK := Lib.hid hwk
  clear hr hwk
  unfold obV frV frC
  simp only
  cases gdn
  · have HE := Lib.hid (HO.trans (if_neg (fun h => nomatch h)))
    clear HO
    have HB := Lib.hid (And.intro (Below.refl w.heap.size w) (Nat.le_refl w.heap.size))
    have gq := HB.out.2
    obtain ⟨w1, hw1⟩ : ∃ W, (((((w.alloc (.cells #[.int .i64 kd, .int .i64 o0, .int .i64 o1, .int .i64 o2, .int .i64 o3, .int .i64 o4, .int .i64 o5, .int .u32 wa, .int .u32 to, .slice A n c, .slice B m d] 29)).alloc (.cells #[.int .i64 op, .int .i64 0, .int .i64 phase, .int .i64 old, .int .i64 since, .int .i64 left, .bool awoke, .bool starve, .int .i64 need, .bool front] 31)).alloc (.cells #[.int .i64 0, .int .i64 0, .int .i64 0, .int .i64 0, .int .i64 0, .int .i64 0, .int .i64 0, .int .u32 0, .int .u32 0, .slice none 0 0, .slice none 0 0] 29)).alloc (.cells #[.int .i64 0, .int .i64 0, .int .i64 0, .int .i64 0, .int .i64 0, .int .i64 0, .bool false, .bool false, .int .i64 0, .bool false] 31)).alloc (.cells #[.bool false, .bool false, .bool false, .int .i64 0, .int .i64 0, .int .u64 0, .slice none 0 0] 38)) = W := ⟨_, rfl⟩
    have hb : Below w.heap.size w w1 := hw1 ▸ ((((((Below.refl _ _).alloc (Nat.le_refl _) _).alloc (by first | (simp; done) | (simp; omega)) _).alloc (by first | (simp; done) | (simp; omega)) _).alloc (by first | (simp; done) | (simp; omega)) _).alloc (by first | (simp; done) | (simp; omega)) _)
    have hv0 : w1.heap[w.heap.size]? = some (.cells #[.int .i64 kd, .int .i64 o0, .int .i64 o1, .int .i64 o2, .int .i64 o3, .int .i64 o4, .int .i64 o5, .int .u32 wa, .int .u32 to, .slice A n c, .slice B m d] 29) := by
      have h0 := heap_alloc_new w (.cells #[.int .i64 kd, .int .i64 o0, .int .i64 o1, .int .i64 o2, .int .i64 o3, .int .i64 o4, .int .i64 o5, .int .u32 wa, .int .u32 to, .slice A n c, .slice B m d] 29)
      rw [show w.heap.size = w.heap.size by simp [Nat.add_assoc]] at h0
      rw [← hw1]
      rw [heap_alloc_old _ _ (by simp <;> omega), heap_alloc_old _ _ (by simp <;> omega), heap_alloc_old _ _ (by simp <;> omega), heap_alloc_old _ _ (by simp <;> omega)]; exact h0
    have hv1 : w1.heap[w.heap.size + 1]? = some (.cells #[.int .i64 op, .int .i64 0, .int .i64 phase, .int .i64 old, .int .i64 since, .int .i64 left, .bool awoke, .bool starve, .int .i64 need, .bool front] 31) := by
      have h0 := heap_alloc_new (w.alloc (.cells #[.int .i64 kd, .int .i64 o0, .int .i64 o1, .int .i64 o2, .int .i64 o3, .int .i64 o4, .int .i64 o5, .int .u32 wa, .int .u32 to, .slice A n c, .slice B m d] 29)) (.cells #[.int .i64 op, .int .i64 0, .int .i64 phase, .int .i64 old, .int .i64 since, .int .i64 left, .bool awoke, .bool starve, .int .i64 need, .bool front] 31)
      rw [show (w.alloc (.cells #[.int .i64 kd, .int .i64 o0, .int .i64 o1, .int .i64 o2, .int .i64 o3, .int .i64 o4, .int .i64 o5, .int .u32 wa, .int .u32 to, .slice A n c, .slice B m d] 29)).heap.size = w.heap.size + 1 by simp [Nat.add_assoc]] at h0
      rw [← hw1]
      rw [heap_alloc_old _ _ (by simp <;> omega), heap_alloc_old _ _ (by simp <;> omega), heap_alloc_old _ _ (by simp <;> omega)]; exact h0
    have hv2 : w1.heap[w.heap.size + 2]? = some (.cells #[.int .i64 0, .int .i64 0, .int .i64 0, .int .i64 0, .int .i64 0, .int .i64 0, .int .i64 0, .int .u32 0, .int .u32 0, .slice none 0 0, .slice none 0 0] 29) := by
      have h0 := heap_alloc_new ((w.alloc (.cells #[.int .i64 kd, .int .i64 o0, .int .i64 o1, .int .i64 o2, .int .i64 o3, .int .i64 o4, .int .i64 o5, .int .u32 wa, .int .u32 to, .slice A n c, .slice B m d] 29)).alloc (.cells #[.int .i64 op, .int .i64 0, .int .i64 phase, .int .i64 old, .int .i64 since, .int .i64 left, .bool awoke, .bool starve, .int .i64 need, .bool front] 31)) (.cells #[.int .i64 0, .int .i64 0, .int .i64 0, .int .i64 0, .int .i64 0, .int .i64 0, .int .i64 0, .int .u32 0, .int .u32 0, .slice none 0 0, .slice none 0 0] 29)
      rw [show ((w.alloc (.cells #[.int .i64 kd, .int .i64 o0, .int .i64 o1, .int .i64 o2, .int .i64 o3, .int .i64 o4, .int .i64 o5, .int .u32 wa, .int .u32 to, .slice A n c, .slice B m d] 29)).alloc (.cells #[.int .i64 op, .int .i64 0, .int .i64 phase, .int .i64 old, .int .i64 since, .int .i64 left, .bool awoke, .bool starve, .int .i64 need, .bool front] 31)).heap.size = w.heap.size + 2 by simp [Nat.add_assoc]] at h0
      rw [← hw1]
      rw [heap_alloc_old _ _ (by simp <;> omega), heap_alloc_old _ _ (by simp <;> omega)]; exact h0
    have hv3 : w1.heap[w.heap.size + 3]? = some (.cells #[.int .i64 0, .int .i64 0, .int .i64 0, .int .i64 0, .int .i64 0, .int .i64 0, .bool false, .bool false, .int .i64 0, .bool false] 31) := by
      have h0 := heap_alloc_new (((w.alloc (.cells #[.int .i64 kd, .int .i64 o0, .int .i64 o1, .int .i64 o2, .int .i64 o3, .int .i64 o4, .int .i64 o5, .int .u32 wa, .int .u32 to, .slice A n c, .slice B m d] 29)).alloc (.cells #[.int .i64 op, .int .i64 0, .int .i64 phase, .int .i64 old, .int .i64 since, .int .i64 left, .bool awoke, .bool starve, .int .i64 need, .bool front] 31)).alloc (.cells #[.int .i64 0, .int .i64 0, .int .i64 0, .int .i64 0, .int .i64 0, .int .i64 0, .int .i64 0, .int .u32 0, .int .u32 0, .slice none 0 0, .slice none 0 0] 29)) (.cells #[.int .i64 0, .int .i64 0, .int .i64 0, .int .i64 0, .int .i64 0, .int .i64 0, .bool false, .bool false, .int .i64 0, .bool false] 31)
      rw [show (((w.alloc (.cells #[.int .i64 kd, .int .i64 o0, .int .i64 o1, .int .i64 o2, .int .i64 o3, .int .i64 o4, .int .i64 o5, .int .u32 wa, .int .u32 to, .slice A n c, .slice B m d] 29)).alloc (.cells #[.int .i64 op, .int .i64 0, .int .i64 phase, .int .i64 old, .int .i64 since, .int .i64 left, .bool awoke, .bool starve, .int .i64 need, .bool front] 31)).alloc (.cells #[.int .i64 0, .int .i64 0, .int .i64 0, .int .i64 0, .int .i64 0, .int .i64 0, .int .i64 0, .int .u32 0, .int .u32 0, .slice none 0 0, .slice none 0 0] 29)).heap.size = w.heap.size + 3 by simp [Nat.add_assoc]] at h0
      rw [← hw1]
      rw [heap_alloc_old _ _ (by simp <;> omega)]; exact h0
    have hv4 : w1.heap[w.heap.size + 4]? = some (.cells #[.bool false, .bool false, .bool false, .int .i64 0, .int .i64 0, .int .u64 0, .slice none 0 0] 38) := by
      have h0 := heap_alloc_new ((((w.alloc (.cells #[.int .i64 kd, .int .i64 o0, .int .i64 o1, .int .i64 o2, .int .i64 o3, .int .i64 o4, .int .i64 o5, .int .u32 wa, .int .u32 to, .slice A n c, .slice B m d] 29)).alloc (.cells #[.int .i64 op, .int .i64 0, .int .i64 phase, .int .i64 old, .int .i64 since, .int .i64 left, .bool awoke, .bool starve, .int .i64 need, .bool front] 31)).alloc (.cells #[.int .i64 0, .int .i64 0, .int .i64 0, .int .i64 0, .int .i64 0, .int .i64 0, .int .i64 0, .int .u32 0, .int .u32 0, .slice none 0 0, .slice none 0 0] 29)).alloc (.cells #[.int .i64 0, .int .i64 0, .int .i64 0, .int .i64 0, .int .i64 0, .int .i64 0, .bool false, .bool false, .int .i64 0, .bool false] 31)) (.cells #[.bool false, .bool false, .bool false, .int .i64 0, .int .i64 0, .int .u64 0, .slice none 0 0] 38)
      rw [show ((((w.alloc (.cells #[.int .i64 kd, .int .i64 o0, .int .i64 o1, .int .i64 o2, .int .i64 o3, .int .i64 o4, .int .i64 o5, .int .u32 wa, .int .u32 to, .slice A n c, .slice B m d] 29)).alloc (.cells #[.int .i64 op, .int .i64 0, .int .i64 phase, .int .i64 old, .int .i64 since, .int .i64 left, .bool awoke, .bool starve, .int .i64 need, .bool front] 31)).alloc (.cells #[.int .i64 0, .int .i64 0, .int .i64 0, .int .i64 0, .int .i64 0, .int .i64 0, .int .i64 0, .int .u32 0, .int .u32 0, .slice none 0 0, .slice none 0 0] 29)).alloc (.cells #[.int .i64 0, .int .i64 0, .int .i64 0, .int .i64 0, .int .i64 0, .int .i64 0, .bool false, .bool false, .int .i64 0, .bool false] 31)).heap.size = w.heap.size + 4 by simp [Nat.add_assoc]] at h0
      rw [← hw1]
      exact h0
    replace HB := Lib.hid (And.intro (HB.out.1.trans (hb.mono HB.out.2)) (Nat.le_trans HB.out.2 hb.size))
    have Vo := Lib.hid hv0
    have geo := gq
    have Vf := Lib.hid hv1
    have neo_f : w.heap.size ≠ w.heap.size + 1 := by omega
    have gef : _ ≤ w.heap.size + 1 := Nat.le_trans gq (Nat.le_add_right _ 1)
    have Vro := Lib.hid hv2
    have neo_ro : w.heap.size ≠ w.heap.size + 2 := by omega
    have nef_ro : w.heap.size + 1 ≠ w.heap.size + 2 := by omega
    have gero : _ ≤ w.heap.size + 2 := Nat.le_trans gq (Nat.le_add_right _ 2)
    have Vrf := Lib.hid hv3
    have neo_rf : w.heap.size ≠ w.heap.size + 3 := by omega
    have nef_rf : w.heap.size + 1 ≠ w.heap.size + 3 := by omega
    have nero_rf : w.heap.size + 2 ≠ w.heap.size + 3 := by omega
    have gerf : _ ≤ w.heap.size + 3 := Nat.le_trans gq (Nat.le_add_right _ 3)
    have Vra := Lib.hid hv4
    have neo_ra : w.heap.size ≠ w.heap.size + 4 := by omega
    have nef_ra : w.heap.size + 1 ≠ w.heap.size + 4 := by omega
    have nero_ra : w.heap.size + 2 ≠ w.heap.size + 4 := by omega
    have nerf_ra : w.heap.size + 3 ≠ w.heap.size + 4 := by omega
    have gera : _ ≤ w.heap.size + 4 := Nat.le_trans gq (Nat.le_add_right _ 4)
    generalize hso : w.heap.size = so at *
    clear hb gq hv0 hv1 hv2 hv3 hv4
    subst hso
    go_enter Try.func17, Try.ntmps17
    have co := row11 Vo.out
    have cf := row10 Vf.out
    go_wp2_with fail
    refine (LC.out _).mono ?_
    rintro e w2 ⟨rfl, hb⟩
    clear co cf
    replace Vo := Lib.hid (blk_below Vo.out hb (blk_lt Vo.out))
    replace Vf := Lib.hid (blk_below Vf.out hb (blk_lt Vf.out))
    replace Vro := Lib.hid (blk_below Vro.out hb (blk_lt Vro.out))
    replace Vrf := Lib.hid (blk_below Vrf.out hb (blk_lt Vrf.out))
    replace Vra := Lib.hid (blk_below Vra.out hb (blk_lt Vra.out))
    replace HB := Lib.hid (And.intro (HB.out.1.trans (hb.mono HB.out.2)) (Nat.le_trans HB.out.2 hb.size))
    clear hb
    have lto := blk_lt Vo.out
    have ltf := blk_lt Vf.out
    have ltro := blk_lt Vro.out
    have ltrf := blk_lt Vrf.out
    have ltra := blk_lt Vra.out
    have gq := HB.out.2
    obtain ⟨w3, hw3⟩ : ∃ W, (((w2.alloc (.cells #[.int .i64 kd, .int .i64 z, .int .i64 o1, .int .i64 o2, .int .i64 o3, .int .i64 o4, .int .i64 o5, .int .u32 wa, .int .u32 to, .slice A n c, .slice B m d] 29)).alloc (.cells #[.int .i64 gop, .int .i64 gstage, .int .i64 gphase, .int .i64 gold, .int .i64 gsince, .int .i64 gleft, .bool gawoke, .bool gstarve, .int .i64 gneed, .bool gfront] 31)).alloc (.cells #[.bool false, .bool false, .bool ghd, .int .i64 ggv, .int .i64 gft, .int .u64 0, .slice WA wn wc] 38)) = W := ⟨_, rfl⟩
    have hb : Below w2.heap.size w2 w3 := hw3 ▸ ((((Below.refl _ _).alloc (Nat.le_refl _) _).alloc (by first | (simp; done) | (simp; omega)) _).alloc (by first | (simp; done) | (simp; omega)) _)
    have hv0 : w3.heap[w2.heap.size]? = some (.cells #[.int .i64 kd, .int .i64 z, .int .i64 o1, .int .i64 o2, .int .i64 o3, .int .i64 o4, .int .i64 o5, .int .u32 wa, .int .u32 to, .slice A n c, .slice B m d] 29) := by
      have h0 := heap_alloc_new w2 (.cells #[.int .i64 kd, .int .i64 z, .int .i64 o1, .int .i64 o2, .int .i64 o3, .int .i64 o4, .int .i64 o5, .int .u32 wa, .int .u32 to, .slice A n c, .slice B m d] 29)
      rw [show w2.heap.size = w2.heap.size by simp [Nat.add_assoc]] at h0
      rw [← hw3]
      rw [heap_alloc_old _ _ (by simp <;> omega), heap_alloc_old _ _ (by simp <;> omega)]; exact h0
    have hv1 : w3.heap[w2.heap.size + 1]? = some (.cells #[.int .i64 gop, .int .i64 gstage, .int .i64 gphase, .int .i64 gold, .int .i64 gsince, .int .i64 gleft, .bool gawoke, .bool gstarve, .int .i64 gneed, .bool gfront] 31) := by
      have h0 := heap_alloc_new (w2.alloc (.cells #[.int .i64 kd, .int .i64 z, .int .i64 o1, .int .i64 o2, .int .i64 o3, .int .i64 o4, .int .i64 o5, .int .u32 wa, .int .u32 to, .slice A n c, .slice B m d] 29)) (.cells #[.int .i64 gop, .int .i64 gstage, .int .i64 gphase, .int .i64 gold, .int .i64 gsince, .int .i64 gleft, .bool gawoke, .bool gstarve, .int .i64 gneed, .bool gfront] 31)
      rw [show (w2.alloc (.cells #[.int .i64 kd, .int .i64 z, .int .i64 o1, .int .i64 o2, .int .i64 o3, .int .i64 o4, .int .i64 o5, .int .u32 wa, .int .u32 to, .slice A n c, .slice B m d] 29)).heap.size = w2.heap.size + 1 by simp [Nat.add_assoc]] at h0
      rw [← hw3]
      rw [heap_alloc_old _ _ (by simp <;> omega)]; exact h0
    have hv2 : w3.heap[w2.heap.size + 2]? = some (.cells #[.bool false, .bool false, .bool ghd, .int .i64 ggv, .int .i64 gft, .int .u64 0, .slice WA wn wc] 38) := by
      have h0 := heap_alloc_new ((w2.alloc (.cells #[.int .i64 kd, .int .i64 z, .int .i64 o1, .int .i64 o2, .int .i64 o3, .int .i64 o4, .int .i64 o5, .int .u32 wa, .int .u32 to, .slice A n c, .slice B m d] 29)).alloc (.cells #[.int .i64 gop, .int .i64 gstage, .int .i64 gphase, .int .i64 gold, .int .i64 gsince, .int .i64 gleft, .bool gawoke, .bool gstarve, .int .i64 gneed, .bool gfront] 31)) (.cells #[.bool false, .bool false, .bool ghd, .int .i64 ggv, .int .i64 gft, .int .u64 0, .slice WA wn wc] 38)
      rw [show ((w2.alloc (.cells #[.int .i64 kd, .int .i64 z, .int .i64 o1, .int .i64 o2, .int .i64 o3, .int .i64 o4, .int .i64 o5, .int .u32 wa, .int .u32 to, .slice A n c, .slice B m d] 29)).alloc (.cells #[.int .i64 gop, .int .i64 gstage, .int .i64 gphase, .int .i64 gold, .int .i64 gsince, .int .i64 gleft, .bool gawoke, .bool gstarve, .int .i64 gneed, .bool gfront] 31)).heap.size = w2.heap.size + 2 by simp [Nat.add_assoc]] at h0
      rw [← hw3]
      exact h0
    replace Vo := Lib.hid (blk_below Vo.out hb (blk_lt Vo.out))
    replace Vf := Lib.hid (blk_below Vf.out hb (blk_lt Vf.out))
    replace Vro := Lib.hid (blk_below Vro.out hb (blk_lt Vro.out))
    replace Vrf := Lib.hid (blk_below Vrf.out hb (blk_lt Vrf.out))
    replace Vra := Lib.hid (blk_below Vra.out hb (blk_lt Vra.out))
    replace HB := Lib.hid (And.intro (HB.out.1.trans (hb.mono HB.out.2)) (Nat.le_trans HB.out.2 hb.size))
    have Vx := Lib.hid hv0
    have neo_x := Nat.ne_of_lt lto
    have nef_x := Nat.ne_of_lt ltf
    have nero_x := Nat.ne_of_lt ltro
    have nerf_x := Nat.ne_of_lt ltrf
    have nera_x := Nat.ne_of_lt ltra
    have gex := gq
    have Vg := Lib.hid hv1
    have neo_g := Nat.ne_of_lt (Nat.lt_of_lt_of_le lto (Nat.le_add_right w2.heap.size 1))
    have nef_g := Nat.ne_of_lt (Nat.lt_of_lt_of_le ltf (Nat.le_add_right w2.heap.size 1))
    have nero_g := Nat.ne_of_lt (Nat.lt_of_lt_of_le ltro (Nat.le_add_right w2.heap.size 1))
    have nerf_g := Nat.ne_of_lt (Nat.lt_of_lt_of_le ltrf (Nat.le_add_right w2.heap.size 1))
    have nera_g := Nat.ne_of_lt (Nat.lt_of_lt_of_le ltra (Nat.le_add_right w2.heap.size 1))
    have nex_g : w2.heap.size ≠ w2.heap.size + 1 := by omega
    have geg : _ ≤ w2.heap.size + 1 := Nat.le_trans gq (Nat.le_add_right _ 1)
    have Vu := Lib.hid hv2
    have neo_u := Nat.ne_of_lt (Nat.lt_of_lt_of_le lto (Nat.le_add_right w2.heap.size 2))
    have nef_u := Nat.ne_of_lt (Nat.lt_of_lt_of_le ltf (Nat.le_add_right w2.heap.size 2))
    have nero_u := Nat.ne_of_lt (Nat.lt_of_lt_of_le ltro (Nat.le_add_right w2.heap.size 2))
    have nerf_u := Nat.ne_of_lt (Nat.lt_of_lt_of_le ltrf (Nat.le_add_right w2.heap.size 2))
    have nera_u := Nat.ne_of_lt (Nat.lt_of_lt_of_le ltra (Nat.le_add_right w2.heap.size 2))
    have nex_u : w2.heap.size ≠ w2.heap.size + 2 := by omega
    have neg_u : w2.heap.size + 1 ≠ w2.heap.size + 2 := by omega
    have geu : _ ≤ w2.heap.size + 2 := Nat.le_trans gq (Nat.le_add_right _ 2)
    generalize hsx : w2.heap.size = sx at *
    clear hb gq hv0 hv1 hv2 lto ltf ltro ltrf ltra
    have cu := row7 Vu.out
    have co := row11 Vo.out
    have cf := row10 Vf.out
    go_wp2
    clear cu co cf
    obtain ⟨we, hwe⟩ : ∃ W, (w3).drew = W := ⟨_, rfl⟩
    have hb : Below (w3).heap.size (w3) we := hwe ▸ (Below.refl _ _).drew
    replace Vo := Lib.hid (blk_below Vo.out hb (blk_lt Vo.out))
    replace Vf := Lib.hid (blk_below Vf.out hb (blk_lt Vf.out))
    replace Vro := Lib.hid (blk_below Vro.out hb (blk_lt Vro.out))
    replace Vrf := Lib.hid (blk_below Vrf.out hb (blk_lt Vrf.out))
    replace Vra := Lib.hid (blk_below Vra.out hb (blk_lt Vra.out))
    replace Vx := Lib.hid (blk_below Vx.out hb (blk_lt Vx.out))
    replace Vg := Lib.hid (blk_below Vg.out hb (blk_lt Vg.out))
    replace Vu := Lib.hid (blk_below Vu.out hb (blk_lt Vu.out))
    replace HB := Lib.hid (And.intro (HB.out.1.trans (hb.mono HB.out.2)) (Nat.le_trans HB.out.2 hb.size))
    clear hb
    have S0 := Lib.hid (And.intro (Vx.out) (And.intro (Vg.out) (Vu.out)))
    obtain ⟨w4, hw4⟩ : ∃ W, we.setCells (w.heap.size + 2) 0 [.int .i64 kd, .int .i64 z, .int .i64 o1, .int .i64 o2, .int .i64 o3, .int .i64 o4, .int .i64 o5, .int .u32 wa, .int .u32 to, .slice A n c, .slice B m d] = W := ⟨_, rfl⟩
    have thro := Lib.hid (there_blk Vro.out (k := 11) rfl)
    replace Vo := Lib.hid (stayS hw4 neo_ro Vo.out)
    replace Vf := Lib.hid (stayS hw4 nef_ro Vf.out)
    replace Vrf := Lib.hid (stayS hw4 nero_rf.symm Vrf.out)
    replace Vra := Lib.hid (stayS hw4 nero_ra.symm Vra.out)
    replace Vx := Lib.hid (stayS hw4 nero_x.symm Vx.out)
    replace Vg := Lib.hid (stayS hw4 nero_g.symm Vg.out)
    replace Vu := Lib.hid (stayS hw4 nero_u.symm Vu.out)
    replace Vro := Lib.hid (setS hw4 Vro.out rfl)
    replace HB := Lib.hid (belS hw4 gero HB.out)
    have S1 := Lib.hid (And.intro (Vx.out) (And.intro (Vg.out) (Vu.out)))
    obtain ⟨w5, hw5⟩ : ∃ W, w4.setCells (w.heap.size + 3) 0 [.int .i64 gop, .int .i64 gstage, .int .i64 gphase, .int .i64 gold, .int .i64 gsince, .int .i64 gleft, .bool gawoke, .bool gstarve, .int .i64 gneed, .bool gfront] = W := ⟨_, rfl⟩
    have thrf := Lib.hid (there_blk Vrf.out (k := 10) rfl)
    replace Vo := Lib.hid (stayS hw5 neo_rf Vo.out)
    replace Vf := Lib.hid (stayS hw5 nef_rf Vf.out)
    replace Vro := Lib.hid (stayS hw5 nero_rf Vro.out)
    replace Vra := Lib.hid (stayS hw5 nerf_ra.symm Vra.out)
    replace Vx := Lib.hid (stayS hw5 nerf_x.symm Vx.out)
    replace Vg := Lib.hid (stayS hw5 nerf_g.symm Vg.out)
    replace Vu := Lib.hid (stayS hw5 nerf_u.symm Vu.out)
    replace Vrf := Lib.hid (setS hw5 Vrf.out rfl)
    replace HB := Lib.hid (belS hw5 gerf HB.out)
    have S2 := Lib.hid (And.intro (Vx.out) (And.intro (Vg.out) (Vu.out)))
    obtain ⟨w6, hw6⟩ : ∃ W, w5.setCells (w.heap.size + 4) 0 [.bool false, .bool false, .bool ghd, .int .i64 ggv, .int .i64 gft, .int .u64 0, .slice WA wn wc] = W := ⟨_, rfl⟩
    have thra := Lib.hid (there_blk Vra.out (k := 7) rfl)
    replace Vo := Lib.hid (stayS hw6 neo_ra Vo.out)
    replace Vf := Lib.hid (stayS hw6 nef_ra Vf.out)
    replace Vro := Lib.hid (stayS hw6 nero_ra Vro.out)
    replace Vrf := Lib.hid (stayS hw6 nerf_ra Vrf.out)
    replace Vx := Lib.hid (stayS hw6 nera_x.symm Vx.out)
    replace Vg := Lib.hid (stayS hw6 nera_g.symm Vg.out)
    replace Vu := Lib.hid (stayS hw6 nera_u.symm Vu.out)
    replace Vra := Lib.hid (setS hw6 Vra.out rfl)
    replace HB := Lib.hid (belS hw6 gera HB.out)
    have S3 := Lib.hid (And.intro (Vx.out) (And.intro (Vg.out) (Vu.out)))
    refine wp_region_noPanic ?_
    refine wp_region_held_drew (S := (fun wv => Hid (wv.heap[sx]? = some (.cells #[.int .i64 kd, .int .i64 z, .int .i64 o1, .int .i64 o2, .int .i64 o3, .int .i64 o4, .int .i64 o5, .int .u32 wa, .int .u32 to, .slice A n c, .slice B m d] 29) ∧ wv.heap[sx + 1]? = some (.cells #[.int .i64 gop, .int .i64 gstage, .int .i64 gphase, .int .i64 gold, .int .i64 gsince, .int .i64 gleft, .bool gawoke, .bool gstarve, .int .i64 gneed, .bool gfront] 31) ∧ wv.heap[sx + 2]? = some (.cells #[.bool false, .bool false, .bool ghd, .int .i64 ggv, .int .i64 gft, .int .u64 0, .slice WA wn wc] 38)))) (by kernel_rfl) ((by rw [hwe]; exact S0)) (fun hS => ?_)
    rw [hwe] at hS ⊢
    refine wpAnyH_take (i := 0) (oi := ⟨some 35, .load 29 (.tmp 11), 29, "ref.go:75", #[], none⟩) (v := .agg (([.int .i64 kd, .int .i64 z, .int .i64 o1, .int .i64 o2, .int .i64 o3, .int .i64 o4, .int .i64 o5, .int .u32 wa, .int .u32 to, .slice A n c, .slice B m d] : List Value)).toArray) rfl (by kernel_rfl) (by kernel_rfl) (by kernel_rfl) (fun _ _ _ h => h) (yieldsIf_load_mid (by rfl) _ _ (by rfl) (sx) (0) (by rfl) _ _ (fun wv hS => blk_rngl hS.out.1) Try.underlying29 (by rfl) (by kernel_rfl)) hS ?_
    try simp only [Act.put, List.setIfInBounds_toArray, List.set_cons_zero, List.set_cons_succ]
    refine wpAnyH_take (i := 1) (oi := ⟨some 36, .load 31 (.tmp 12), 31, "ref.go:75", #[⟨3, .gcOnly .lateStores⟩], none⟩) (v := .agg (([.int .i64 gop, .int .i64 gstage, .int .i64 gphase, .int .i64 gold, .int .i64 gsince, .int .i64 gleft, .bool gawoke, .bool gstarve, .int .i64 gneed, .bool gfront] : List Value)).toArray) rfl (by kernel_rfl) (by kernel_rfl) (by kernel_rfl) (fun _ _ _ h => h) (yieldsIf_load_mid (by rfl) _ _ (by rfl) (sx + 1) (0) (by rfl) _ _ (fun wv hS => blk_rngl hS.out.2.1) Try.underlying31 (by rfl) (by kernel_rfl)) hS ?_
    try simp only [Act.put, List.setIfInBounds_toArray, List.set_cons_zero, List.set_cons_succ]
    refine wpAnyH_take (i := 2) (oi := ⟨some 37, .load 38 (.tmp 13), 38, "ref.go:75", #[⟨4, .gcOnly .lateStores⟩], none⟩) (v := .agg (([.bool false, .bool false, .bool ghd, .int .i64 ggv, .int .i64 gft, .int .u64 0, .slice WA wn wc] : List Value)).toArray) rfl (by kernel_rfl) (by kernel_rfl) (by kernel_rfl) (fun _ _ _ h => h) (yieldsIf_load_mid (by rfl) _ _ (by rfl) (sx + 2) (0) (by rfl) _ _ (fun wv hS => blk_rngl hS.out.2.2) Try.underlying38 (by rfl) (by kernel_rfl)) hS ?_
    try simp only [Act.put, List.setIfInBounds_toArray, List.set_cons_zero, List.set_cons_succ]
    refine wpAnyH_ready (rs := [3]) (by kernel_rfl) (by simp) (AllReadyH.cons (o := ⟨none, .store 29 (.tmp 8) (.tmp 35), 0, "ref.go:75", #[⟨0, .data⟩, ⟨0, .phase⟩, ⟨1, .textOnly .lateStores⟩, ⟨2, .textOnly .lateStores⟩], none⟩) rfl (fun K hK => ?_) AllReadyH.nil)
    refine op_storeS (by rfl) rfl rfl rfl thro.out (by kernel_rfl) (by simp [Value.oneCell']) hw4 ?_
    replace hS := S1
    refine Shut.out hK _ _ hS (fun _ => ?_)
    clear hK K
    try simp only [Act.put, List.setIfInBounds_toArray, List.set_cons_zero, List.set_cons_succ]
    refine wpAnyH_ready (rs := [4]) (by kernel_rfl) (by simp) (AllReadyH.cons (o := ⟨none, .store 31 (.tmp 9) (.tmp 36), 0, "ref.go:75", #[⟨1, .data⟩, ⟨3, .chain⟩, ⟨0, .phase⟩, ⟨1, .phase⟩, ⟨2, .textOnly .lateStores⟩, ⟨3, .phase⟩], none⟩) rfl (fun K hK => ?_) AllReadyH.nil)
    refine op_storeS (by rfl) rfl rfl rfl thrf.out (by kernel_rfl) (by simp [Value.oneCell']) hw5 ?_
    replace hS := S2
    refine Shut.out hK _ _ hS (fun _ => ?_)
    clear hK K
    try simp only [Act.put, List.setIfInBounds_toArray, List.set_cons_zero, List.set_cons_succ]
    refine wpAnyH_ready (rs := [5]) (by kernel_rfl) (by simp) (AllReadyH.cons (o := ⟨none, .store 38 (.tmp 10) (.tmp 37), 0, "ref.go:75", #[⟨2, .data⟩, ⟨4, .chain⟩, ⟨0, .phase⟩, ⟨1, .phase⟩, ⟨2, .phase⟩, ⟨3, .phase⟩, ⟨4, .phase⟩], none⟩) rfl (fun K hK => ?_) AllReadyH.nil)
    refine op_storeS (by rfl) rfl rfl rfl thra.out (by kernel_rfl) (by simp [Value.oneCell']) hw6 ?_
    replace hS := S3
    refine Shut.out hK _ _ hS (fun _ => ?_)
    clear hK K
    try simp only [Act.put, List.setIfInBounds_toArray, List.set_cons_zero, List.set_cons_succ]
    refine wpAnyH_done (by kernel_rfl) ?_ _
    refine NoPanic.normal ?_
    clear hS S0 S1 S2 S3 thro thrf thra
    go_wp2
    refine bodyPost_ret (res_ccc Try.results17 (by rfl) (by rfl) (by rfl) (load_blk Vro.out Try.underlying29 (by kernel_rfl)) (load_blk Vrf.out Try.underlying31 (by kernel_rfl)) (load_blk Vra.out Try.underlying38 (by kernel_rfl))) rfl ?_
    rw [HE.out, HWK.out]
    exact ⟨rfl, HB.out.1⟩
  · have HE := Lib.hid (HO.trans (if_pos rfl))
    clear HO
    have HB := Lib.hid (And.intro (Below.refl w.heap.size w) (Nat.le_refl w.heap.size))
    have gq := HB.out.2
    obtain ⟨w1, hw1⟩ : ∃ W, (((((w.alloc (.cells #[.int .i64 kd, .int .i64 o0, .int .i64 o1, .int .i64 o2, .int .i64 o3, .int .i64 o4, .int .i64 o5, .int .u32 wa, .int .u32 to, .slice A n c, .slice B m d] 29)).alloc (.cells #[.int .i64 op, .int .i64 0, .int .i64 phase, .int .i64 old, .int .i64 since, .int .i64 left, .bool awoke, .bool starve, .int .i64 need, .bool front] 31)).alloc (.cells #[.int .i64 0, .int .i64 0, .int .i64 0, .int .i64 0, .int .i64 0, .int .i64 0, .int .i64 0, .int .u32 0, .int .u32 0, .slice none 0 0, .slice none 0 0] 29)).alloc (.cells #[.int .i64 0, .int .i64 0, .int .i64 0, .int .i64 0, .int .i64 0, .int .i64 0, .bool false, .bool false, .int .i64 0, .bool false] 31)).alloc (.cells #[.bool false, .bool false, .bool false, .int .i64 0, .int .i64 0, .int .u64 0, .slice none 0 0] 38)) = W := ⟨_, rfl⟩
    have hb : Below w.heap.size w w1 := hw1 ▸ ((((((Below.refl _ _).alloc (Nat.le_refl _) _).alloc (by first | (simp; done) | (simp; omega)) _).alloc (by first | (simp; done) | (simp; omega)) _).alloc (by first | (simp; done) | (simp; omega)) _).alloc (by first | (simp; done) | (simp; omega)) _)
    have hv0 : w1.heap[w.heap.size]? = some (.cells #[.int .i64 kd, .int .i64 o0, .int .i64 o1, .int .i64 o2, .int .i64 o3, .int .i64 o4, .int .i64 o5, .int .u32 wa, .int .u32 to, .slice A n c, .slice B m d] 29) := by
      have h0 := heap_alloc_new w (.cells #[.int .i64 kd, .int .i64 o0, .int .i64 o1, .int .i64 o2, .int .i64 o3, .int .i64 o4, .int .i64 o5, .int .u32 wa, .int .u32 to, .slice A n c, .slice B m d] 29)
      rw [show w.heap.size = w.heap.size by simp [Nat.add_assoc]] at h0
      rw [← hw1]
      rw [heap_alloc_old _ _ (by simp <;> omega), heap_alloc_old _ _ (by simp <;> omega), heap_alloc_old _ _ (by simp <;> omega), heap_alloc_old _ _ (by simp <;> omega)]; exact h0
    have hv1 : w1.heap[w.heap.size + 1]? = some (.cells #[.int .i64 op, .int .i64 0, .int .i64 phase, .int .i64 old, .int .i64 since, .int .i64 left, .bool awoke, .bool starve, .int .i64 need, .bool front] 31) := by
      have h0 := heap_alloc_new (w.alloc (.cells #[.int .i64 kd, .int .i64 o0, .int .i64 o1, .int .i64 o2, .int .i64 o3, .int .i64 o4, .int .i64 o5, .int .u32 wa, .int .u32 to, .slice A n c, .slice B m d] 29)) (.cells #[.int .i64 op, .int .i64 0, .int .i64 phase, .int .i64 old, .int .i64 since, .int .i64 left, .bool awoke, .bool starve, .int .i64 need, .bool front] 31)
      rw [show (w.alloc (.cells #[.int .i64 kd, .int .i64 o0, .int .i64 o1, .int .i64 o2, .int .i64 o3, .int .i64 o4, .int .i64 o5, .int .u32 wa, .int .u32 to, .slice A n c, .slice B m d] 29)).heap.size = w.heap.size + 1 by simp [Nat.add_assoc]] at h0
      rw [← hw1]
      rw [heap_alloc_old _ _ (by simp <;> omega), heap_alloc_old _ _ (by simp <;> omega), heap_alloc_old _ _ (by simp <;> omega)]; exact h0
    have hv2 : w1.heap[w.heap.size + 2]? = some (.cells #[.int .i64 0, .int .i64 0, .int .i64 0, .int .i64 0, .int .i64 0, .int .i64 0, .int .i64 0, .int .u32 0, .int .u32 0, .slice none 0 0, .slice none 0 0] 29) := by
      have h0 := heap_alloc_new ((w.alloc (.cells #[.int .i64 kd, .int .i64 o0, .int .i64 o1, .int .i64 o2, .int .i64 o3, .int .i64 o4, .int .i64 o5, .int .u32 wa, .int .u32 to, .slice A n c, .slice B m d] 29)).alloc (.cells #[.int .i64 op, .int .i64 0, .int .i64 phase, .int .i64 old, .int .i64 since, .int .i64 left, .bool awoke, .bool starve, .int .i64 need, .bool front] 31)) (.cells #[.int .i64 0, .int .i64 0, .int .i64 0, .int .i64 0, .int .i64 0, .int .i64 0, .int .i64 0, .int .u32 0, .int .u32 0, .slice none 0 0, .slice none 0 0] 29)
      rw [show ((w.alloc (.cells #[.int .i64 kd, .int .i64 o0, .int .i64 o1, .int .i64 o2, .int .i64 o3, .int .i64 o4, .int .i64 o5, .int .u32 wa, .int .u32 to, .slice A n c, .slice B m d] 29)).alloc (.cells #[.int .i64 op, .int .i64 0, .int .i64 phase, .int .i64 old, .int .i64 since, .int .i64 left, .bool awoke, .bool starve, .int .i64 need, .bool front] 31)).heap.size = w.heap.size + 2 by simp [Nat.add_assoc]] at h0
      rw [← hw1]
      rw [heap_alloc_old _ _ (by simp <;> omega), heap_alloc_old _ _ (by simp <;> omega)]; exact h0
    have hv3 : w1.heap[w.heap.size + 3]? = some (.cells #[.int .i64 0, .int .i64 0, .int .i64 0, .int .i64 0, .int .i64 0, .int .i64 0, .bool false, .bool false, .int .i64 0, .bool false] 31) := by
      have h0 := heap_alloc_new (((w.alloc (.cells #[.int .i64 kd, .int .i64 o0, .int .i64 o1, .int .i64 o2, .int .i64 o3, .int .i64 o4, .int .i64 o5, .int .u32 wa, .int .u32 to, .slice A n c, .slice B m d] 29)).alloc (.cells #[.int .i64 op, .int .i64 0, .int .i64 phase, .int .i64 old, .int .i64 since, .int .i64 left, .bool awoke, .bool starve, .int .i64 need, .bool front] 31)).alloc (.cells #[.int .i64 0, .int .i64 0, .int .i64 0, .int .i64 0, .int .i64 0, .int .i64 0, .int .i64 0, .int .u32 0, .int .u32 0, .slice none 0 0, .slice none 0 0] 29)) (.cells #[.int .i64 0, .int .i64 0, .int .i64 0, .int .i64 0, .int .i64 0, .int .i64 0, .bool false, .bool false, .int .i64 0, .bool false] 31)
      rw [show (((w.alloc (.cells #[.int .i64 kd, .int .i64 o0, .int .i64 o1, .int .i64 o2, .int .i64 o3, .int .i64 o4, .int .i64 o5, .int .u32 wa, .int .u32 to, .slice A n c, .slice B m d] 29)).alloc (.cells #[.int .i64 op, .int .i64 0, .int .i64 phase, .int .i64 old, .int .i64 since, .int .i64 left, .bool awoke, .bool starve, .int .i64 need, .bool front] 31)).alloc (.cells #[.int .i64 0, .int .i64 0, .int .i64 0, .int .i64 0, .int .i64 0, .int .i64 0, .int .i64 0, .int .u32 0, .int .u32 0, .slice none 0 0, .slice none 0 0] 29)).heap.size = w.heap.size + 3 by simp [Nat.add_assoc]] at h0
      rw [← hw1]
      rw [heap_alloc_old _ _ (by simp <;> omega)]; exact h0
    have hv4 : w1.heap[w.heap.size + 4]? = some (.cells #[.bool false, .bool false, .bool false, .int .i64 0, .int .i64 0, .int .u64 0, .slice none 0 0] 38) := by
      have h0 := heap_alloc_new ((((w.alloc (.cells #[.int .i64 kd, .int .i64 o0, .int .i64 o1, .int .i64 o2, .int .i64 o3, .int .i64 o4, .int .i64 o5, .int .u32 wa, .int .u32 to, .slice A n c, .slice B m d] 29)).alloc (.cells #[.int .i64 op, .int .i64 0, .int .i64 phase, .int .i64 old, .int .i64 since, .int .i64 left, .bool awoke, .bool starve, .int .i64 need, .bool front] 31)).alloc (.cells #[.int .i64 0, .int .i64 0, .int .i64 0, .int .i64 0, .int .i64 0, .int .i64 0, .int .i64 0, .int .u32 0, .int .u32 0, .slice none 0 0, .slice none 0 0] 29)).alloc (.cells #[.int .i64 0, .int .i64 0, .int .i64 0, .int .i64 0, .int .i64 0, .int .i64 0, .bool false, .bool false, .int .i64 0, .bool false] 31)) (.cells #[.bool false, .bool false, .bool false, .int .i64 0, .int .i64 0, .int .u64 0, .slice none 0 0] 38)
      rw [show ((((w.alloc (.cells #[.int .i64 kd, .int .i64 o0, .int .i64 o1, .int .i64 o2, .int .i64 o3, .int .i64 o4, .int .i64 o5, .int .u32 wa, .int .u32 to, .slice A n c, .slice B m d] 29)).alloc (.cells #[.int .i64 op, .int .i64 0, .int .i64 phase, .int .i64 old, .int .i64 since, .int .i64 left, .bool awoke, .bool starve, .int .i64 need, .bool front] 31)).alloc (.cells #[.int .i64 0, .int .i64 0, .int .i64 0, .int .i64 0, .int .i64 0, .int .i64 0, .int .i64 0, .int .u32 0, .int .u32 0, .slice none 0 0, .slice none 0 0] 29)).alloc (.cells #[.int .i64 0, .int .i64 0, .int .i64 0, .int .i64 0, .int .i64 0, .int .i64 0, .bool false, .bool false, .int .i64 0, .bool false] 31)).heap.size = w.heap.size + 4 by simp [Nat.add_assoc]] at h0
      rw [← hw1]
      exact h0
    replace HB := Lib.hid (And.intro (HB.out.1.trans (hb.mono HB.out.2)) (Nat.le_trans HB.out.2 hb.size))
    have Vo := Lib.hid hv0
    have geo := gq
    have Vf := Lib.hid hv1
    have neo_f : w.heap.size ≠ w.heap.size + 1 := by omega
    have gef : _ ≤ w.heap.size + 1 := Nat.le_trans gq (Nat.le_add_right _ 1)
    have Vro := Lib.hid hv2
    have neo_ro : w.heap.size ≠ w.heap.size + 2 := by omega
    have nef_ro : w.heap.size + 1 ≠ w.heap.size + 2 := by omega
    have gero : _ ≤ w.heap.size + 2 := Nat.le_trans gq (Nat.le_add_right _ 2)
    have Vrf := Lib.hid hv3
    have neo_rf : w.heap.size ≠ w.heap.size + 3 := by omega
    have nef_rf : w.heap.size + 1 ≠ w.heap.size + 3 := by omega
    have nero_rf : w.heap.size + 2 ≠ w.heap.size + 3 := by omega
    have gerf : _ ≤ w.heap.size + 3 := Nat.le_trans gq (Nat.le_add_right _ 3)
    have Vra := Lib.hid hv4
    have neo_ra : w.heap.size ≠ w.heap.size + 4 := by omega
    have nef_ra : w.heap.size + 1 ≠ w.heap.size + 4 := by omega
    have nero_ra : w.heap.size + 2 ≠ w.heap.size + 4 := by omega
    have nerf_ra : w.heap.size + 3 ≠ w.heap.size + 4 := by omega
    have gera : _ ≤ w.heap.size + 4 := Nat.le_trans gq (Nat.le_add_right _ 4)
    generalize hso : w.heap.size = so at *
    clear hb gq hv0 hv1 hv2 hv3 hv4
    subst hso
    go_enter Try.func17, Try.ntmps17
    have co := row11 Vo.out
    have cf := row10 Vf.out
    go_wp2_with fail
    refine (LC.out _).mono ?_
    rintro e w2 ⟨rfl, hb⟩
    clear co cf
    replace Vo := Lib.hid (blk_below Vo.out hb (blk_lt Vo.out))
    replace Vf := Lib.hid (blk_below Vf.out hb (blk_lt Vf.out))
    replace Vro := Lib.hid (blk_below Vro.out hb (blk_lt Vro.out))
    replace Vrf := Lib.hid (blk_below Vrf.out hb (blk_lt Vrf.out))
    replace Vra := Lib.hid (blk_below Vra.out hb (blk_lt Vra.out))
    replace HB := Lib.hid (And.intro (HB.out.1.trans (hb.mono HB.out.2)) (Nat.le_trans HB.out.2 hb.size))
    clear hb
    have lto := blk_lt Vo.out
    have ltf := blk_lt Vf.out
    have ltro := blk_lt Vro.out
    have ltrf := blk_lt Vrf.out
    have ltra := blk_lt Vra.out
    have gq := HB.out.2
    obtain ⟨w3, hw3⟩ : ∃ W, (((w2.alloc (.cells #[.int .i64 kd, .int .i64 z, .int .i64 o1, .int .i64 o2, .int .i64 o3, .int .i64 o4, .int .i64 o5, .int .u32 wa, .int .u32 to, .slice A n c, .slice B m d] 29)).alloc (.cells #[.int .i64 gop, .int .i64 gstage, .int .i64 gphase, .int .i64 gold, .int .i64 gsince, .int .i64 gleft, .bool gawoke, .bool gstarve, .int .i64 gneed, .bool gfront] 31)).alloc (.cells #[.bool true, .bool false, .bool ghd, .int .i64 ggv, .int .i64 gft, .int .u64 0, .slice WA wn wc] 38)) = W := ⟨_, rfl⟩
    have hb : Below w2.heap.size w2 w3 := hw3 ▸ ((((Below.refl _ _).alloc (Nat.le_refl _) _).alloc (by first | (simp; done) | (simp; omega)) _).alloc (by first | (simp; done) | (simp; omega)) _)
    have hv0 : w3.heap[w2.heap.size]? = some (.cells #[.int .i64 kd, .int .i64 z, .int .i64 o1, .int .i64 o2, .int .i64 o3, .int .i64 o4, .int .i64 o5, .int .u32 wa, .int .u32 to, .slice A n c, .slice B m d] 29) := by
      have h0 := heap_alloc_new w2 (.cells #[.int .i64 kd, .int .i64 z, .int .i64 o1, .int .i64 o2, .int .i64 o3, .int .i64 o4, .int .i64 o5, .int .u32 wa, .int .u32 to, .slice A n c, .slice B m d] 29)
      rw [show w2.heap.size = w2.heap.size by simp [Nat.add_assoc]] at h0
      rw [← hw3]
      rw [heap_alloc_old _ _ (by simp <;> omega), heap_alloc_old _ _ (by simp <;> omega)]; exact h0
    have hv1 : w3.heap[w2.heap.size + 1]? = some (.cells #[.int .i64 gop, .int .i64 gstage, .int .i64 gphase, .int .i64 gold, .int .i64 gsince, .int .i64 gleft, .bool gawoke, .bool gstarve, .int .i64 gneed, .bool gfront] 31) := by
      have h0 := heap_alloc_new (w2.alloc (.cells #[.int .i64 kd, .int .i64 z, .int .i64 o1, .int .i64 o2, .int .i64 o3, .int .i64 o4, .int .i64 o5, .int .u32 wa, .int .u32 to, .slice A n c, .slice B m d] 29)) (.cells #[.int .i64 gop, .int .i64 gstage, .int .i64 gphase, .int .i64 gold, .int .i64 gsince, .int .i64 gleft, .bool gawoke, .bool gstarve, .int .i64 gneed, .bool gfront] 31)
      rw [show (w2.alloc (.cells #[.int .i64 kd, .int .i64 z, .int .i64 o1, .int .i64 o2, .int .i64 o3, .int .i64 o4, .int .i64 o5, .int .u32 wa, .int .u32 to, .slice A n c, .slice B m d] 29)).heap.size = w2.heap.size + 1 by simp [Nat.add_assoc]] at h0
      rw [← hw3]
      rw [heap_alloc_old _ _ (by simp <;> omega)]; exact h0
    have hv2 : w3.heap[w2.heap.size + 2]? = some (.cells #[.bool true, .bool false, .bool ghd, .int .i64 ggv, .int .i64 gft, .int .u64 0, .slice WA wn wc] 38) := by
      have h0 := heap_alloc_new ((w2.alloc (.cells #[.int .i64 kd, .int .i64 z, .int .i64 o1, .int .i64 o2, .int .i64 o3, .int .i64 o4, .int .i64 o5, .int .u32 wa, .int .u32 to, .slice A n c, .slice B m d] 29)).alloc (.cells #[.int .i64 gop, .int .i64 gstage, .int .i64 gphase, .int .i64 gold, .int .i64 gsince, .int .i64 gleft, .bool gawoke, .bool gstarve, .int .i64 gneed, .bool gfront] 31)) (.cells #[.bool true, .bool false, .bool ghd, .int .i64 ggv, .int .i64 gft, .int .u64 0, .slice WA wn wc] 38)
      rw [show ((w2.alloc (.cells #[.int .i64 kd, .int .i64 z, .int .i64 o1, .int .i64 o2, .int .i64 o3, .int .i64 o4, .int .i64 o5, .int .u32 wa, .int .u32 to, .slice A n c, .slice B m d] 29)).alloc (.cells #[.int .i64 gop, .int .i64 gstage, .int .i64 gphase, .int .i64 gold, .int .i64 gsince, .int .i64 gleft, .bool gawoke, .bool gstarve, .int .i64 gneed, .bool gfront] 31)).heap.size = w2.heap.size + 2 by simp [Nat.add_assoc]] at h0
      rw [← hw3]
      exact h0
    replace Vo := Lib.hid (blk_below Vo.out hb (blk_lt Vo.out))
    replace Vf := Lib.hid (blk_below Vf.out hb (blk_lt Vf.out))
    replace Vro := Lib.hid (blk_below Vro.out hb (blk_lt Vro.out))
    replace Vrf := Lib.hid (blk_below Vrf.out hb (blk_lt Vrf.out))
    replace Vra := Lib.hid (blk_below Vra.out hb (blk_lt Vra.out))
    replace HB := Lib.hid (And.intro (HB.out.1.trans (hb.mono HB.out.2)) (Nat.le_trans HB.out.2 hb.size))
    have Vx := Lib.hid hv0
    have neo_x := Nat.ne_of_lt lto
    have nef_x := Nat.ne_of_lt ltf
    have nero_x := Nat.ne_of_lt ltro
    have nerf_x := Nat.ne_of_lt ltrf
    have nera_x := Nat.ne_of_lt ltra
    have gex := gq
    have Vg := Lib.hid hv1
    have neo_g := Nat.ne_of_lt (Nat.lt_of_lt_of_le lto (Nat.le_add_right w2.heap.size 1))
    have nef_g := Nat.ne_of_lt (Nat.lt_of_lt_of_le ltf (Nat.le_add_right w2.heap.size 1))
    have nero_g := Nat.ne_of_lt (Nat.lt_of_lt_of_le ltro (Nat.le_add_right w2.heap.size 1))
    have nerf_g := Nat.ne_of_lt (Nat.lt_of_lt_of_le ltrf (Nat.le_add_right w2.heap.size 1))
    have nera_g := Nat.ne_of_lt (Nat.lt_of_lt_of_le ltra (Nat.le_add_right w2.heap.size 1))
    have nex_g : w2.heap.size ≠ w2.heap.size + 1 := by omega
    have geg : _ ≤ w2.heap.size + 1 := Nat.le_trans gq (Nat.le_add_right _ 1)
    have Vu := Lib.hid hv2
    have neo_u := Nat.ne_of_lt (Nat.lt_of_lt_of_le lto (Nat.le_add_right w2.heap.size 2))
    have nef_u := Nat.ne_of_lt (Nat.lt_of_lt_of_le ltf (Nat.le_add_right w2.heap.size 2))
    have nero_u := Nat.ne_of_lt (Nat.lt_of_lt_of_le ltro (Nat.le_add_right w2.heap.size 2))
    have nerf_u := Nat.ne_of_lt (Nat.lt_of_lt_of_le ltrf (Nat.le_add_right w2.heap.size 2))
    have nera_u := Nat.ne_of_lt (Nat.lt_of_lt_of_le ltra (Nat.le_add_right w2.heap.size 2))
    have nex_u : w2.heap.size ≠ w2.heap.size + 2 := by omega
    have neg_u : w2.heap.size + 1 ≠ w2.heap.size + 2 := by omega
    have geu : _ ≤ w2.heap.size + 2 := Nat.le_trans gq (Nat.le_add_right _ 2)
    generalize hsx : w2.heap.size = sx at *
    clear hb gq hv0 hv1 hv2 lto ltf ltro ltrf ltra
    have cu := row7 Vu.out
    have co := row11 Vo.out
    have cf := row10 Vf.out
    go_wp2
    clear cu co cf
    obtain ⟨we, hwe⟩ : ∃ W, (w3).drew = W := ⟨_, rfl⟩
    have hb : Below (w3).heap.size (w3) we := hwe ▸ (Below.refl _ _).drew
    replace Vo := Lib.hid (blk_below Vo.out hb (blk_lt Vo.out))
    replace Vf := Lib.hid (blk_below Vf.out hb (blk_lt Vf.out))
    replace Vro := Lib.hid (blk_below Vro.out hb (blk_lt Vro.out))
    replace Vrf := Lib.hid (blk_below Vrf.out hb (blk_lt Vrf.out))
    replace Vra := Lib.hid (blk_below Vra.out hb (blk_lt Vra.out))
    replace Vx := Lib.hid (blk_below Vx.out hb (blk_lt Vx.out))
    replace Vg := Lib.hid (blk_below Vg.out hb (blk_lt Vg.out))
    replace Vu := Lib.hid (blk_below Vu.out hb (blk_lt Vu.out))
    replace HB := Lib.hid (And.intro (HB.out.1.trans (hb.mono HB.out.2)) (Nat.le_trans HB.out.2 hb.size))
    clear hb
    have S0 := Lib.hid (And.intro (Vx.out) (Vf.out))
    refine wp_region_noPanic ?_
    refine wp_region_held_drew (S := (fun wv => Hid (wv.heap[sx]? = some (.cells #[.int .i64 kd, .int .i64 z, .int .i64 o1, .int .i64 o2, .int .i64 o3, .int .i64 o4, .int .i64 o5, .int .u32 wa, .int .u32 to, .slice A n c, .slice B m d] 29) ∧ wv.heap[w.heap.size + 1]? = some (.cells #[.int .i64 op, .int .i64 0, .int .i64 phase, .int .i64 old, .int .i64 since, .int .i64 left, .bool awoke, .bool starve, .int .i64 need, .bool front] 31)))) (by kernel_rfl) ((by rw [hwe]; exact S0)) (fun hS => ?_)
    rw [hwe] at hS ⊢
    refine wpAnyH_take (i := 0) (oi := ⟨some 28, .load 29 (.tmp 11), 29, "ref.go:73", #[], none⟩) (v := .agg (([.int .i64 kd, .int .i64 z, .int .i64 o1, .int .i64 o2, .int .i64 o3, .int .i64 o4, .int .i64 o5, .int .u32 wa, .int .u32 to, .slice A n c, .slice B m d] : List Value)).toArray) rfl (by kernel_rfl) (by kernel_rfl) (by kernel_rfl) (fun _ _ _ h => h) (yieldsIf_load_mid (by rfl) _ _ (by rfl) (sx) (0) (by rfl) _ _ (fun wv hS => blk_rngl hS.out.1) Try.underlying29 (by rfl) (by kernel_rfl)) hS ?_
    try simp only [Act.put, List.setIfInBounds_toArray, List.set_cons_zero, List.set_cons_succ]
    refine wpAnyH_take (i := 1) (oi := ⟨some 29, .load 31 (.tmp 5), 31, "ref.go:73", #[], none⟩) (v := .agg (([.int .i64 op, .int .i64 0, .int .i64 phase, .int .i64 old, .int .i64 since, .int .i64 left, .bool awoke, .bool starve, .int .i64 need, .bool front] : List Value)).toArray) rfl (by kernel_rfl) (by kernel_rfl) (by kernel_rfl) (fun _ _ _ h => h) (yieldsIf_load_mid (by rfl) _ _ (by rfl) (w.heap.size + 1) (0) (by rfl) _ _ (fun wv hS => blk_rngl hS.out.2) Try.underlying31 (by rfl) (by kernel_rfl)) hS ?_
    try simp only [Act.put, List.setIfInBounds_toArray, List.set_cons_zero, List.set_cons_succ]
    refine wpAnyH_ready (rs := [2]) (by kernel_rfl) (by simp) (AllReadyH.cons (o := ⟨some 30, .call { callee := .value (.func 35), args := #[.tmp 29, .const (Value.int IntKind.i64 1)], argTypes := #[31, 3] }, 31, "ref.go:73", #[⟨1, .data⟩], none⟩) rfl (fun K hK => ?_) AllReadyH.nil)
    go_simp
    refine (stage16_any _ _ _ _ _ _ _ _ _ _ _ _).mono ?_; rintro e u2 ⟨rfl, hb⟩
    replace Vo := Lib.hid (blk_below Vo.out hb (blk_lt Vo.out))
    replace Vf := Lib.hid (blk_below Vf.out hb (blk_lt Vf.out))
    replace Vro := Lib.hid (blk_below Vro.out hb (blk_lt Vro.out))
    replace Vrf := Lib.hid (blk_below Vrf.out hb (blk_lt Vrf.out))
    replace Vra := Lib.hid (blk_below Vra.out hb (blk_lt Vra.out))
    replace Vx := Lib.hid (blk_below Vx.out hb (blk_lt Vx.out))
    replace Vg := Lib.hid (blk_below Vg.out hb (blk_lt Vg.out))
    replace Vu := Lib.hid (blk_below Vu.out hb (blk_lt Vu.out))
    replace HB := Lib.hid (And.intro (HB.out.1.trans (hb.mono HB.out.2)) (Nat.le_trans HB.out.2 hb.size))
    replace hS := Lib.hid (And.intro (Vx.out) (Vf.out))
    clear hb
    go_wp2_with fail
    refine Shut.out hK _ _ hS (fun _ => ?_)
    clear hK K
    try simp only [Act.put, List.setIfInBounds_toArray, List.set_cons_zero, List.set_cons_succ]
    refine wpAnyH_ready (rs := [3]) (by kernel_rfl) (by simp) (AllReadyH.cons (o := ⟨some 31, .call { callee := .value (.func 25), args := #[.tmp 28, .tmp 30], argTypes := #[29, 31] }, 39, "ref.go:73", #[⟨0, .data⟩, ⟨2, .data⟩, ⟨2, .chain⟩], none⟩) rfl (fun K hK => ?_) AllReadyH.nil)
    go_simp
    refine (on16_any _ _ _ _ _ _ _ _ _ _ _ _ _ _ _ _ _ _ _ _ _ _ _ _ _ _).mono ?_; rintro e u3 ⟨rfl, hb⟩
    replace Vo := Lib.hid (blk_below Vo.out hb (blk_lt Vo.out))
    replace Vf := Lib.hid (blk_below Vf.out hb (blk_lt Vf.out))
    replace Vro := Lib.hid (blk_below Vro.out hb (blk_lt Vro.out))
    replace Vrf := Lib.hid (blk_below Vrf.out hb (blk_lt Vrf.out))
    replace Vra := Lib.hid (blk_below Vra.out hb (blk_lt Vra.out))
    replace Vx := Lib.hid (blk_below Vx.out hb (blk_lt Vx.out))
    replace Vg := Lib.hid (blk_below Vg.out hb (blk_lt Vg.out))
    replace Vu := Lib.hid (blk_below Vu.out hb (blk_lt Vu.out))
    replace HB := Lib.hid (And.intro (HB.out.1.trans (hb.mono HB.out.2)) (Nat.le_trans HB.out.2 hb.size))
    replace hS := Lib.hid (And.intro (Vx.out) (Vf.out))
    clear hb
    obtain ⟨w4, hw4⟩ : ∃ W, u3.setCells (w.heap.size + 2) 0 [.int .i64 kd, .int .i64 z, .int .i64 o1, .int .i64 o2, .int .i64 o3, .int .i64 o4, .int .i64 o5, .int .u32 wa, .int .u32 to, .slice A n c, .slice B m d] = W := ⟨_, rfl⟩
    have thro := Lib.hid (there_blk Vro.out (k := 11) rfl)
    replace Vo := Lib.hid (stayS hw4 neo_ro Vo.out)
    replace Vf := Lib.hid (stayS hw4 nef_ro Vf.out)
    replace Vrf := Lib.hid (stayS hw4 nero_rf.symm Vrf.out)
    replace Vra := Lib.hid (stayS hw4 nero_ra.symm Vra.out)
    replace Vx := Lib.hid (stayS hw4 nero_x.symm Vx.out)
    replace Vg := Lib.hid (stayS hw4 nero_g.symm Vg.out)
    replace Vu := Lib.hid (stayS hw4 nero_u.symm Vu.out)
    replace Vro := Lib.hid (setS hw4 Vro.out rfl)
    replace HB := Lib.hid (belS hw4 gero HB.out)
    have S1 := Lib.hid (And.intro (Vx.out) (Vf.out))
    obtain ⟨w5, hw5⟩ : ∃ W, w4.setCells (w.heap.size + 3) 0 [.int .i64 op, .int .i64 1, .int .i64 0, .int .i64 0, .int .i64 (-1), .int .i64 0, .bool false, .bool false, .int .i64 0, .bool false] = W := ⟨_, rfl⟩
    have thrf := Lib.hid (there_blk Vrf.out (k := 10) rfl)
    replace Vo := Lib.hid (stayS hw5 neo_rf Vo.out)
    replace Vf := Lib.hid (stayS hw5 nef_rf Vf.out)
    replace Vro := Lib.hid (stayS hw5 nero_rf Vro.out)
    replace Vra := Lib.hid (stayS hw5 nerf_ra.symm Vra.out)
    replace Vx := Lib.hid (stayS hw5 nerf_x.symm Vx.out)
    replace Vg := Lib.hid (stayS hw5 nerf_g.symm Vg.out)
    replace Vu := Lib.hid (stayS hw5 nerf_u.symm Vu.out)
    replace Vrf := Lib.hid (setS hw5 Vrf.out rfl)
    replace HB := Lib.hid (belS hw5 gerf HB.out)
    have S2 := Lib.hid (And.intro (Vx.out) (Vf.out))
    obtain ⟨w6, hw6⟩ : ∃ W, w5.setCells (w.heap.size + 4) 0 [.bool false, .bool false, .bool false, .int .i64 0, .int .i64 0, .int .u64 0, .slice none 0 0] = W := ⟨_, rfl⟩
    have thra := Lib.hid (there_blk Vra.out (k := 7) rfl)
    replace Vo := Lib.hid (stayS hw6 neo_ra Vo.out)
    replace Vf := Lib.hid (stayS hw6 nef_ra Vf.out)
    replace Vro := Lib.hid (stayS hw6 nero_ra Vro.out)
    replace Vrf := Lib.hid (stayS hw6 nerf_ra Vrf.out)
    replace Vx := Lib.hid (stayS hw6 nera_x.symm Vx.out)
    replace Vg := Lib.hid (stayS hw6 nera_g.symm Vg.out)
    replace Vu := Lib.hid (stayS hw6 nera_u.symm Vu.out)
    replace Vra := Lib.hid (setS hw6 Vra.out rfl)
    replace HB := Lib.hid (belS hw6 gera HB.out)
    have S3 := Lib.hid (And.intro (Vx.out) (Vf.out))
    go_wp2_with fail
    refine Shut.out hK _ _ hS (fun _ => ?_)
    clear hK K
    try simp only [Act.put, List.setIfInBounds_toArray, List.set_cons_zero, List.set_cons_succ]
    refine wpAnyH_take (i := 4) (oi := ⟨some 32, .extract (.tmp 31) 0, 29, "ref.go:73", #[⟨3, .data⟩], none⟩) (v := ?_) rfl (by kernel_rfl) (by kernel_rfl) (by kernel_rfl) (fun _ _ _ h => h) (Or.inl ⟨by rfl, ?_⟩) hS ?_
    rotate_left
    · intro wv _; go_simp; try with_reducible rfl
    try simp only [Act.put, List.setIfInBounds_toArray, List.set_cons_zero, List.set_cons_succ]
    refine wpAnyH_take (i := 5) (oi := ⟨some 33, .extract (.tmp 31) 1, 31, "ref.go:73", #[⟨3, .data⟩], none⟩) (v := ?_) rfl (by kernel_rfl) (by kernel_rfl) (by kernel_rfl) (fun _ _ _ h => h) (Or.inl ⟨by rfl, ?_⟩) hS ?_
    rotate_left
    · intro wv _; go_simp; try with_reducible rfl
    try simp only [Act.put, List.setIfInBounds_toArray, List.set_cons_zero, List.set_cons_succ]
    refine wpAnyH_take (i := 6) (oi := ⟨some 34, .extract (.tmp 31) 2, 38, "ref.go:73", #[⟨3, .data⟩], none⟩) (v := ?_) rfl (by kernel_rfl) (by kernel_rfl) (by kernel_rfl) (fun _ _ _ h => h) (Or.inl ⟨by rfl, ?_⟩) hS ?_
    rotate_left
    · intro wv _; go_simp; try with_reducible rfl
    try simp only [Act.put, List.setIfInBounds_toArray, List.set_cons_zero, List.set_cons_succ]
    refine wpAnyH_ready (rs := [7]) (by kernel_rfl) (by simp) (AllReadyH.cons (o := ⟨none, .store 29 (.tmp 8) (.tmp 32), 0, "ref.go:73", #[⟨4, .data⟩, ⟨3, .chain⟩, ⟨0, .phase⟩, ⟨1, .phase⟩, ⟨2, .phase⟩, ⟨3, .phase⟩, ⟨4, .phase⟩, ⟨5, .phase⟩, ⟨6, .phase⟩], none⟩) rfl (fun K hK => ?_) AllReadyH.nil)
    refine op_storeS (by rfl) rfl rfl rfl thro.out (by kernel_rfl) (by simp [Value.oneCell']) hw4 ?_
    replace hS := S1
    refine Shut.out hK _ _ hS (fun _ => ?_)
    clear hK K
    try simp only [Act.put, List.setIfInBounds_toArray, List.set_cons_zero, List.set_cons_succ]
    refine wpAnyH_ready (rs := [8]) (by kernel_rfl) (by simp) (AllReadyH.cons (o := ⟨none, .store 31 (.tmp 9) (.tmp 33), 0, "ref.go:73", #[⟨5, .data⟩, ⟨7, .chain⟩, ⟨0, .phase⟩, ⟨1, .phase⟩, ⟨2, .phase⟩, ⟨3, .phase⟩, ⟨4, .phase⟩, ⟨5, .phase⟩, ⟨6, .phase⟩, ⟨7, .phase⟩], none⟩) rfl (fun K hK => ?_) AllReadyH.nil)
    refine op_storeS (by rfl) rfl rfl rfl thrf.out (by kernel_rfl) (by simp [Value.oneCell']) hw5 ?_
    replace hS := S2
    refine Shut.out hK _ _ hS (fun _ => ?_)
    clear hK K
    try simp only [Act.put, List.setIfInBounds_toArray, List.set_cons_zero, List.set_cons_succ]
    refine wpAnyH_ready (rs := [9]) (by kernel_rfl) (by simp) (AllReadyH.cons (o := ⟨none, .store 38 (.tmp 10) (.tmp 34), 0, "ref.go:73", #[⟨6, .data⟩, ⟨8, .chain⟩, ⟨0, .phase⟩, ⟨1, .phase⟩, ⟨2, .phase⟩, ⟨3, .phase⟩, ⟨4, .phase⟩, ⟨5, .phase⟩, ⟨6, .phase⟩, ⟨7, .phase⟩, ⟨8, .phase⟩], none⟩) rfl (fun K hK => ?_) AllReadyH.nil)
    refine op_storeS (by rfl) rfl rfl rfl thra.out (by kernel_rfl) (by simp [Value.oneCell']) hw6 ?_
    replace hS := S3
    refine Shut.out hK _ _ hS (fun _ => ?_)
    clear hK K
    try simp only [Act.put, List.setIfInBounds_toArray, List.set_cons_zero, List.set_cons_succ]
    refine wpAnyH_done (by kernel_rfl) ?_ _
    refine NoPanic.normal ?_
    clear hS S0 S1 S2 S3 thro thrf thra
    go_wp2
    refine bodyPost_ret (res_ccc Try.results17 (by rfl) (by rfl) (by rfl) (load_blk Vro.out Try.underlying29 (by kernel_rfl)) (load_blk Vrf.out Try.underlying31 (by kernel_rfl)) (load_blk Vra.out Try.underlying38 (by kernel_rfl))) rfl ?_
    rw [HE.out]
    exact ⟨rfl, HB.out.1⟩
set_option maxRecDepth 100000 in
set_option maxHeartbeats 16000000 in
theorem wlock16_any (kd o0 o1 o2 o3 o4 o5 wa to : Int) (A : Option Addr) (n c : Nat) (B : Option Addr) (m d : Nat) (f : MFr) (now pat : Int) (w : World) : Calls Try.prog 17 #[obV kd o0 o1 o2 o3 o4 o5 wa to A n c B m d, frV f, .int .i64 now, .int .i64 pat] w (StepR w kd o1 o2 o3 wa to A n c B m d (wlockW o0 o4 o5 f now pat)) := by
  by_cases hz : f.stage = 0
  · exact wlock16_zero kd o0 o1 o2 o3 o4 o5 wa to A n c B m d f hz now pat w
  obtain ⟨op, stage, phase, old, since, left, awoke, starve, need, front⟩ := f
  have s0 : ¬ stage = 0 := hz
  clear hz
  have n0 : (stage == 0) = false := by simp [s0]
  unfold obV frV frC
  simp only
  obtain ⟨v1, hv1, z1, v2, hv2, z2, v3, hv3, z3, v4, hv4, z4, v5, hv5, z5, F⟩ := boxes5 w (.cells #[.int .i64 kd, .int .i64 o0, .int .i64 o1, .int .i64 o2, .int .i64 o3, .int .i64 o4, .int .i64 o5, .int .u32 wa, .int .u32 to, .slice A n c, .slice B m d] 29) (.cells #[.int .i64 op, .int .i64 stage, .int .i64 phase, .int .i64 old, .int .i64 since, .int .i64 left, .bool awoke, .bool starve, .int .i64 need, .bool front] 31) (.cells #[.int .i64 0, .int .i64 0, .int .i64 0, .int .i64 0, .int .i64 0, .int .i64 0, .int .i64 0, .int .u32 0, .int .u32 0, .slice none 0 0, .slice none 0 0] 29) (.cells #[.int .i64 0, .int .i64 0, .int .i64 0, .int .i64 0, .int .i64 0, .int .i64 0, .bool false, .bool false, .int .i64 0, .bool false] 31) (.cells #[.bool false, .bool false, .bool false, .int .i64 0, .int .i64 0, .int .u64 0, .slice none 0 0] 38)
  generalize hq : w.heap.size = q at *
  have FR := Lib.hid F
  clear F
  by_cases s1 : stage = 1
  · subst s1
    obtain ⟨x, hx⟩ : ∃ x, IntKind.i64.wrap (o4 - 1048576) = x := ⟨_, rfl⟩
    have HO : wlockW o0 o4 o5 ⟨op, 1, phase, old, since, left, awoke, starve, need, front⟩ now pat = (if o4 = 0 then ((o0, x, o5), noF, doneA) else ((o0, x, o5), ⟨op, 2, phase, old, since, o4, awoke, starve, need, front⟩, noA)) := by
      unfold wlockW
      rw [if_neg (show ¬ ((1 : Int) = 0) by decide), if_pos rfl, hx]
    clear s0 n0
    by_cases h0 : o4 = 0
    · have c0 : (o4 == 0) = true := by simp [h0]
      have HE := Lib.hid (HO.trans (if_pos h0))
      clear HO h0
      go_enter Try.func17, Try.ntmps17
      have ac0 := row11 (b := q) (FR.out.at 0 rfl rfl)
      have ac1 := row10 (b := q + 1) (FR.out.at 1 rfl rfl)
      have af11 : v5.frozen? ⟨q + 1, 1, none⟩ = false := FR.out.frozen 1 1 rfl rfl
      have af15 : v5.frozen? ⟨q + 1, 5, none⟩ = false := FR.out.frozen 1 5 rfl rfl
      obtain ⟨w6p, hw6p⟩ : ∃ W, ((v5.setCell ⟨q + 1, 5, none⟩ (.int .i64 o4)).setCell ⟨q + 1, 1, none⟩ (.int .i64 2)) = W := ⟨_, rfl⟩
      replace FR := Lib.hid ((((FR.out.set 1 5 rfl rfl (.int .i64 o4)).set 1 1 rfl rfl (.int .i64 2))).eqw hw6p)
      have bc0 := row11 (b := q) (FR.out.at 0 rfl rfl)
      have bf05 : w6p.frozen? ⟨q, 5, none⟩ = false := FR.out.frozen 0 5 rfl rfl
      have bc1 := row10 (b := q + 1) (FR.out.at 1 rfl rfl)
      obtain ⟨w7p, hw7p⟩ : ∃ W, (w6p.setCell ⟨q, 5, none⟩ (.int .i64 x)) = W := ⟨_, rfl⟩
      replace FR := Lib.hid (((FR.out.set 0 5 rfl rfl (.int .i64 x))).eqw hw7p)
      have cc0 := row11 (b := q) (FR.out.at 0 rfl rfl)
      have cc1 := row10 (b := q + 1) (FR.out.at 1 rfl rfl)
      go_wp2_with fail
      refine (over16_any _ _ _ _ _ _ _ _ _ _ _ _ _ _ _ _).mono ?_
      rintro e w7 ⟨rfl, hb⟩
      clear ac0 ac1 af11 af15 bc0 bf05 bc1 cc0 cc1
      clear hw6p hw7p
      replace FR := Lib.hid (FR.out.step hb)
      clear hb
      obtain ⟨mw8r, w8r, hw8r, hse, F⟩ := FR.out.put11 2 rfl (b := q + 2) rfl (.int .i64 kd) (.int .i64 o0) (.int .i64 o1) (.int .i64 o2) (.int .i64 o3) (.int .i64 x) (.int .i64 o5) (.int .u32 wa) (.int .u32 to) (.slice A n c) (.slice B m d)
      replace FR := F
      clear F hse
      obtain ⟨mw9r, w9r, hw9r, hse, F⟩ := FR.out.put10 3 rfl (b := q + 3) rfl (.int .i64 0) (.int .i64 0) (.int .i64 0) (.int .i64 0) (.int .i64 0) (.int .i64 0) (.bool false) (.bool false) (.int .i64 0) (.bool false)
      replace FR := F
      clear F hse
      obtain ⟨mw10r, w10r, hw10r, hse, F⟩ := FR.out.put7 4 rfl (b := q + 4) rfl (.bool true) (.bool false) (.bool false) (.int .i64 0) (.int .i64 0) (.int .u64 0) (.slice none 0 0)
      replace FR := F
      clear F hse
      go_wp2
      refine bodyPost_ret (res_ccc Try.results17 (by rfl) (by rfl) (by rfl) (FR.out.load 2 rfl rfl Try.underlying29 (by kernel_rfl)) (FR.out.load 3 rfl rfl Try.underlying31 (by kernel_rfl)) (FR.out.load 4 rfl rfl Try.underlying38 (by kernel_rfl))) rfl ?_
      rw [HE.out]
      exact ⟨rfl, FR.out.out⟩
    · have c0 : (o4 == 0) = false := by simp [h0]
      have HE := Lib.hid (HO.trans (if_neg h0))
      clear HO h0
      go_enter Try.func17, Try.ntmps17
      have ac0 := row11 (b := q) (FR.out.at 0 rfl rfl)
      have ac1 := row10 (b := q + 1) (FR.out.at 1 rfl rfl)
      have af11 : v5.frozen? ⟨q + 1, 1, none⟩ = false := FR.out.frozen 1 1 rfl rfl
      have af15 : v5.frozen? ⟨q + 1, 5, none⟩ = false := FR.out.frozen 1 5 rfl rfl
      obtain ⟨w6p, hw6p⟩ : ∃ W, ((v5.setCell ⟨q + 1, 5, none⟩ (.int .i64 o4)).setCell ⟨q + 1, 1, none⟩ (.int .i64 2)) = W := ⟨_, rfl⟩
      replace FR := Lib.hid ((((FR.out.set 1 5 rfl rfl (.int .i64 o4)).set 1 1 rfl rfl (.int .i64 2))).eqw hw6p)
      have bc0 := row11 (b := q) (FR.out.at 0 rfl rfl)
      have bf05 : w6p.frozen? ⟨q, 5, none⟩ = false := FR.out.frozen 0 5 rfl rfl
      have bc1 := row10 (b := q + 1) (FR.out.at 1 rfl rfl)
      obtain ⟨w7p, hw7p⟩ : ∃ W, (w6p.setCell ⟨q, 5, none⟩ (.int .i64 x)) = W := ⟨_, rfl⟩
      replace FR := Lib.hid (((FR.out.set 0 5 rfl rfl (.int .i64 x))).eqw hw7p)
      have cc0 := row11 (b := q) (FR.out.at 0 rfl rfl)
      have cc1 := row10 (b := q + 1) (FR.out.at 1 rfl rfl)
      go_wp2_with fail
      refine (on16_any _ _ _ _ _ _ _ _ _ _ _ _ _ _ _ _ _ _ _ _ _ _ _ _ _ _).mono ?_
      rintro e w7 ⟨rfl, hb⟩
      clear ac0 ac1 af11 af15 bc0 bf05 bc1 cc0 cc1
      clear hw6p hw7p
      replace FR := Lib.hid (FR.out.step hb)
      clear hb
      obtain ⟨mw8r, w8r, hw8r, hse, F⟩ := FR.out.put11 2 rfl (b := q + 2) rfl (.int .i64 kd) (.int .i64 o0) (.int .i64 o1) (.int .i64 o2) (.int .i64 o3) (.int .i64 x) (.int .i64 o5) (.int .u32 wa) (.int .u32 to) (.slice A n c) (.slice B m d)
      replace FR := F
      clear F hse
      obtain ⟨mw9r, w9r, hw9r, hse, F⟩ := FR.out.put10 3 rfl (b := q + 3) rfl (.int .i64 op) (.int .i64 2) (.int .i64 phase) (.int .i64 old) (.int .i64 since) (.int .i64 o4) (.bool awoke) (.bool starve) (.int .i64 need) (.bool front)
      replace FR := F
      clear F hse
      obtain ⟨mw10r, w10r, hw10r, hse, F⟩ := FR.out.put7 4 rfl (b := q + 4) rfl (.bool false) (.bool false) (.bool false) (.int .i64 0) (.int .i64 0) (.int .u64 0) (.slice none 0 0)
      replace FR := F
      clear F hse
      go_wp2
      refine bodyPost_ret (res_ccc Try.results17 (by rfl) (by rfl) (by rfl) (FR.out.load 2 rfl rfl Try.underlying29 (by kernel_rfl)) (FR.out.load 3 rfl rfl Try.underlying31 (by kernel_rfl)) (FR.out.load 4 rfl rfl Try.underlying38 (by kernel_rfl))) rfl ?_
      rw [HE.out]
      exact ⟨rfl, FR.out.out⟩
  have n1 : (stage == 1) = false := by simp [s1]
  by_cases s2 : stage = 2
  · subst s2
    obtain ⟨x, hx⟩ : ∃ x, IntKind.i64.wrap (o5 + left) = x := ⟨_, rfl⟩
    have HO : wlockW o0 o4 o5 ⟨op, 2, phase, old, since, left, awoke, starve, need, front⟩ now pat = (if x = 0 then ((o0, o4, x), noF, doneA) else ((o0, o4, x), ⟨op, 3, phase, old, since, left, awoke, starve, 3, front⟩, noA)) := by
      unfold wlockW
      rw [if_neg (show ¬ ((2 : Int) = 0) by decide), if_neg (show ¬ ((2 : Int) = 1) by decide), if_pos rfl, hx]
    clear s0 n0 s1 n1
    by_cases h0 : x = 0
    · have c0 : (x == 0) = true := by simp [h0]
      have HE := Lib.hid (HO.trans (if_pos h0))
      clear HO h0
      go_enter Try.func17, Try.ntmps17
      have ac0 := row11 (b := q) (FR.out.at 0 rfl rfl)
      have af06 : v5.frozen? ⟨q, 6, none⟩ = false := FR.out.frozen 0 6 rfl rfl
      have ac1 := row10 (b := q + 1) (FR.out.at 1 rfl rfl)
      obtain ⟨w6p, hw6p⟩ : ∃ W, (v5.setCell ⟨q, 6, none⟩ (.int .i64 x)) = W := ⟨_, rfl⟩
      replace FR := Lib.hid (((FR.out.set 0 6 rfl rfl (.int .i64 x))).eqw hw6p)
      have bc0 := row11 (b := q) (FR.out.at 0 rfl rfl)
      have bc1 := row10 (b := q + 1) (FR.out.at 1 rfl rfl)
      go_wp2_with fail
      refine (over16_any _ _ _ _ _ _ _ _ _ _ _ _ _ _ _ _).mono ?_
      rintro e w7 ⟨rfl, hb⟩
      clear ac0 af06 ac1 bc0 bc1
      clear hw6p
      replace FR := Lib.hid (FR.out.step hb)
      clear hb
      obtain ⟨mw7r, w7r, hw7r, hse, F⟩ := FR.out.put11 2 rfl (b := q + 2) rfl (.int .i64 kd) (.int .i64 o0) (.int .i64 o1) (.int .i64 o2) (.int .i64 o3) (.int .i64 o4) (.int .i64 x) (.int .u32 wa) (.int .u32 to) (.slice A n c) (.slice B m d)
      replace FR := F
      clear F hse
      obtain ⟨mw8r, w8r, hw8r, hse, F⟩ := FR.out.put10 3 rfl (b := q + 3) rfl (.int .i64 0) (.int .i64 0) (.int .i64 0) (.int .i64 0) (.int .i64 0) (.int .i64 0) (.bool false) (.bool false) (.int .i64 0) (.bool false)
      replace FR := F
      clear F hse
      obtain ⟨mw9r, w9r, hw9r, hse, F⟩ := FR.out.put7 4 rfl (b := q + 4) rfl (.bool true) (.bool false) (.bool false) (.int .i64 0) (.int .i64 0) (.int .u64 0) (.slice none 0 0)
      replace FR := F
      clear F hse
      go_wp2
      refine bodyPost_ret (res_ccc Try.results17 (by rfl) (by rfl) (by rfl) (FR.out.load 2 rfl rfl Try.underlying29 (by kernel_rfl)) (FR.out.load 3 rfl rfl Try.underlying31 (by kernel_rfl)) (FR.out.load 4 rfl rfl Try.underlying38 (by kernel_rfl))) rfl ?_
      rw [HE.out]
      exact ⟨rfl, FR.out.out⟩
    · have c0 : (x == 0) = false := by simp [h0]
      have HE := Lib.hid (HO.trans (if_neg h0))
      clear HO h0
      go_enter Try.func17, Try.ntmps17
      have ac0 := row11 (b := q) (FR.out.at 0 rfl rfl)
      have af06 : v5.frozen? ⟨q, 6, none⟩ = false := FR.out.frozen 0 6 rfl rfl
      have ac1 := row10 (b := q + 1) (FR.out.at 1 rfl rfl)
      obtain ⟨w6p, hw6p⟩ : ∃ W, (v5.setCell ⟨q, 6, none⟩ (.int .i64 x)) = W := ⟨_, rfl⟩
      replace FR := Lib.hid (((FR.out.set 0 6 rfl rfl (.int .i64 x))).eqw hw6p)
      have bc0 := row11 (b := q) (FR.out.at 0 rfl rfl)
      have bc1 := row10 (b := q + 1) (FR.out.at 1 rfl rfl)
      have bf11 : w6p.frozen? ⟨q + 1, 1, none⟩ = false := FR.out.frozen 1 1 rfl rfl
      have bf18 : w6p.frozen? ⟨q + 1, 8, none⟩ = false := FR.out.frozen 1 8 rfl rfl
      obtain ⟨w7p, hw7p⟩ : ∃ W, ((w6p.setCell ⟨q + 1, 1, none⟩ (.int .i64 3)).setCell ⟨q + 1, 8, none⟩ (.int .i64 3)) = W := ⟨_, rfl⟩
      replace FR := Lib.hid ((((FR.out.set 1 1 rfl rfl (.int .i64 3)).set 1 8 rfl rfl (.int .i64 3))).eqw hw7p)
      have cc0 := row11 (b := q) (FR.out.at 0 rfl rfl)
      have cc1 := row10 (b := q + 1) (FR.out.at 1 rfl rfl)
      go_wp2_with fail
      refine (on16_any _ _ _ _ _ _ _ _ _ _ _ _ _ _ _ _ _ _ _ _ _ _ _ _ _ _).mono ?_
      rintro e w7 ⟨rfl, hb⟩
      clear ac0 af06 ac1 bc0 bc1 bf11 bf18 cc0 cc1
      clear hw6p hw7p
      replace FR := Lib.hid (FR.out.step hb)
      clear hb
      obtain ⟨mw8r, w8r, hw8r, hse, F⟩ := FR.out.put11 2 rfl (b := q + 2) rfl (.int .i64 kd) (.int .i64 o0) (.int .i64 o1) (.int .i64 o2) (.int .i64 o3) (.int .i64 o4) (.int .i64 x) (.int .u32 wa) (.int .u32 to) (.slice A n c) (.slice B m d)
      replace FR := F
      clear F hse
      obtain ⟨mw9r, w9r, hw9r, hse, F⟩ := FR.out.put10 3 rfl (b := q + 3) rfl (.int .i64 op) (.int .i64 3) (.int .i64 phase) (.int .i64 old) (.int .i64 since) (.int .i64 left) (.bool awoke) (.bool starve) (.int .i64 3) (.bool front)
      replace FR := F
      clear F hse
      obtain ⟨mw10r, w10r, hw10r, hse, F⟩ := FR.out.put7 4 rfl (b := q + 4) rfl (.bool false) (.bool false) (.bool false) (.int .i64 0) (.int .i64 0) (.int .u64 0) (.slice none 0 0)
      replace FR := F
      clear F hse
      go_wp2
      refine bodyPost_ret (res_ccc Try.results17 (by rfl) (by rfl) (by rfl) (FR.out.load 2 rfl rfl Try.underlying29 (by kernel_rfl)) (FR.out.load 3 rfl rfl Try.underlying31 (by kernel_rfl)) (FR.out.load 4 rfl rfl Try.underlying38 (by kernel_rfl))) rfl ?_
      rw [HE.out]
      exact ⟨rfl, FR.out.out⟩
  have n2 : (stage == 2) = false := by simp [s2]
  by_cases s3 : stage = 3
  · subst s3
    have HE := Lib.hid (show wlockW o0 o4 o5 ⟨op, 3, phase, old, since, left, awoke, starve, need, front⟩ now pat = ((o0, o4, o5), noF, doneA) from by
      unfold wlockW
      rw [if_neg (show ¬ ((3 : Int) = 0) by decide), if_neg (show ¬ ((3 : Int) = 1) by decide), if_neg (show ¬ ((3 : Int) = 2) by decide), if_pos rfl])
    clear s0 s1 s2 n0 n1 n2
    go_enter Try.func17, Try.ntmps17
    have ac0 := row11 (b := q) (FR.out.at 0 rfl rfl)
    have ac1 := row10 (b := q + 1) (FR.out.at 1 rfl rfl)
    go_wp2_with fail
    refine (over16_any _ _ _ _ _ _ _ _ _ _ _ _ _ _ _ _).mono ?_
    rintro e w7 ⟨rfl, hb⟩
    clear ac0 ac1
    replace FR := Lib.hid (FR.out.step hb)
    clear hb
    obtain ⟨mw6r, w6r, hw6r, hse, F⟩ := FR.out.put11 2 rfl (b := q + 2) rfl (.int .i64 kd) (.int .i64 o0) (.int .i64 o1) (.int .i64 o2) (.int .i64 o3) (.int .i64 o4) (.int .i64 o5) (.int .u32 wa) (.int .u32 to) (.slice A n c) (.slice B m d)
    replace FR := F
    clear F hse
    obtain ⟨mw7r, w7r, hw7r, hse, F⟩ := FR.out.put10 3 rfl (b := q + 3) rfl (.int .i64 0) (.int .i64 0) (.int .i64 0) (.int .i64 0) (.int .i64 0) (.int .i64 0) (.bool false) (.bool false) (.int .i64 0) (.bool false)
    replace FR := F
    clear F hse
    obtain ⟨mw8r, w8r, hw8r, hse, F⟩ := FR.out.put7 4 rfl (b := q + 4) rfl (.bool true) (.bool false) (.bool false) (.int .i64 0) (.int .i64 0) (.int .u64 0) (.slice none 0 0)
    replace FR := F
    clear F hse
    go_wp2
    refine bodyPost_ret (res_ccc Try.results17 (by rfl) (by rfl) (by rfl) (FR.out.load 2 rfl rfl Try.underlying29 (by kernel_rfl)) (FR.out.load 3 rfl rfl Try.underlying31 (by kernel_rfl)) (FR.out.load 4 rfl rfl Try.underlying38 (by kernel_rfl))) rfl ?_
    rw [HE.out]
    exact ⟨rfl, FR.out.out⟩
  have n3 : (stage == 3) = false := by simp [s3]
  have HE := Lib.hid (show wlockW o0 o4 o5 ⟨op, stage, phase, old, since, left, awoke, starve, need, front⟩ now pat = ((o0, o4, o5), ⟨op, stage, phase, old, since, left, awoke, starve, need, front⟩, noA) from by
    unfold wlockW
    rw [if_neg s0, if_neg s1, if_neg s2, if_neg s3])
  clear s0 s1 s2 s3
  go_enter Try.func17, Try.ntmps17
  have ac0 := row11 (b := q) (FR.out.at 0 rfl rfl)
  have ac1 := row10 (b := q + 1) (FR.out.at 1 rfl rfl)
  go_wp2_with fail
  refine (on16_any _ _ _ _ _ _ _ _ _ _ _ _ _ _ _ _ _ _ _ _ _ _ _ _ _ _).mono ?_
  rintro e w7 ⟨rfl, hb⟩
  clear ac0 ac1
  replace FR := Lib.hid (FR.out.step hb)
  clear hb
  obtain ⟨mw6r, w6r, hw6r, hse, F⟩ := FR.out.put11 2 rfl (b := q + 2) rfl (.int .i64 kd) (.int .i64 o0) (.int .i64 o1) (.int .i64 o2) (.int .i64 o3) (.int .i64 o4) (.int .i64 o5) (.int .u32 wa) (.int .u32 to) (.slice A n c) (.slice B m d)
  replace FR := F
  clear F hse
  obtain ⟨mw7r, w7r, hw7r, hse, F⟩ := FR.out.put10 3 rfl (b := q + 3) rfl (.int .i64 op) (.int .i64 stage) (.int .i64 phase) (.int .i64 old) (.int .i64 since) (.int .i64 left) (.bool awoke) (.bool starve) (.int .i64 need) (.bool front)
  replace FR := F
  clear F hse
  obtain ⟨mw8r, w8r, hw8r, hse, F⟩ := FR.out.put7 4 rfl (b := q + 4) rfl (.bool false) (.bool false) (.bool false) (.int .i64 0) (.int .i64 0) (.int .u64 0) (.slice none 0 0)
  replace FR := F
  clear F hse
  go_wp2
  refine bodyPost_ret (res_ccc Try.results17 (by rfl) (by rfl) (by rfl) (FR.out.load 2 rfl rfl Try.underlying29 (by kernel_rfl)) (FR.out.load 3 rfl rfl Try.underlying31 (by kernel_rfl)) (FR.out.load 4 rfl rfl Try.underlying38 (by kernel_rfl))) rfl ?_
  rw [HE.out]
  exact ⟨rfl, FR.out.out⟩
end Go.Proofs.Ytpkegfochfkkcaa
