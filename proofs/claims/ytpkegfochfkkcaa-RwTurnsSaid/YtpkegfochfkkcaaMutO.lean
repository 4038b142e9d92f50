/- Layer 15: what the landed mutex's own Lock, Unlock, Locked and Begin answer; for lists of up to 16384, a word within 64 bits where it is unlocked. -/
import Derived.Test.YtpkegfochfkkcaaMutG
namespace Go.Proofs.Ytpkegfochfkkcaa
set_option linter.unusedVariables false
set_option linter.unusedSimpArgs false
open Go.RowKit
/-- a step's object, whose lists are the call's own, frame and act. -/
def CopC (w : World) (kd o1 o2 o3 o4 o5 wa to : Int) (A : Option Addr) (n : Nat) (B : Option Addr) (m : Nat) (nl : List Wt) (ll : List Cl) (r : Int × MFr × MAct) (e : Ending) (w' : World) : Prop :=
  ∃ A2 c2 B2 d2, e = .returned (.tuple #[obV kd r.1 o1 o2 o3 o4 o5 wa to A2 n c2 B2 m d2, frV r.2.1, acV r.2.2]) ∧ w'.ownsRow w.heap.size 67 2 (.slice A2 n c2) n (wtC nl) ∧ w'.ownsRow w.heap.size 62 2 (.slice B2 m d2) m (clC ll) ∧ Below w.heap.size w w' ∧ (A = none → A2 = none ∧ c2 = 0) ∧ (B = none → B2 = none ∧ d2 = 0)
set_option maxRecDepth 100000 in
set_option maxHeartbeats 16000000 in
theorem muBegin_any (op : Int) (w : World) : Calls Try.prog 43 #[.int .i64 op] w (fun e w' => e = .returned (frV (beginF op)) ∧ Below w.heap.size w w') := by
  obtain ⟨v1, hv1, z1, F⟩ := boxes1 w (.cells #[.int .i64 0, .int .i64 0, .int .i64 0, .int .i64 0, .int .i64 0, .int .i64 0, .bool false, .bool false, .int .i64 0, .bool false] 31)
  generalize hq : w.heap.size = q at *
  have FR := Lib.hid F
  clear F
  go_enter Try.func43, Try.ntmps43
  obtain ⟨mw2r, w2r, hw2r, hse, F⟩ := FR.out.put10 0 rfl (b := q) rfl (.int .i64 op) (.int .i64 0) (.int .i64 0) (.int .i64 0) (.int .i64 (-1)) (.int .i64 0) (.bool false) (.bool false) (.int .i64 0) (.bool false)
  replace FR := F
  clear F hse
  go_wp2
  refine bodyPost_ret (res_c Try.results43 (by rfl) (FR.out.load 0 rfl rfl Try.underlying31 (by kernel_rfl))) rfl ?_
  exact ⟨rfl, FR.out.bel⟩
set_option maxRecDepth 100000 in
set_option maxHeartbeats 16000000 in
theorem muLock_any (kd o0 o1 o2 o3 o4 o5 wa to : Int) (A : Option Addr) (n c : Nat) (B : Option Addr) (m d : Nat) (nl : List Wt) (ll : List Cl) (f : MFr) (now pat : Int) (w : World) (hx : Wts w A n c nl) (hy : Cls w B m d ll) (hn : n ≤ 16384) (hm : m ≤ 16384) : Calls Try.prog 44 #[obV kd o0 o1 o2 o3 o4 o5 wa to A n c B m d, frV f, .int .i64 now, .int .i64 pat] w (CopC w kd o1 o2 o3 o4 o5 wa to A n B m nl ll (lockM o0 f now pat)) := by
  have RX := Lib.hid hx; have RY := Lib.hid hy
  have CP := Lib.hid (fun (W : World) (h1 : Wts W A n c nl) (h2 : Cls W B m d ll) => muCopied_any kd o0 o1 o2 o3 o4 o5 wa to A n c B m d nl ll W h1 h2 hn hm)
  clear hx hy hn hm
  obtain ⟨op, stage, phase, old, since, left, awoke, starve, need, front⟩ := f
  unfold obV frV frC
  simp only
  obtain ⟨v1, hv1, z1, v2, hv2, z2, v3, hv3, z3, v4, hv4, z4, v5, hv5, z5, v6, hv6, z6, F⟩ := boxes6 w (.cells #[.int .i64 kd, .int .i64 o0, .int .i64 o1, .int .i64 o2, .int .i64 o3, .int .i64 o4, .int .i64 o5, .int .u32 wa, .int .u32 to, .slice A n c, .slice B m d] 29) (.cells #[.int .i64 op, .int .i64 stage, .int .i64 phase, .int .i64 old, .int .i64 since, .int .i64 left, .bool awoke, .bool starve, .int .i64 need, .bool front] 31) (.cells #[.int .i64 0, .int .i64 0, .int .i64 0, .int .i64 0, .int .i64 0, .int .i64 0, .int .i64 0, .int .u32 0, .int .u32 0, .slice none 0 0, .slice none 0 0] 29) (.cells #[.int .i64 0, .int .i64 0, .int .i64 0, .int .i64 0, .int .i64 0, .int .i64 0, .bool false, .bool false, .int .i64 0, .bool false] 31) (.cells #[.bool false, .bool false, .bool false, .int .i64 0, .int .i64 0, .int .u64 0, .slice none 0 0] 38) (.cells #[.bool false, .bool false, .bool false, .int .i64 0, .int .i64 0, .int .u64 0, .slice none 0 0] 38)
  generalize hq : w.heap.size = q at *
  have FR := Lib.hid F
  clear F
  by_cases p0 : phase = 0
  · subst p0
    obtain ⟨⟨z, ⟨gop, gstage, gphase, gold, gsince, gleft, gawoke, gstarve, gneed, gfront⟩, ⟨gdn, ggv, ghd, gft⟩⟩, hr0⟩ : ∃ r, lockM o0 ⟨op, stage, 0, old, since, left, awoke, starve, need, front⟩ now pat = r := ⟨_, rfl⟩
    have HE := Lib.hid hr0
    have ST := Lib.hid (show ∀ W : World, Calls Try.prog 50 #[.int .i64 o0, .agg #[.int .i64 op, .int .i64 stage, .int .i64 0, .int .i64 old, .int .i64 since, .int .i64 left, .bool awoke, .bool starve, .int .i64 need, .bool front]] W (fun e w' => e = .returned (.tuple #[.int .i64 z, .agg #[.int .i64 gop, .int .i64 gstage, .int .i64 gphase, .int .i64 gold, .int .i64 gsince, .int .i64 gleft, .bool gawoke, .bool gstarve, .int .i64 gneed, .bool gfront], .agg #[.bool gdn, .bool false, .bool ghd, .int .i64 ggv, .int .i64 gft, .int .u64 0, .slice none 0 0]]) ∧ Below W.heap.size W w') from fun W => by
      have h := muAtOnce_any o0 ⟨op, stage, 0, old, since, left, awoke, starve, need, front⟩ rfl now pat W
      rw [hr0] at h
      exact h)
    clear hr0
    go_enter Try.func44, Try.ntmps44
    have ac0 := row11 (b := q) (FR.out.at 0 rfl rfl)
    go_wp2_with fail
    refine (CP.out _ (FR.out.es RX.out) (FR.out.es RY.out)).mono ?_
    rintro e w3 ⟨A2, c2, B2, d2, rfl, hown, hown2, hb, hA, hB⟩
    clear ac0
    unfold obV
    have hsz := FR.out.sz
    simp only [List.length_set, List.length_cons, List.length_nil] at hsz
    replace FR := Lib.hid (FR.out.step hb)
    have OW := Lib.hid (own_base hown (show q ≤ _ by omega))
    have OC := Lib.hid (own_base hown2 (show q ≤ _ by omega))
    have NW := Lib.hid hA
    have NC := Lib.hid hB
    clear hown hown2 hb hsz hA hB
    obtain ⟨mw7p, w7p, hw7p, hse, F⟩ := FR.out.put11 0 rfl (b := q) rfl (.int .i64 kd) (.int .i64 o0) (.int .i64 o1) (.int .i64 o2) (.int .i64 o3) (.int .i64 o4) (.int .i64 o5) (.int .u32 wa) (.int .u32 to) (.slice A2 n c2) (.slice B2 m d2)
    replace OW := Lib.hid (own_whole (by decide) OW.out (FR.out.blk 0 _ rfl) hse)
    replace OC := Lib.hid (own_whole (by decide) OC.out (FR.out.blk 0 _ rfl) hse)
    replace FR := F
    clear F hse
    have cc0 := row11 (b := q) (FR.out.at 0 rfl rfl)
    have cc1 := row10 (b := q + 1) (FR.out.at 1 rfl rfl)
    go_wp2_with fail
    refine (ST.out _).mono ?_
    rintro e w5 ⟨rfl, hb⟩
    clear mw7p cc0 cc1
    clear hw7p
    replace FR := Lib.hid (FR.out.step hb)
    replace OW := Lib.hid (own_below OW.out hb)
    replace OC := Lib.hid (own_below OC.out hb)
    clear hb
    have dc0 := row11 (b := q) (FR.out.at 0 rfl rfl)
    have df01 : w5.frozen? ⟨q, 1, none⟩ = false := FR.out.frozen 0 1 rfl rfl
    obtain ⟨w8p, hw8p⟩ : ∃ W, (w5.setCell ⟨q, 1, none⟩ (.int .i64 z)) = W := ⟨_, rfl⟩
    replace OW := Lib.hid (hw8p ▸ own_set (o := 1) (u := .int .i64 z) OW.out (FR.out.blk 0 _ rfl) (by decide))
    replace OC := Lib.hid (hw8p ▸ own_set (o := 1) (u := .int .i64 z) OC.out (FR.out.blk 0 _ rfl) (by decide))
    replace FR := Lib.hid (((FR.out.set 0 1 rfl rfl (.int .i64 z))).eqw hw8p)
    obtain ⟨mw9p, w9p, hw9p, hse, F⟩ := FR.out.put10 1 rfl (b := q + 1) rfl (.int .i64 gop) (.int .i64 gstage) (.int .i64 gphase) (.int .i64 gold) (.int .i64 gsince) (.int .i64 gleft) (.bool gawoke) (.bool gstarve) (.int .i64 gneed) (.bool gfront)
    replace OW := Lib.hid (own_whole (by decide) OW.out (FR.out.blk 1 _ rfl) hse)
    replace OC := Lib.hid (own_whole (by decide) OC.out (FR.out.blk 1 _ rfl) hse)
    replace FR := F
    clear F hse
    obtain ⟨mw10p, w10p, hw10p, hse, F⟩ := FR.out.put7 5 rfl (b := q + 5) rfl (.bool gdn) (.bool false) (.bool ghd) (.int .i64 ggv) (.int .i64 gft) (.int .u64 0) (.slice none 0 0)
    replace OW := Lib.hid (own_whole (by decide) OW.out (FR.out.blk 5 _ rfl) hse)
    replace OC := Lib.hid (own_whole (by decide) OC.out (FR.out.blk 5 _ rfl) hse)
    replace FR := F
    clear F hse
    go_wp2
    replace OW := Lib.hid OW.out.drew
    replace OC := Lib.hid OC.out.drew
    have HF0 := Lib.hid FR.out.drew
    obtain ⟨w11r, hw11r⟩ : ∃ W, w10p.drew.setCells (q + 2) 0 [.int .i64 kd, .int .i64 z, .int .i64 o1, .int .i64 o2, .int .i64 o3, .int .i64 o4, .int .i64 o5, .int .u32 wa, .int .u32 to, .slice A2 n c2, .slice B2 m d2] = W := ⟨_, rfl⟩
    replace OW := Lib.hid (own_whole (by decide) OW.out (HF0.out.blk 2 _ rfl) hw11r)
    replace OC := Lib.hid (own_whole (by decide) OC.out (HF0.out.blk 2 _ rfl) hw11r)
    have HF1 := Lib.hid ((HF0.out.all 2 rfl rfl (by rfl)).eqw hw11r)
    have hh1 := Lib.hid hw11r
    clear hw11r
    obtain ⟨w12r, hw12r⟩ : ∃ W, w11r.setCells (q + 3) 0 [.int .i64 gop, .int .i64 gstage, .int .i64 gphase, .int .i64 gold, .int .i64 gsince, .int .i64 gleft, .bool gawoke, .bool gstarve, .int .i64 gneed, .bool gfront] = W := ⟨_, rfl⟩
    replace OW := Lib.hid (own_whole (by decide) OW.out (HF1.out.blk 3 _ rfl) hw12r)
    replace OC := Lib.hid (own_whole (by decide) OC.out (HF1.out.blk 3 _ rfl) hw12r)
    have HF2 := Lib.hid ((HF1.out.all 3 rfl rfl (by rfl)).eqw hw12r)
    have hh2 := Lib.hid hw12r
    clear hw12r
    obtain ⟨w13r, hw13r⟩ : ∃ W, w12r.setCells (q + 4) 0 [.bool gdn, .bool false, .bool ghd, .int .i64 ggv, .int .i64 gft, .int .u64 0, .slice none 0 0] = W := ⟨_, rfl⟩
    replace OW := Lib.hid (own_whole (by decide) OW.out (HF2.out.blk 4 _ rfl) hw13r)
    replace OC := Lib.hid (own_whole (by decide) OC.out (HF2.out.blk 4 _ rfl) hw13r)
    have HF3 := Lib.hid ((HF2.out.all 4 rfl rfl (by rfl)).eqw hw13r)
    have hh3 := Lib.hid hw13r
    clear hw13r
    refine wp_region_noPanic ?_
    refine wp_region_held_drew (S := (fun wv => Hid (wv.heap[q]? = some (.cells #[.int .i64 kd, .int .i64 z, .int .i64 o1, .int .i64 o2, .int .i64 o3, .int .i64 o4, .int .i64 o5, .int .u32 wa, .int .u32 to, .slice A2 n c2, .slice B2 m d2] 29) ∧ wv.heap[q + 1]? = some (.cells #[.int .i64 gop, .int .i64 gstage, .int .i64 gphase, .int .i64 gold, .int .i64 gsince, .int .i64 gleft, .bool gawoke, .bool gstarve, .int .i64 gneed, .bool gfront] 31) ∧ wv.heap[q + 5]? = some (.cells #[.bool gdn, .bool false, .bool ghd, .int .i64 ggv, .int .i64 gft, .int .u64 0, .slice none 0 0] 38)))) (by kernel_rfl) (Lib.hid (And.intro (HF0.out.blk 0 _ rfl) (And.intro (HF0.out.blk 1 _ rfl) (HF0.out.blk 5 _ rfl)))) (fun hS => ?_)
    refine wpAnyH_take (i := 0) (oi := ⟨some 72, .load 29 (.tmp 4), 29, "mutex.go:40", #[], none⟩) (v := .agg (([.int .i64 kd, .int .i64 z, .int .i64 o1, .int .i64 o2, .int .i64 o3, .int .i64 o4, .int .i64 o5, .int .u32 wa, .int .u32 to, .slice A2 n c2, .slice B2 m d2] : List Value)).toArray) rfl (by kernel_rfl) (by kernel_rfl) (by kernel_rfl) (fun _ _ _ h => h) (yieldsIf_load_mid (by rfl) _ _ (by rfl) (q) (0) (by rfl) _ _ (fun wv hS => blk_rngl hS.out.1) Try.underlying29 (by rfl) (by kernel_rfl)) hS ?_
    try simp only [Act.put, List.setIfInBounds_toArray, List.set_cons_zero, List.set_cons_succ]
    refine wpAnyH_take (i := 1) (oi := ⟨some 73, .load 31 (.tmp 5), 31, "mutex.go:40", #[⟨3, .gcOnly .lateStores⟩], none⟩) (v := .agg (([.int .i64 gop, .int .i64 gstage, .int .i64 gphase, .int .i64 gold, .int .i64 gsince, .int .i64 gleft, .bool gawoke, .bool gstarve, .int .i64 gneed, .bool gfront] : List Value)).toArray) rfl (by kernel_rfl) (by kernel_rfl) (by kernel_rfl) (fun _ _ _ h => h) (yieldsIf_load_mid (by rfl) _ _ (by rfl) (q + 1) (0) (by rfl) _ _ (fun wv hS => blk_rngl hS.out.2.1) Try.underlying31 (by rfl) (by kernel_rfl)) hS ?_
    try simp only [Act.put, List.setIfInBounds_toArray, List.set_cons_zero, List.set_cons_succ]
    refine wpAnyH_take (i := 2) (oi := ⟨some 74, .load 38 (.tmp 11), 38, "mutex.go:40", #[⟨4, .gcOnly .lateStores⟩], none⟩) (v := .agg (([.bool gdn, .bool false, .bool ghd, .int .i64 ggv, .int .i64 gft, .int .u64 0, .slice none 0 0] : List Value)).toArray) rfl (by kernel_rfl) (by kernel_rfl) (by kernel_rfl) (fun _ _ _ h => h) (yieldsIf_load_mid (by rfl) _ _ (by rfl) (q + 5) (0) (by rfl) _ _ (fun wv hS => blk_rngl hS.out.2.2) Try.underlying38 (by rfl) (by kernel_rfl)) hS ?_
    try simp only [Act.put, List.setIfInBounds_toArray, List.set_cons_zero, List.set_cons_succ]
    refine wpAnyH_ready (rs := [3]) (by kernel_rfl) (by simp) (AllReadyH.cons (o := ⟨none, .store 29 (.tmp 8) (.tmp 72), 0, "mutex.go:40", #[⟨0, .data⟩, ⟨0, .phase⟩, ⟨1, .textOnly .lateStores⟩, ⟨2, .textOnly .lateStores⟩], none⟩) rfl (fun K hK => ?_) AllReadyH.nil)
    refine op_storeS (by rfl) rfl rfl rfl (there_blk (HF0.out.blk 2 _ rfl) rfl) (by kernel_rfl) (by simp [Value.oneCell']) hh1.out ?_
    replace hS := Lib.hid (And.intro (HF1.out.blk 0 _ rfl) (And.intro (HF1.out.blk 1 _ rfl) (HF1.out.blk 5 _ rfl)))
    refine Shut.out hK _ _ hS (fun _ => ?_)
    clear hK K
    try simp only [Act.put, List.setIfInBounds_toArray, List.set_cons_zero, List.set_cons_succ]
    refine wpAnyH_ready (rs := [4]) (by kernel_rfl) (by simp) (AllReadyH.cons (o := ⟨none, .store 31 (.tmp 9) (.tmp 73), 0, "mutex.go:40", #[⟨1, .data⟩, ⟨3, .chain⟩, ⟨0, .phase⟩, ⟨1, .phase⟩, ⟨2, .textOnly .lateStores⟩, ⟨3, .phase⟩], none⟩) rfl (fun K hK => ?_) AllReadyH.nil)
    refine op_storeS (by rfl) rfl rfl rfl (there_blk (HF1.out.blk 3 _ rfl) rfl) (by kernel_rfl) (by simp [Value.oneCell']) hh2.out ?_
    replace hS := Lib.hid (And.intro (HF2.out.blk 0 _ rfl) (And.intro (HF2.out.blk 1 _ rfl) (HF2.out.blk 5 _ rfl)))
    refine Shut.out hK _ _ hS (fun _ => ?_)
    clear hK K
    try simp only [Act.put, List.setIfInBounds_toArray, List.set_cons_zero, List.set_cons_succ]
    refine wpAnyH_ready (rs := [5]) (by kernel_rfl) (by simp) (AllReadyH.cons (o := ⟨none, .store 38 (.tmp 10) (.tmp 74), 0, "mutex.go:40", #[⟨2, .data⟩, ⟨4, .chain⟩, ⟨0, .phase⟩, ⟨1, .phase⟩, ⟨2, .phase⟩, ⟨3, .phase⟩, ⟨4, .phase⟩], none⟩) rfl (fun K hK => ?_) AllReadyH.nil)
    refine op_storeS (by rfl) rfl rfl rfl (there_blk (HF2.out.blk 4 _ rfl) rfl) (by kernel_rfl) (by simp [Value.oneCell']) hh3.out ?_
    replace hS := Lib.hid (And.intro (HF3.out.blk 0 _ rfl) (And.intro (HF3.out.blk 1 _ rfl) (HF3.out.blk 5 _ rfl)))
    refine Shut.out hK _ _ hS (fun _ => ?_)
    clear hK K
    try simp only [Act.put, List.setIfInBounds_toArray, List.set_cons_zero, List.set_cons_succ]
    refine wpAnyH_done (by kernel_rfl) ?_ _
    refine NoPanic.normal ?_
    go_wp2
    refine bodyPost_ret (res_ccc Try.results44 (by rfl) (by rfl) (by rfl) (HF3.out.load 2 rfl rfl Try.underlying29 (by kernel_rfl)) (HF3.out.load 3 rfl rfl Try.underlying31 (by kernel_rfl)) (HF3.out.load 4 rfl rfl Try.underlying38 (by kernel_rfl))) rfl ?_
    replace FR := HF3
    rw [HE.out]
    exact ⟨A2, c2, B2, d2, rfl, (by rw [hq]; exact OW.out), (by rw [hq]; exact OC.out), FR.out.out, NW.out, NC.out⟩
  have n0 : (phase == 0) = false := by simp [p0]
  by_cases p1 : phase = 1
  · subst p1
    have HE := Lib.hid (show lockM o0 ⟨op, stage, 1, old, since, left, awoke, starve, need, front⟩ now pat = (o0, ⟨op, stage, 2, o0, since, left, awoke, starve, need, front⟩, noA) from by
      unfold lockM
      rw [if_neg (fun h => absurd (show (1 : Int) = 0 from h.1) (by decide)), if_neg (fun h => by rcases h with h | h; exact absurd (show (1 : Int) = 0 from h) (by decide); exact absurd (show (1 : Int) = 2 from h.1) (by decide)), if_pos rfl])
    have ST := Lib.hid (show ∀ W : World, Calls Try.prog 51 #[.int .i64 o0, .agg #[.int .i64 op, .int .i64 stage, .int .i64 1, .int .i64 old, .int .i64 since, .int .i64 left, .bool awoke, .bool starve, .int .i64 need, .bool front]] W (fun e w' => e = .returned (.agg #[.int .i64 op, .int .i64 stage, .int .i64 2, .int .i64 o0, .int .i64 since, .int .i64 left, .bool awoke, .bool starve, .int .i64 need, .bool front]) ∧ Below W.heap.size W w') from fun W => muLooked_any o0 ⟨op, stage, 1, old, since, left, awoke, starve, need, front⟩ W)
    clear p0 n0
    go_enter Try.func44, Try.ntmps44
    have ac0 := row11 (b := q) (FR.out.at 0 rfl rfl)
    go_wp2_with fail
    refine (CP.out _ (FR.out.es RX.out) (FR.out.es RY.out)).mono ?_
    rintro e w3 ⟨A2, c2, B2, d2, rfl, hown, hown2, hb, hA, hB⟩
    clear ac0
    unfold obV
    have hsz := FR.out.sz
    simp only [List.length_set, List.length_cons, List.length_nil] at hsz
    replace FR := Lib.hid (FR.out.step hb)
    have OW := Lib.hid (own_base hown (show q ≤ _ by omega))
    have OC := Lib.hid (own_base hown2 (show q ≤ _ by omega))
    have NW := Lib.hid hA
    have NC := Lib.hid hB
    clear hown hown2 hb hsz hA hB
    obtain ⟨mw7p, w7p, hw7p, hse, F⟩ := FR.out.put11 0 rfl (b := q) rfl (.int .i64 kd) (.int .i64 o0) (.int .i64 o1) (.int .i64 o2) (.int .i64 o3) (.int .i64 o4) (.int .i64 o5) (.int .u32 wa) (.int .u32 to) (.slice A2 n c2) (.slice B2 m d2)
    replace OW := Lib.hid (own_whole (by decide) OW.out (FR.out.blk 0 _ rfl) hse)
    replace OC := Lib.hid (own_whole (by decide) OC.out (FR.out.blk 0 _ rfl) hse)
    replace FR := F
    clear F hse
    have cc0 := row11 (b := q) (FR.out.at 0 rfl rfl)
    have cc1 := row10 (b := q + 1) (FR.out.at 1 rfl rfl)
    go_wp2_with fail
    refine (ST.out _).mono ?_
    rintro e w5 ⟨rfl, hb⟩
    clear mw7p cc0 cc1
    clear hw7p
    replace FR := Lib.hid (FR.out.step hb)
    replace OW := Lib.hid (own_below OW.out hb)
    replace OC := Lib.hid (own_below OC.out hb)
    clear hb
    obtain ⟨mw8p, w8p, hw8p, hse, F⟩ := FR.out.put10 1 rfl (b := q + 1) rfl (.int .i64 op) (.int .i64 stage) (.int .i64 2) (.int .i64 o0) (.int .i64 since) (.int .i64 left) (.bool awoke) (.bool starve) (.int .i64 need) (.bool front)
    replace OW := Lib.hid (own_whole (by decide) OW.out (FR.out.blk 1 _ rfl) hse)
    replace OC := Lib.hid (own_whole (by decide) OC.out (FR.out.blk 1 _ rfl) hse)
    replace FR := F
    clear F hse
    go_wp2
    replace OW := Lib.hid OW.out.drew
    replace OC := Lib.hid OC.out.drew
    have HF0 := Lib.hid FR.out.drew
    obtain ⟨w9r, hw9r⟩ : ∃ W, w8p.drew.setCells (q + 2) 0 [.int .i64 kd, .int .i64 o0, .int .i64 o1, .int .i64 o2, .int .i64 o3, .int .i64 o4, .int .i64 o5, .int .u32 wa, .int .u32 to, .slice A2 n c2, .slice B2 m d2] = W := ⟨_, rfl⟩
    replace OW := Lib.hid (own_whole (by decide) OW.out (HF0.out.blk 2 _ rfl) hw9r)
    replace OC := Lib.hid (own_whole (by decide) OC.out (HF0.out.blk 2 _ rfl) hw9r)
    have HF1 := Lib.hid ((HF0.out.all 2 rfl rfl (by rfl)).eqw hw9r)
    have hh1 := Lib.hid hw9r
    clear hw9r
    obtain ⟨w10r, hw10r⟩ : ∃ W, w9r.setCells (q + 3) 0 [.int .i64 op, .int .i64 stage, .int .i64 2, .int .i64 o0, .int .i64 since, .int .i64 left, .bool awoke, .bool starve, .int .i64 need, .bool front] = W := ⟨_, rfl⟩
    replace OW := Lib.hid (own_whole (by decide) OW.out (HF1.out.blk 3 _ rfl) hw10r)
    replace OC := Lib.hid (own_whole (by decide) OC.out (HF1.out.blk 3 _ rfl) hw10r)
    have HF2 := Lib.hid ((HF1.out.all 3 rfl rfl (by rfl)).eqw hw10r)
    have hh2 := Lib.hid hw10r
    clear hw10r
    obtain ⟨w11r, hw11r⟩ : ∃ W, w10r.setCells (q + 4) 0 [.bool false, .bool false, .bool false, .int .i64 0, .int .i64 0, .int .u64 0, .slice none 0 0] = W := ⟨_, rfl⟩
    replace OW := Lib.hid (own_whole (by decide) OW.out (HF2.out.blk 4 _ rfl) hw11r)
    replace OC := Lib.hid (own_whole (by decide) OC.out (HF2.out.blk 4 _ rfl) hw11r)
    have HF3 := Lib.hid ((HF2.out.all 4 rfl rfl (by rfl)).eqw hw11r)
    have hh3 := Lib.hid hw11r
    clear hw11r
    refine wp_region_noPanic ?_
    refine wp_region_held_drew (S := (fun wv => Hid (wv.heap[q]? = some (.cells #[.int .i64 kd, .int .i64 o0, .int .i64 o1, .int .i64 o2, .int .i64 o3, .int .i64 o4, .int .i64 o5, .int .u32 wa, .int .u32 to, .slice A2 n c2, .slice B2 m d2] 29) ∧ wv.heap[q + 1]? = some (.cells #[.int .i64 op, .int .i64 stage, .int .i64 2, .int .i64 o0, .int .i64 since, .int .i64 left, .bool awoke, .bool starve, .int .i64 need, .bool front] 31) ∧ wv.heap[q + 5]? = some (.cells #[.bool false, .bool false, .bool false, .int .i64 0, .int .i64 0, .int .u64 0, .slice none 0 0] 38)))) (by kernel_rfl) (Lib.hid (And.intro (HF0.out.blk 0 _ rfl) (And.intro (HF0.out.blk 1 _ rfl) (HF0.out.blk 5 _ rfl)))) (fun hS => ?_)
    refine wpAnyH_take (i := 0) (oi := ⟨some 72, .load 29 (.tmp 4), 29, "mutex.go:40", #[], none⟩) (v := .agg (([.int .i64 kd, .int .i64 o0, .int .i64 o1, .int .i64 o2, .int .i64 o3, .int .i64 o4, .int .i64 o5, .int .u32 wa, .int .u32 to, .slice A2 n c2, .slice B2 m d2] : List Value)).toArray) rfl (by kernel_rfl) (by kernel_rfl) (by kernel_rfl) (fun _ _ _ h => h) (yieldsIf_load_mid (by rfl) _ _ (by rfl) (q) (0) (by rfl) _ _ (fun wv hS => blk_rngl hS.out.1) Try.underlying29 (by rfl) (by kernel_rfl)) hS ?_
    try simp only [Act.put, List.setIfInBounds_toArray, List.set_cons_zero, List.set_cons_succ]
    refine wpAnyH_take (i := 1) (oi := ⟨some 73, .load 31 (.tmp 5), 31, "mutex.go:40", #[⟨3, .gcOnly .lateStores⟩], none⟩) (v := .agg (([.int .i64 op, .int .i64 stage, .int .i64 2, .int .i64 o0, .int .i64 since, .int .i64 left, .bool awoke, .bool starve, .int .i64 need, .bool front] : List Value)).toArray) rfl (by kernel_rfl) (by kernel_rfl) (by kernel_rfl) (fun _ _ _ h => h) (yieldsIf_load_mid (by rfl) _ _ (by rfl) (q + 1) (0) (by rfl) _ _ (fun wv hS => blk_rngl hS.out.2.1) Try.underlying31 (by rfl) (by kernel_rfl)) hS ?_
    try simp only [Act.put, List.setIfInBounds_toArray, List.set_cons_zero, List.set_cons_succ]
    refine wpAnyH_take (i := 2) (oi := ⟨some 74, .load 38 (.tmp 11), 38, "mutex.go:40", #[⟨4, .gcOnly .lateStores⟩], none⟩) (v := .agg (([.bool false, .bool false, .bool false, .int .i64 0, .int .i64 0, .int .u64 0, .slice none 0 0] : List Value)).toArray) rfl (by kernel_rfl) (by kernel_rfl) (by kernel_rfl) (fun _ _ _ h => h) (yieldsIf_load_mid (by rfl) _ _ (by rfl) (q + 5) (0) (by rfl) _ _ (fun wv hS => blk_rngl hS.out.2.2) Try.underlying38 (by rfl) (by kernel_rfl)) hS ?_
    try simp only [Act.put, List.setIfInBounds_toArray, List.set_cons_zero, List.set_cons_succ]
    refine wpAnyH_ready (rs := [3]) (by kernel_rfl) (by simp) (AllReadyH.cons (o := ⟨none, .store 29 (.tmp 8) (.tmp 72), 0, "mutex.go:40", #[⟨0, .data⟩, ⟨0, .phase⟩, ⟨1, .textOnly .lateStores⟩, ⟨2, .textOnly .lateStores⟩], none⟩) rfl (fun K hK => ?_) AllReadyH.nil)
    refine op_storeS (by rfl) rfl rfl rfl (there_blk (HF0.out.blk 2 _ rfl) rfl) (by kernel_rfl) (by simp [Value.oneCell']) hh1.out ?_
    replace hS := Lib.hid (And.intro (HF1.out.blk 0 _ rfl) (And.intro (HF1.out.blk 1 _ rfl) (HF1.out.blk 5 _ rfl)))
    refine Shut.out hK _ _ hS (fun _ => ?_)
    clear hK K
    try simp only [Act.put, List.setIfInBounds_toArray, List.set_cons_zero, List.set_cons_succ]
    refine wpAnyH_ready (rs := [4]) (by kernel_rfl) (by simp) (AllReadyH.cons (o := ⟨none, .store 31 (.tmp 9) (.tmp 73), 0, "mutex.go:40", #[⟨1, .data⟩, ⟨3, .chain⟩, ⟨0, .phase⟩, ⟨1, .phase⟩, ⟨2, .textOnly .lateStores⟩, ⟨3, .phase⟩], none⟩) rfl (fun K hK => ?_) AllReadyH.nil)
    refine op_storeS (by rfl) rfl rfl rfl (there_blk (HF1.out.blk 3 _ rfl) rfl) (by kernel_rfl) (by simp [Value.oneCell']) hh2.out ?_
    replace hS := Lib.hid (And.intro (HF2.out.blk 0 _ rfl) (And.intro (HF2.out.blk 1 _ rfl) (HF2.out.blk 5 _ rfl)))
    refine Shut.out hK _ _ hS (fun _ => ?_)
    clear hK K
    try simp only [Act.put, List.setIfInBounds_toArray, List.set_cons_zero, List.set_cons_succ]
    refine wpAnyH_ready (rs := [5]) (by kernel_rfl) (by simp) (AllReadyH.cons (o := ⟨none, .store 38 (.tmp 10) (.tmp 74), 0, "mutex.go:40", #[⟨2, .data⟩, ⟨4, .chain⟩, ⟨0, .phase⟩, ⟨1, .phase⟩, ⟨2, .phase⟩, ⟨3, .phase⟩, ⟨4, .phase⟩], none⟩) rfl (fun K hK => ?_) AllReadyH.nil)
    refine op_storeS (by rfl) rfl rfl rfl (there_blk (HF2.out.blk 4 _ rfl) rfl) (by kernel_rfl) (by simp [Value.oneCell']) hh3.out ?_
    replace hS := Lib.hid (And.intro (HF3.out.blk 0 _ rfl) (And.intro (HF3.out.blk 1 _ rfl) (HF3.out.blk 5 _ rfl)))
    refine Shut.out hK _ _ hS (fun _ => ?_)
    clear hK K
    try simp only [Act.put, List.setIfInBounds_toArray, List.set_cons_zero, List.set_cons_succ]
    refine wpAnyH_done (by kernel_rfl) ?_ _
    refine NoPanic.normal ?_
    go_wp2
    refine bodyPost_ret (res_ccc Try.results44 (by rfl) (by rfl) (by rfl) (HF3.out.load 2 rfl rfl Try.underlying29 (by kernel_rfl)) (HF3.out.load 3 rfl rfl Try.underlying31 (by kernel_rfl)) (HF3.out.load 4 rfl rfl Try.underlying38 (by kernel_rfl))) rfl ?_
    replace FR := HF3
    rw [HE.out]
    exact ⟨A2, c2, B2, d2, rfl, (by rw [hq]; exact OW.out), (by rw [hq]; exact OC.out), FR.out.out, NW.out, NC.out⟩
  have n1 : (phase == 1) = false := by simp [p1]
  by_cases p2 : phase = 2
  · subst p2
    obtain ⟨⟨z, ⟨gop, gstage, gphase, gold, gsince, gleft, gawoke, gstarve, gneed, gfront⟩, ⟨gdn, ggv, ghd, gft⟩⟩, hr0⟩ : ∃ r, lockM o0 ⟨op, stage, 2, old, since, left, awoke, starve, need, front⟩ now pat = r := ⟨_, rfl⟩
    have HE := Lib.hid hr0
    have ST := Lib.hid (show ∀ W : World, Calls Try.prog 52 #[.int .i64 o0, .agg #[.int .i64 op, .int .i64 stage, .int .i64 2, .int .i64 old, .int .i64 since, .int .i64 left, .bool awoke, .bool starve, .int .i64 need, .bool front], .int .i64 now] W (fun e w' => e = .returned (.tuple #[.int .i64 z, .agg #[.int .i64 gop, .int .i64 gstage, .int .i64 gphase, .int .i64 gold, .int .i64 gsince, .int .i64 gleft, .bool gawoke, .bool gstarve, .int .i64 gneed, .bool gfront], .agg #[.bool gdn, .bool false, .bool ghd, .int .i64 ggv, .int .i64 gft, .int .u64 0, .slice none 0 0]]) ∧ Below W.heap.size W w') from fun W => by
      have h := muCame_any o0 ⟨op, stage, 2, old, since, left, awoke, starve, need, front⟩ rfl now pat W
      rw [hr0] at h
      exact h)
    clear hr0 p0 p1 n0 n1
    go_enter Try.func44, Try.ntmps44
    have ac0 := row11 (b := q) (FR.out.at 0 rfl rfl)
    go_wp2_with fail
    refine (CP.out _ (FR.out.es RX.out) (FR.out.es RY.out)).mono ?_
    rintro e w3 ⟨A2, c2, B2, d2, rfl, hown, hown2, hb, hA, hB⟩
    clear ac0
    unfold obV
    have hsz := FR.out.sz
    simp only [List.length_set, List.length_cons, List.length_nil] at hsz
    replace FR := Lib.hid (FR.out.step hb)
    have OW := Lib.hid (own_base hown (show q ≤ _ by omega))
    have OC := Lib.hid (own_base hown2 (show q ≤ _ by omega))
    have NW := Lib.hid hA
    have NC := Lib.hid hB
    clear hown hown2 hb hsz hA hB
    obtain ⟨mw7p, w7p, hw7p, hse, F⟩ := FR.out.put11 0 rfl (b := q) rfl (.int .i64 kd) (.int .i64 o0) (.int .i64 o1) (.int .i64 o2) (.int .i64 o3) (.int .i64 o4) (.int .i64 o5) (.int .u32 wa) (.int .u32 to) (.slice A2 n c2) (.slice B2 m d2)
    replace OW := Lib.hid (own_whole (by decide) OW.out (FR.out.blk 0 _ rfl) hse)
    replace OC := Lib.hid (own_whole (by decide) OC.out (FR.out.blk 0 _ rfl) hse)
    replace FR := F
    clear F hse
    have cc0 := row11 (b := q) (FR.out.at 0 rfl rfl)
    have cc1 := row10 (b := q + 1) (FR.out.at 1 rfl rfl)
    go_wp2_with fail
    refine (ST.out _).mono ?_
    rintro e w5 ⟨rfl, hb⟩
    clear mw7p cc0 cc1
    clear hw7p
    replace FR := Lib.hid (FR.out.step hb)
    replace OW := Lib.hid (own_below OW.out hb)
    replace OC := Lib.hid (own_below OC.out hb)
    clear hb
    have dc0 := row11 (b := q) (FR.out.at 0 rfl rfl)
    have df01 : w5.frozen? ⟨q, 1, none⟩ = false := FR.out.frozen 0 1 rfl rfl
    obtain ⟨w8p, hw8p⟩ : ∃ W, (w5.setCell ⟨q, 1, none⟩ (.int .i64 z)) = W := ⟨_, rfl⟩
    replace OW := Lib.hid (hw8p ▸ own_set (o := 1) (u := .int .i64 z) OW.out (FR.out.blk 0 _ rfl) (by decide))
    replace OC := Lib.hid (hw8p ▸ own_set (o := 1) (u := .int .i64 z) OC.out (FR.out.blk 0 _ rfl) (by decide))
    replace FR := Lib.hid (((FR.out.set 0 1 rfl rfl (.int .i64 z))).eqw hw8p)
    obtain ⟨mw9p, w9p, hw9p, hse, F⟩ := FR.out.put10 1 rfl (b := q + 1) rfl (.int .i64 gop) (.int .i64 gstage) (.int .i64 gphase) (.int .i64 gold) (.int .i64 gsince) (.int .i64 gleft) (.bool gawoke) (.bool gstarve) (.int .i64 gneed) (.bool gfront)
    replace OW := Lib.hid (own_whole (by decide) OW.out (FR.out.blk 1 _ rfl) hse)
    replace OC := Lib.hid (own_whole (by decide) OC.out (FR.out.blk 1 _ rfl) hse)
    replace FR := F
    clear F hse
    obtain ⟨mw10p, w10p, hw10p, hse, F⟩ := FR.out.put7 5 rfl (b := q + 5) rfl (.bool gdn) (.bool false) (.bool ghd) (.int .i64 ggv) (.int .i64 gft) (.int .u64 0) (.slice none 0 0)
    replace OW := Lib.hid (own_whole (by decide) OW.out (FR.out.blk 5 _ rfl) hse)
    replace OC := Lib.hid (own_whole (by decide) OC.out (FR.out.blk 5 _ rfl) hse)
    replace FR := F
    clear F hse
    go_wp2
    replace OW := Lib.hid OW.out.drew
    replace OC := Lib.hid OC.out.drew
    have HF0 := Lib.hid FR.out.drew
    obtain ⟨w11r, hw11r⟩ : ∃ W, w10p.drew.setCells (q + 2) 0 [.int .i64 kd, .int .i64 z, .int .i64 o1, .int .i64 o2, .int .i64 o3, .int .i64 o4, .int .i64 o5, .int .u32 wa, .int .u32 to, .slice A2 n c2, .slice B2 m d2] = W := ⟨_, rfl⟩
    replace OW := Lib.hid (own_whole (by decide) OW.out (HF0.out.blk 2 _ rfl) hw11r)
    replace OC := Lib.hid (own_whole (by decide) OC.out (HF0.out.blk 2 _ rfl) hw11r)
    have HF1 := Lib.hid ((HF0.out.all 2 rfl rfl (by rfl)).eqw hw11r)
    have hh1 := Lib.hid hw11r
    clear hw11r
    obtain ⟨w12r, hw12r⟩ : ∃ W, w11r.setCells (q + 3) 0 [.int .i64 gop, .int .i64 gstage, .int .i64 gphase, .int .i64 gold, .int .i64 gsince, .int .i64 gleft, .bool gawoke, .bool gstarve, .int .i64 gneed, .bool gfront] = W := ⟨_, rfl⟩
    replace OW := Lib.hid (own_whole (by decide) OW.out (HF1.out.blk 3 _ rfl) hw12r)
    replace OC := Lib.hid (own_whole (by decide) OC.out (HF1.out.blk 3 _ rfl) hw12r)
    have HF2 := Lib.hid ((HF1.out.all 3 rfl rfl (by rfl)).eqw hw12r)
    have hh2 := Lib.hid hw12r
    clear hw12r
    obtain ⟨w13r, hw13r⟩ : ∃ W, w12r.setCells (q + 4) 0 [.bool gdn, .bool false, .bool ghd, .int .i64 ggv, .int .i64 gft, .int .u64 0, .slice none 0 0] = W := ⟨_, rfl⟩
    replace OW := Lib.hid (own_whole (by decide) OW.out (HF2.out.blk 4 _ rfl) hw13r)
    replace OC := Lib.hid (own_whole (by decide) OC.out (HF2.out.blk 4 _ rfl) hw13r)
    have HF3 := Lib.hid ((HF2.out.all 4 rfl rfl (by rfl)).eqw hw13r)
    have hh3 := Lib.hid hw13r
    clear hw13r
    refine wp_region_noPanic ?_
    refine wp_region_held_drew (S := (fun wv => Hid (wv.heap[q]? = some (.cells #[.int .i64 kd, .int .i64 z, .int .i64 o1, .int .i64 o2, .int .i64 o3, .int .i64 o4, .int .i64 o5, .int .u32 wa, .int .u32 to, .slice A2 n c2, .slice B2 m d2] 29) ∧ wv.heap[q + 1]? = some (.cells #[.int .i64 gop, .int .i64 gstage, .int .i64 gphase, .int .i64 gold, .int .i64 gsince, .int .i64 gleft, .bool gawoke, .bool gstarve, .int .i64 gneed, .bool gfront] 31) ∧ wv.heap[q + 5]? = some (.cells #[.bool gdn, .bool false, .bool ghd, .int .i64 ggv, .int .i64 gft, .int .u64 0, .slice none 0 0] 38)))) (by kernel_rfl) (Lib.hid (And.intro (HF0.out.blk 0 _ rfl) (And.intro (HF0.out.blk 1 _ rfl) (HF0.out.blk 5 _ rfl)))) (fun hS => ?_)
    refine wpAnyH_take (i := 0) (oi := ⟨some 72, .load 29 (.tmp 4), 29, "mutex.go:40", #[], none⟩) (v := .agg (([.int .i64 kd, .int .i64 z, .int .i64 o1, .int .i64 o2, .int .i64 o3, .int .i64 o4, .int .i64 o5, .int .u32 wa, .int .u32 to, .slice A2 n c2, .slice B2 m d2] : List Value)).toArray) rfl (by kernel_rfl) (by kernel_rfl) (by kernel_rfl) (fun _ _ _ h => h) (yieldsIf_load_mid (by rfl) _ _ (by rfl) (q) (0) (by rfl) _ _ (fun wv hS => blk_rngl hS.out.1) Try.underlying29 (by rfl) (by kernel_rfl)) hS ?_
    try simp only [Act.put, List.setIfInBounds_toArray, List.set_cons_zero, List.set_cons_succ]
    refine wpAnyH_take (i := 1) (oi := ⟨some 73, .load 31 (.tmp 5), 31, "mutex.go:40", #[⟨3, .gcOnly .lateStores⟩], none⟩) (v := .agg (([.int .i64 gop, .int .i64 gstage, .int .i64 gphase, .int .i64 gold, .int .i64 gsince, .int .i64 gleft, .bool gawoke, .bool gstarve, .int .i64 gneed, .bool gfront] : List Value)).toArray) rfl (by kernel_rfl) (by kernel_rfl) (by kernel_rfl) (fun _ _ _ h => h) (yieldsIf_load_mid (by rfl) _ _ (by rfl) (q + 1) (0) (by rfl) _ _ (fun wv hS => blk_rngl hS.out.2.1) Try.underlying31 (by rfl) (by kernel_rfl)) hS ?_
    try simp only [Act.put, List.setIfInBounds_toArray, List.set_cons_zero, List.set_cons_succ]
    refine wpAnyH_take (i := 2) (oi := ⟨some 74, .load 38 (.tmp 11), 38, "mutex.go:40", #[⟨4, .gcOnly .lateStores⟩], none⟩) (v := .agg (([.bool gdn, .bool false, .bool ghd, .int .i64 ggv, .int .i64 gft, .int .u64 0, .slice none 0 0] : List Value)).toArray) rfl (by kernel_rfl) (by kernel_rfl) (by kernel_rfl) (fun _ _ _ h => h) (yieldsIf_load_mid (by rfl) _ _ (by rfl) (q + 5) (0) (by rfl) _ _ (fun wv hS => blk_rngl hS.out.2.2) Try.underlying38 (by rfl) (by kernel_rfl)) hS ?_
    try simp only [Act.put, List.setIfInBounds_toArray, List.set_cons_zero, List.set_cons_succ]
    refine wpAnyH_ready (rs := [3]) (by kernel_rfl) (by simp) (AllReadyH.cons (o := ⟨none, .store 29 (.tmp 8) (.tmp 72), 0, "mutex.go:40", #[⟨0, .data⟩, ⟨0, .phase⟩, ⟨1, .textOnly .lateStores⟩, ⟨2, .textOnly .lateStores⟩], none⟩) rfl (fun K hK => ?_) AllReadyH.nil)
    refine op_storeS (by rfl) rfl rfl rfl (there_blk (HF0.out.blk 2 _ rfl) rfl) (by kernel_rfl) (by simp [Value.oneCell']) hh1.out ?_
    replace hS := Lib.hid (And.intro (HF1.out.blk 0 _ rfl) (And.intro (HF1.out.blk 1 _ rfl) (HF1.out.blk 5 _ rfl)))
    refine Shut.out hK _ _ hS (fun _ => ?_)
    clear hK K
    try simp only [Act.put, List.setIfInBounds_toArray, List.set_cons_zero, List.set_cons_succ]
    refine wpAnyH_ready (rs := [4]) (by kernel_rfl) (by simp) (AllReadyH.cons (o := ⟨none, .store 31 (.tmp 9) (.tmp 73), 0, "mutex.go:40", #[⟨1, .data⟩, ⟨3, .chain⟩, ⟨0, .phase⟩, ⟨1, .phase⟩, ⟨2, .textOnly .lateStores⟩, ⟨3, .phase⟩], none⟩) rfl (fun K hK => ?_) AllReadyH.nil)
    refine op_storeS (by rfl) rfl rfl rfl (there_blk (HF1.out.blk 3 _ rfl) rfl) (by kernel_rfl) (by simp [Value.oneCell']) hh2.out ?_
    replace hS := Lib.hid (And.intro (HF2.out.blk 0 _ rfl) (And.intro (HF2.out.blk 1 _ rfl) (HF2.out.blk 5 _ rfl)))
    refine Shut.out hK _ _ hS (fun _ => ?_)
    clear hK K
    try simp only [Act.put, List.setIfInBounds_toArray, List.set_cons_zero, List.set_cons_succ]
    refine wpAnyH_ready (rs := [5]) (by kernel_rfl) (by simp) (AllReadyH.cons (o := ⟨none, .store 38 (.tmp 10) (.tmp 74), 0, "mutex.go:40", #[⟨2, .data⟩, ⟨4, .chain⟩, ⟨0, .phase⟩, ⟨1, .phase⟩, ⟨2, .phase⟩, ⟨3, .phase⟩, ⟨4, .phase⟩], none⟩) rfl (fun K hK => ?_) AllReadyH.nil)
    refine op_storeS (by rfl) rfl rfl rfl (there_blk (HF2.out.blk 4 _ rfl) rfl) (by kernel_rfl) (by simp [Value.oneCell']) hh3.out ?_
    replace hS := Lib.hid (And.intro (HF3.out.blk 0 _ rfl) (And.intro (HF3.out.blk 1 _ rfl) (HF3.out.blk 5 _ rfl)))
    refine Shut.out hK _ _ hS (fun _ => ?_)
    clear hK K
    try simp only [Act.put, List.setIfInBounds_toArray, List.set_cons_zero, List.set_cons_succ]
    refine wpAnyH_done (by kernel_rfl) ?_ _
    refine NoPanic.normal ?_
    go_wp2
    refine bodyPost_ret (res_ccc Try.results44 (by rfl) (by rfl) (by rfl) (HF3.out.load 2 rfl rfl Try.underlying29 (by kernel_rfl)) (HF3.out.load 3 rfl rfl Try.underlying31 (by kernel_rfl)) (HF3.out.load 4 rfl rfl Try.underlying38 (by kernel_rfl))) rfl ?_
    replace FR := HF3
    rw [HE.out]
    exact ⟨A2, c2, B2, d2, rfl, (by rw [hq]; exact OW.out), (by rw [hq]; exact OC.out), FR.out.out, NW.out, NC.out⟩
  have n2 : (phase == 2) = false := by simp [p2]
  by_cases p3 : phase = 3
  · subst p3
    obtain ⟨sv, hsv⟩ : ∃ b, (starve || decide (pat < IntKind.i64.wrap (now - since))) = b := ⟨_, rfl⟩
    obtain ⟨aw, haw⟩ : ∃ b, (awoke || decide (¬ hasBit o0 2)) = b := ⟨_, rfl⟩
    obtain ⟨ph, hph⟩ : ∃ p, (if hasBit o0 2 then 4 else 2 : Int) = p := ⟨_, rfl⟩
    have HE := Lib.hid (show lockM o0 ⟨op, stage, 3, old, since, left, awoke, starve, need, front⟩ now pat = (o0, ⟨op, stage, ph, o0, since, left, aw, sv, need, front⟩, noA) from by
      unfold lockM
      rw [if_neg (fun h => (show ¬ ((3 : Int) = 0) by decide) h.1), if_neg (fun h => by rcases h with h | h; exact (show ¬ ((3 : Int) = 0) by decide) h; exact (show ¬ ((3 : Int) = 2) by decide) h.1), if_neg (fun h => (show ¬ ((3 : Int) = 1) by decide) h), if_neg (fun h => (show ¬ ((3 : Int) = 2) by decide) h), if_pos rfl]
      simp only [hsv, haw, hph])
    have ST := Lib.hid (show ∀ W : World, Calls Try.prog 53 #[.int .i64 o0, .agg #[.int .i64 op, .int .i64 stage, .int .i64 3, .int .i64 old, .int .i64 since, .int .i64 left, .bool awoke, .bool starve, .int .i64 need, .bool front], .int .i64 now, .int .i64 pat] W (fun e w' => e = .returned (.agg #[.int .i64 op, .int .i64 stage, .int .i64 ph, .int .i64 o0, .int .i64 since, .int .i64 left, .bool aw, .bool sv, .int .i64 need, .bool front]) ∧ Below W.heap.size W w') from fun W => by
      have h := muWoken_any o0 ⟨op, stage, 3, old, since, left, awoke, starve, need, front⟩ now pat W
      simp only [hsv, haw, hph] at h
      exact h)
    clear p0 n0 p1 n1 p2 n2 hsv haw hph
    go_enter Try.func44, Try.ntmps44
    have ac0 := row11 (b := q) (FR.out.at 0 rfl rfl)
    go_wp2_with fail
    refine (CP.out _ (FR.out.es RX.out) (FR.out.es RY.out)).mono ?_
    rintro e w3 ⟨A2, c2, B2, d2, rfl, hown, hown2, hb, hA, hB⟩
    clear ac0
    unfold obV
    have hsz := FR.out.sz
    simp only [List.length_set, List.length_cons, List.length_nil] at hsz
    replace FR := Lib.hid (FR.out.step hb)
    have OW := Lib.hid (own_base hown (show q ≤ _ by omega))
    have OC := Lib.hid (own_base hown2 (show q ≤ _ by omega))
    have NW := Lib.hid hA
    have NC := Lib.hid hB
    clear hown hown2 hb hsz hA hB
    obtain ⟨mw7p, w7p, hw7p, hse, F⟩ := FR.out.put11 0 rfl (b := q) rfl (.int .i64 kd) (.int .i64 o0) (.int .i64 o1) (.int .i64 o2) (.int .i64 o3) (.int .i64 o4) (.int .i64 o5) (.int .u32 wa) (.int .u32 to) (.slice A2 n c2) (.slice B2 m d2)
    replace OW := Lib.hid (own_whole (by decide) OW.out (FR.out.blk 0 _ rfl) hse)
    replace OC := Lib.hid (own_whole (by decide) OC.out (FR.out.blk 0 _ rfl) hse)
    replace FR := F
    clear F hse
    have cc0 := row11 (b := q) (FR.out.at 0 rfl rfl)
    have cc1 := row10 (b := q + 1) (FR.out.at 1 rfl rfl)
    go_wp2_with fail
    refine (ST.out _).mono ?_
    rintro e w5 ⟨rfl, hb⟩
    clear mw7p cc0 cc1
    clear hw7p
    replace FR := Lib.hid (FR.out.step hb)
    replace OW := Lib.hid (own_below OW.out hb)
    replace OC := Lib.hid (own_below OC.out hb)
    clear hb
    obtain ⟨mw8p, w8p, hw8p, hse, F⟩ := FR.out.put10 1 rfl (b := q + 1) rfl (.int .i64 op) (.int .i64 stage) (.int .i64 ph) (.int .i64 o0) (.int .i64 since) (.int .i64 left) (.bool aw) (.bool sv) (.int .i64 need) (.bool front)
    replace OW := Lib.hid (own_whole (by decide) OW.out (FR.out.blk 1 _ rfl) hse)
    replace OC := Lib.hid (own_whole (by decide) OC.out (FR.out.blk 1 _ rfl) hse)
    replace FR := F
    clear F hse
    go_wp2
    replace OW := Lib.hid OW.out.drew
    replace OC := Lib.hid OC.out.drew
    have HF0 := Lib.hid FR.out.drew
    obtain ⟨w9r, hw9r⟩ : ∃ W, w8p.drew.setCells (q + 2) 0 [.int .i64 kd, .int .i64 o0, .int .i64 o1, .int .i64 o2, .int .i64 o3, .int .i64 o4, .int .i64 o5, .int .u32 wa, .int .u32 to, .slice A2 n c2, .slice B2 m d2] = W := ⟨_, rfl⟩
    replace OW := Lib.hid (own_whole (by decide) OW.out (HF0.out.blk 2 _ rfl) hw9r)
    replace OC := Lib.hid (own_whole (by decide) OC.out (HF0.out.blk 2 _ rfl) hw9r)
    have HF1 := Lib.hid ((HF0.out.all 2 rfl rfl (by rfl)).eqw hw9r)
    have hh1 := Lib.hid hw9r
    clear hw9r
    obtain ⟨w10r, hw10r⟩ : ∃ W, w9r.setCells (q + 3) 0 [.int .i64 op, .int .i64 stage, .int .i64 ph, .int .i64 o0, .int .i64 since, .int .i64 left, .bool aw, .bool sv, .int .i64 need, .bool front] = W := ⟨_, rfl⟩
    replace OW := Lib.hid (own_whole (by decide) OW.out (HF1.out.blk 3 _ rfl) hw10r)
    replace OC := Lib.hid (own_whole (by decide) OC.out (HF1.out.blk 3 _ rfl) hw10r)
    have HF2 := Lib.hid ((HF1.out.all 3 rfl rfl (by rfl)).eqw hw10r)
    have hh2 := Lib.hid hw10r
    clear hw10r
    obtain ⟨w11r, hw11r⟩ : ∃ W, w10r.setCells (q + 4) 0 [.bool false, .bool false, .bool false, .int .i64 0, .int .i64 0, .int .u64 0, .slice none 0 0] = W := ⟨_, rfl⟩
    replace OW := Lib.hid (own_whole (by decide) OW.out (HF2.out.blk 4 _ rfl) hw11r)
    replace OC := Lib.hid (own_whole (by decide) OC.out (HF2.out.blk 4 _ rfl) hw11r)
    have HF3 := Lib.hid ((HF2.out.all 4 rfl rfl (by rfl)).eqw hw11r)
    have hh3 := Lib.hid hw11r
    clear hw11r
    refine wp_region_noPanic ?_
    refine wp_region_held_drew (S := (fun wv => Hid (wv.heap[q]? = some (.cells #[.int .i64 kd, .int .i64 o0, .int .i64 o1, .int .i64 o2, .int .i64 o3, .int .i64 o4, .int .i64 o5, .int .u32 wa, .int .u32 to, .slice A2 n c2, .slice B2 m d2] 29) ∧ wv.heap[q + 1]? = some (.cells #[.int .i64 op, .int .i64 stage, .int .i64 ph, .int .i64 o0, .int .i64 since, .int .i64 left, .bool aw, .bool sv, .int .i64 need, .bool front] 31) ∧ wv.heap[q + 5]? = some (.cells #[.bool false, .bool false, .bool false, .int .i64 0, .int .i64 0, .int .u64 0, .slice none 0 0] 38)))) (by kernel_rfl) (Lib.hid (And.intro (HF0.out.blk 0 _ rfl) (And.intro (HF0.out.blk 1 _ rfl) (HF0.out.blk 5 _ rfl)))) (fun hS => ?_)
    refine wpAnyH_take (i := 0) (oi := ⟨some 72, .load 29 (.tmp 4), 29, "mutex.go:40", #[], none⟩) (v := .agg (([.int .i64 kd, .int .i64 o0, .int .i64 o1, .int .i64 o2, .int .i64 o3, .int .i64 o4, .int .i64 o5, .int .u32 wa, .int .u32 to, .slice A2 n c2, .slice B2 m d2] : List Value)).toArray) rfl (by kernel_rfl) (by kernel_rfl) (by kernel_rfl) (fun _ _ _ h => h) (yieldsIf_load_mid (by rfl) _ _ (by rfl) (q) (0) (by rfl) _ _ (fun wv hS => blk_rngl hS.out.1) Try.underlying29 (by rfl) (by kernel_rfl)) hS ?_
    try simp only [Act.put, List.setIfInBounds_toArray, List.set_cons_zero, List.set_cons_succ]
    refine wpAnyH_take (i := 1) (oi := ⟨some 73, .load 31 (.tmp 5), 31, "mutex.go:40", #[⟨3, .gcOnly .lateStores⟩], none⟩) (v := .agg (([.int .i64 op, .int .i64 stage, .int .i64 ph, .int .i64 o0, .int .i64 since, .int .i64 left, .bool aw, .bool sv, .int .i64 need, .bool front] : List Value)).toArray) rfl (by kernel_rfl) (by kernel_rfl) (by kernel_rfl) (fun _ _ _ h => h) (yieldsIf_load_mid (by rfl) _ _ (by rfl) (q + 1) (0) (by rfl) _ _ (fun wv hS => blk_rngl hS.out.2.1) Try.underlying31 (by rfl) (by kernel_rfl)) hS ?_
    try simp only [Act.put, List.setIfInBounds_toArray, List.set_cons_zero, List.set_cons_succ]
    refine wpAnyH_take (i := 2) (oi := ⟨some 74, .load 38 (.tmp 11), 38, "mutex.go:40", #[⟨4, .gcOnly .lateStores⟩], none⟩) (v := .agg (([.bool false, .bool false, .bool false, .int .i64 0, .int .i64 0, .int .u64 0, .slice none 0 0] : List Value)).toArray) rfl (by kernel_rfl) (by kernel_rfl) (by kernel_rfl) (fun _ _ _ h => h) (yieldsIf_load_mid (by rfl) _ _ (by rfl) (q + 5) (0) (by rfl) _ _ (fun wv hS => blk_rngl hS.out.2.2) Try.underlying38 (by rfl) (by kernel_rfl)) hS ?_
    try simp only [Act.put, List.setIfInBounds_toArray, List.set_cons_zero, List.set_cons_succ]
    refine wpAnyH_ready (rs := [3]) (by kernel_rfl) (by simp) (AllReadyH.cons (o := ⟨none, .store 29 (.tmp 8) (.tmp 72), 0, "mutex.go:40", #[⟨0, .data⟩, ⟨0, .phase⟩, ⟨1, .textOnly .lateStores⟩, ⟨2, .textOnly .lateStores⟩], none⟩) rfl (fun K hK => ?_) AllReadyH.nil)
    refine op_storeS (by rfl) rfl rfl rfl (there_blk (HF0.out.blk 2 _ rfl) rfl) (by kernel_rfl) (by simp [Value.oneCell']) hh1.out ?_
    replace hS := Lib.hid (And.intro (HF1.out.blk 0 _ rfl) (And.intro (HF1.out.blk 1 _ rfl) (HF1.out.blk 5 _ rfl)))
    refine Shut.out hK _ _ hS (fun _ => ?_)
    clear hK K
    try simp only [Act.put, List.setIfInBounds_toArray, List.set_cons_zero, List.set_cons_succ]
    refine wpAnyH_ready (rs := [4]) (by kernel_rfl) (by simp) (AllReadyH.cons (o := ⟨none, .store 31 (.tmp 9) (.tmp 73), 0, "mutex.go:40", #[⟨1, .data⟩, ⟨3, .chain⟩, ⟨0, .phase⟩, ⟨1, .phase⟩, ⟨2, .textOnly .lateStores⟩, ⟨3, .phase⟩], none⟩) rfl (fun K hK => ?_) AllReadyH.nil)
    refine op_storeS (by rfl) rfl rfl rfl (there_blk (HF1.out.blk 3 _ rfl) rfl) (by kernel_rfl) (by simp [Value.oneCell']) hh2.out ?_
    replace hS := Lib.hid (And.intro (HF2.out.blk 0 _ rfl) (And.intro (HF2.out.blk 1 _ rfl) (HF2.out.blk 5 _ rfl)))
    refine Shut.out hK _ _ hS (fun _ => ?_)
    clear hK K
    try simp only [Act.put, List.setIfInBounds_toArray, List.set_cons_zero, List.set_cons_succ]
    refine wpAnyH_ready (rs := [5]) (by kernel_rfl) (by simp) (AllReadyH.cons (o := ⟨none, .store 38 (.tmp 10) (.tmp 74), 0, "mutex.go:40", #[⟨2, .data⟩, ⟨4, .chain⟩, ⟨0, .phase⟩, ⟨1, .phase⟩, ⟨2, .phase⟩, ⟨3, .phase⟩, ⟨4, .phase⟩], none⟩) rfl (fun K hK => ?_) AllReadyH.nil)
    refine op_storeS (by rfl) rfl rfl rfl (there_blk (HF2.out.blk 4 _ rfl) rfl) (by kernel_rfl) (by simp [Value.oneCell']) hh3.out ?_
    replace hS := Lib.hid (And.intro (HF3.out.blk 0 _ rfl) (And.intro (HF3.out.blk 1 _ rfl) (HF3.out.blk 5 _ rfl)))
    refine Shut.out hK _ _ hS (fun _ => ?_)
    clear hK K
    try simp only [Act.put, List.setIfInBounds_toArray, List.set_cons_zero, List.set_cons_succ]
    refine wpAnyH_done (by kernel_rfl) ?_ _
    refine NoPanic.normal ?_
    go_wp2
    refine bodyPost_ret (res_ccc Try.results44 (by rfl) (by rfl) (by rfl) (HF3.out.load 2 rfl rfl Try.underlying29 (by kernel_rfl)) (HF3.out.load 3 rfl rfl Try.underlying31 (by kernel_rfl)) (HF3.out.load 4 rfl rfl Try.underlying38 (by kernel_rfl))) rfl ?_
    replace FR := HF3
    rw [HE.out]
    exact ⟨A2, c2, B2, d2, rfl, (by rw [hq]; exact OW.out), (by rw [hq]; exact OC.out), FR.out.out, NW.out, NC.out⟩
  have n3 : (phase == 3) = false := by simp [p3]
  by_cases p4 : phase = 4
  · subst p4
    obtain ⟨⟨z, ⟨gop, gstage, gphase, gold, gsince, gleft, gawoke, gstarve, gneed, gfront⟩, ⟨gdn, ggv, ghd, gft⟩⟩, hr0⟩ : ∃ r, lockM o0 ⟨op, stage, 4, old, since, left, awoke, starve, need, front⟩ now pat = r := ⟨_, rfl⟩
    have HE := Lib.hid hr0
    have ST := Lib.hid (show ∀ W : World, Calls Try.prog 54 #[.int .i64 o0, .agg #[.int .i64 op, .int .i64 stage, .int .i64 4, .int .i64 old, .int .i64 since, .int .i64 left, .bool awoke, .bool starve, .int .i64 need, .bool front]] W (fun e w' => e = .returned (.tuple #[.int .i64 z, .agg #[.int .i64 gop, .int .i64 gstage, .int .i64 gphase, .int .i64 gold, .int .i64 gsince, .int .i64 gleft, .bool gawoke, .bool gstarve, .int .i64 gneed, .bool gfront], .agg #[.bool gdn, .bool false, .bool ghd, .int .i64 ggv, .int .i64 gft, .int .u64 0, .slice none 0 0]]) ∧ Below W.heap.size W w') from fun W => by
      have h := muHanded_any o0 ⟨op, stage, 4, old, since, left, awoke, starve, need, front⟩ rfl now pat W
      rw [hr0] at h
      exact h)
    clear hr0 p0 p1 p2 p3 n0 n1 n2 n3
    go_enter Try.func44, Try.ntmps44
    have ac0 := row11 (b := q) (FR.out.at 0 rfl rfl)
    go_wp2_with fail
    refine (CP.out _ (FR.out.es RX.out) (FR.out.es RY.out)).mono ?_
    rintro e w3 ⟨A2, c2, B2, d2, rfl, hown, hown2, hb, hA, hB⟩
    clear ac0
    unfold obV
    have hsz := FR.out.sz
    simp only [List.length_set, List.length_cons, List.length_nil] at hsz
    replace FR := Lib.hid (FR.out.step hb)
    have OW := Lib.hid (own_base hown (show q ≤ _ by omega))
    have OC := Lib.hid (own_base hown2 (show q ≤ _ by omega))
    have NW := Lib.hid hA
    have NC := Lib.hid hB
    clear hown hown2 hb hsz hA hB
    obtain ⟨mw7p, w7p, hw7p, hse, F⟩ := FR.out.put11 0 rfl (b := q) rfl (.int .i64 kd) (.int .i64 o0) (.int .i64 o1) (.int .i64 o2) (.int .i64 o3) (.int .i64 o4) (.int .i64 o5) (.int .u32 wa) (.int .u32 to) (.slice A2 n c2) (.slice B2 m d2)
    replace OW := Lib.hid (own_whole (by decide) OW.out (FR.out.blk 0 _ rfl) hse)
    replace OC := Lib.hid (own_whole (by decide) OC.out (FR.out.blk 0 _ rfl) hse)
    replace FR := F
    clear F hse
    have cc0 := row11 (b := q) (FR.out.at 0 rfl rfl)
    have cc1 := row10 (b := q + 1) (FR.out.at 1 rfl rfl)
    go_wp2_with fail
    refine (ST.out _).mono ?_
    rintro e w5 ⟨rfl, hb⟩
    clear mw7p cc0 cc1
    clear hw7p
    replace FR := Lib.hid (FR.out.step hb)
    replace OW := Lib.hid (own_below OW.out hb)
    replace OC := Lib.hid (own_below OC.out hb)
    clear hb
    have dc0 := row11 (b := q) (FR.out.at 0 rfl rfl)
    have df01 : w5.frozen? ⟨q, 1, none⟩ = false := FR.out.frozen 0 1 rfl rfl
    obtain ⟨w8p, hw8p⟩ : ∃ W, (w5.setCell ⟨q, 1, none⟩ (.int .i64 z)) = W := ⟨_, rfl⟩
    replace OW := Lib.hid (hw8p ▸ own_set (o := 1) (u := .int .i64 z) OW.out (FR.out.blk 0 _ rfl) (by decide))
    replace OC := Lib.hid (hw8p ▸ own_set (o := 1) (u := .int .i64 z) OC.out (FR.out.blk 0 _ rfl) (by decide))
    replace FR := Lib.hid (((FR.out.set 0 1 rfl rfl (.int .i64 z))).eqw hw8p)
    obtain ⟨mw9p, w9p, hw9p, hse, F⟩ := FR.out.put10 1 rfl (b := q + 1) rfl (.int .i64 gop) (.int .i64 gstage) (.int .i64 gphase) (.int .i64 gold) (.int .i64 gsince) (.int .i64 gleft) (.bool gawoke) (.bool gstarve) (.int .i64 gneed) (.bool gfront)
    replace OW := Lib.hid (own_whole (by decide) OW.out (FR.out.blk 1 _ rfl) hse)
    replace OC := Lib.hid (own_whole (by decide) OC.out (FR.out.blk 1 _ rfl) hse)
    replace FR := F
    clear F hse
    obtain ⟨mw10p, w10p, hw10p, hse, F⟩ := FR.out.put7 5 rfl (b := q + 5) rfl (.bool gdn) (.bool false) (.bool ghd) (.int .i64 ggv) (.int .i64 gft) (.int .u64 0) (.slice none 0 0)
    replace OW := Lib.hid (own_whole (by decide) OW.out (FR.out.blk 5 _ rfl) hse)
    replace OC := Lib.hid (own_whole (by decide) OC.out (FR.out.blk 5 _ rfl) hse)
    replace FR := F
    clear F hse
    go_wp2
    replace OW := Lib.hid OW.out.drew
    replace OC := Lib.hid OC.out.drew
    have HF0 := Lib.hid FR.out.drew
    obtain ⟨w11r, hw11r⟩ : ∃ W, w10p.drew.setCells (q + 2) 0 [.int .i64 kd, .int .i64 z, .int .i64 o1, .int .i64 o2, .int .i64 o3, .int .i64 o4, .int .i64 o5, .int .u32 wa, .int .u32 to, .slice A2 n c2, .slice B2 m d2] = W := ⟨_, rfl⟩
    replace OW := Lib.hid (own_whole (by decide) OW.out (HF0.out.blk 2 _ rfl) hw11r)
    replace OC := Lib.hid (own_whole (by decide) OC.out (HF0.out.blk 2 _ rfl) hw11r)
    have HF1 := Lib.hid ((HF0.out.all 2 rfl rfl (by rfl)).eqw hw11r)
    have hh1 := Lib.hid hw11r
    clear hw11r
    obtain ⟨w12r, hw12r⟩ : ∃ W, w11r.setCells (q + 3) 0 [.int .i64 gop, .int .i64 gstage, .int .i64 gphase, .int .i64 gold, .int .i64 gsince, .int .i64 gleft, .bool gawoke, .bool gstarve, .int .i64 gneed, .bool gfront] = W := ⟨_, rfl⟩
    replace OW := Lib.hid (own_whole (by decide) OW.out (HF1.out.blk 3 _ rfl) hw12r)
    replace OC := Lib.hid (own_whole (by decide) OC.out (HF1.out.blk 3 _ rfl) hw12r)
    have HF2 := Lib.hid ((HF1.out.all 3 rfl rfl (by rfl)).eqw hw12r)
    have hh2 := Lib.hid hw12r
    clear hw12r
    obtain ⟨w13r, hw13r⟩ : ∃ W, w12r.setCells (q + 4) 0 [.bool gdn, .bool false, .bool ghd, .int .i64 ggv, .int .i64 gft, .int .u64 0, .slice none 0 0] = W := ⟨_, rfl⟩
    replace OW := Lib.hid (own_whole (by decide) OW.out (HF2.out.blk 4 _ rfl) hw13r)
    replace OC := Lib.hid (own_whole (by decide) OC.out (HF2.out.blk 4 _ rfl) hw13r)
    have HF3 := Lib.hid ((HF2.out.all 4 rfl rfl (by rfl)).eqw hw13r)
    have hh3 := Lib.hid hw13r
    clear hw13r
    refine wp_region_noPanic ?_
    refine wp_region_held_drew (S := (fun wv => Hid (wv.heap[q]? = some (.cells #[.int .i64 kd, .int .i64 z, .int .i64 o1, .int .i64 o2, .int .i64 o3, .int .i64 o4, .int .i64 o5, .int .u32 wa, .int .u32 to, .slice A2 n c2, .slice B2 m d2] 29) ∧ wv.heap[q + 1]? = some (.cells #[.int .i64 gop, .int .i64 gstage, .int .i64 gphase, .int .i64 gold, .int .i64 gsince, .int .i64 gleft, .bool gawoke, .bool gstarve, .int .i64 gneed, .bool gfront] 31) ∧ wv.heap[q + 5]? = some (.cells #[.bool gdn, .bool false, .bool ghd, .int .i64 ggv, .int .i64 gft, .int .u64 0, .slice none 0 0] 38)))) (by kernel_rfl) (Lib.hid (And.intro (HF0.out.blk 0 _ rfl) (And.intro (HF0.out.blk 1 _ rfl) (HF0.out.blk 5 _ rfl)))) (fun hS => ?_)
    refine wpAnyH_take (i := 0) (oi := ⟨some 72, .load 29 (.tmp 4), 29, "mutex.go:40", #[], none⟩) (v := .agg (([.int .i64 kd, .int .i64 z, .int .i64 o1, .int .i64 o2, .int .i64 o3, .int .i64 o4, .int .i64 o5, .int .u32 wa, .int .u32 to, .slice A2 n c2, .slice B2 m d2] : List Value)).toArray) rfl (by kernel_rfl) (by kernel_rfl) (by kernel_rfl) (fun _ _ _ h => h) (yieldsIf_load_mid (by rfl) _ _ (by rfl) (q) (0) (by rfl) _ _ (fun wv hS => blk_rngl hS.out.1) Try.underlying29 (by rfl) (by kernel_rfl)) hS ?_
    try simp only [Act.put, List.setIfInBounds_toArray, List.set_cons_zero, List.set_cons_succ]
    refine wpAnyH_take (i := 1) (oi := ⟨some 73, .load 31 (.tmp 5), 31, "mutex.go:40", #[⟨3, .gcOnly .lateStores⟩], none⟩) (v := .agg (([.int .i64 gop, .int .i64 gstage, .int .i64 gphase, .int .i64 gold, .int .i64 gsince, .int .i64 gleft, .bool gawoke, .bool gstarve, .int .i64 gneed, .bool gfront] : List Value)).toArray) rfl (by kernel_rfl) (by kernel_rfl) (by kernel_rfl) (fun _ _ _ h => h) (yieldsIf_load_mid (by rfl) _ _ (by rfl) (q + 1) (0) (by rfl) _ _ (fun wv hS => blk_rngl hS.out.2.1) Try.underlying31 (by rfl) (by kernel_rfl)) hS ?_
    try simp only [Act.put, List.setIfInBounds_toArray, List.set_cons_zero, List.set_cons_succ]
    refine wpAnyH_take (i := 2) (oi := ⟨some 74, .load 38 (.tmp 11), 38, "mutex.go:40", #[⟨4, .gcOnly .lateStores⟩], none⟩) (v := .agg (([.bool gdn, .bool false, .bool ghd, .int .i64 ggv, .int .i64 gft, .int .u64 0, .slice none 0 0] : List Value)).toArray) rfl (by kernel_rfl) (by kernel_rfl) (by kernel_rfl) (fun _ _ _ h => h) (yieldsIf_load_mid (by rfl) _ _ (by rfl) (q + 5) (0) (by rfl) _ _ (fun wv hS => blk_rngl hS.out.2.2) Try.underlying38 (by rfl) (by kernel_rfl)) hS ?_
    try simp only [Act.put, List.setIfInBounds_toArray, List.set_cons_zero, List.set_cons_succ]
    refine wpAnyH_ready (rs := [3]) (by kernel_rfl) (by simp) (AllReadyH.cons (o := ⟨none, .store 29 (.tmp 8) (.tmp 72), 0, "mutex.go:40", #[⟨0, .data⟩, ⟨0, .phase⟩, ⟨1, .textOnly .lateStores⟩, ⟨2, .textOnly .lateStores⟩], none⟩) rfl (fun K hK => ?_) AllReadyH.nil)
    refine op_storeS (by rfl) rfl rfl rfl (there_blk (HF0.out.blk 2 _ rfl) rfl) (by kernel_rfl) (by simp [Value.oneCell']) hh1.out ?_
    replace hS := Lib.hid (And.intro (HF1.out.blk 0 _ rfl) (And.intro (HF1.out.blk 1 _ rfl) (HF1.out.blk 5 _ rfl)))
    refine Shut.out hK _ _ hS (fun _ => ?_)
    clear hK K
    try simp only [Act.put, List.setIfInBounds_toArray, List.set_cons_zero, List.set_cons_succ]
    refine wpAnyH_ready (rs := [4]) (by kernel_rfl) (by simp) (AllReadyH.cons (o := ⟨none, .store 31 (.tmp 9) (.tmp 73), 0, "mutex.go:40", #[⟨1, .data⟩, ⟨3, .chain⟩, ⟨0, .phase⟩, ⟨1, .phase⟩, ⟨2, .textOnly .lateStores⟩, ⟨3, .phase⟩], none⟩) rfl (fun K hK => ?_) AllReadyH.nil)
    refine op_storeS (by rfl) rfl rfl rfl (there_blk (HF1.out.blk 3 _ rfl) rfl) (by kernel_rfl) (by simp [Value.oneCell']) hh2.out ?_
    replace hS := Lib.hid (And.intro (HF2.out.blk 0 _ rfl) (And.intro (HF2.out.blk 1 _ rfl) (HF2.out.blk 5 _ rfl)))
    refine Shut.out hK _ _ hS (fun _ => ?_)
    clear hK K
    try simp only [Act.put, List.setIfInBounds_toArray, List.set_cons_zero, List.set_cons_succ]
    refine wpAnyH_ready (rs := [5]) (by kernel_rfl) (by simp) (AllReadyH.cons (o := ⟨none, .store 38 (.tmp 10) (.tmp 74), 0, "mutex.go:40", #[⟨2, .data⟩, ⟨4, .chain⟩, ⟨0, .phase⟩, ⟨1, .phase⟩, ⟨2, .phase⟩, ⟨3, .phase⟩, ⟨4, .phase⟩], none⟩) rfl (fun K hK => ?_) AllReadyH.nil)
    refine op_storeS (by rfl) rfl rfl rfl (there_blk (HF2.out.blk 4 _ rfl) rfl) (by kernel_rfl) (by simp [Value.oneCell']) hh3.out ?_
    replace hS := Lib.hid (And.intro (HF3.out.blk 0 _ rfl) (And.intro (HF3.out.blk 1 _ rfl) (HF3.out.blk 5 _ rfl)))
    refine Shut.out hK _ _ hS (fun _ => ?_)
    clear hK K
    try simp only [Act.put, List.setIfInBounds_toArray, List.set_cons_zero, List.set_cons_succ]
    refine wpAnyH_done (by kernel_rfl) ?_ _
    refine NoPanic.normal ?_
    go_wp2
    refine bodyPost_ret (res_ccc Try.results44 (by rfl) (by rfl) (by rfl) (HF3.out.load 2 rfl rfl Try.underlying29 (by kernel_rfl)) (HF3.out.load 3 rfl rfl Try.underlying31 (by kernel_rfl)) (HF3.out.load 4 rfl rfl Try.underlying38 (by kernel_rfl))) rfl ?_
    replace FR := HF3
    rw [HE.out]
    exact ⟨A2, c2, B2, d2, rfl, (by rw [hq]; exact OW.out), (by rw [hq]; exact OC.out), FR.out.out, NW.out, NC.out⟩
  have n4 : (phase == 4) = false := by simp [p4]
  have HE := Lib.hid (show lockM o0 ⟨op, stage, phase, old, since, left, awoke, starve, need, front⟩ now pat = (o0, ⟨op, stage, phase, old, since, left, awoke, starve, need, front⟩, noA) from by
    unfold lockM
    rw [if_neg (fun h => p0 h.1), if_neg (fun h => by rcases h with h | h; exact p0 h; exact p2 h.1), if_neg p1, if_neg p2, if_neg p3, if_neg p4])
  clear p0 p1 p2 p3 p4
  go_enter Try.func44, Try.ntmps44
  have ac0 := row11 (b := q) (FR.out.at 0 rfl rfl)
  go_wp2_with fail
  refine (CP.out _ (FR.out.es RX.out) (FR.out.es RY.out)).mono ?_
  rintro e w3 ⟨A2, c2, B2, d2, rfl, hown, hown2, hb, hA, hB⟩
  clear ac0
  unfold obV
  have hsz := FR.out.sz
  simp only [List.length_set, List.length_cons, List.length_nil] at hsz
  replace FR := Lib.hid (FR.out.step hb)
  have OW := Lib.hid (own_base hown (show q ≤ _ by omega))
  have OC := Lib.hid (own_base hown2 (show q ≤ _ by omega))
  have NW := Lib.hid hA
  have NC := Lib.hid hB
  clear hown hown2 hb hsz hA hB
  obtain ⟨mw7p, w7p, hw7p, hse, F⟩ := FR.out.put11 0 rfl (b := q) rfl (.int .i64 kd) (.int .i64 o0) (.int .i64 o1) (.int .i64 o2) (.int .i64 o3) (.int .i64 o4) (.int .i64 o5) (.int .u32 wa) (.int .u32 to) (.slice A2 n c2) (.slice B2 m d2)
  replace OW := Lib.hid (own_whole (by decide) OW.out (FR.out.blk 0 _ rfl) hse)
  replace OC := Lib.hid (own_whole (by decide) OC.out (FR.out.blk 0 _ rfl) hse)
  replace FR := F
  clear F hse
  have cc0 := row11 (b := q) (FR.out.at 0 rfl rfl)
  have cc1 := row10 (b := q + 1) (FR.out.at 1 rfl rfl)
  go_wp2
  replace OW := Lib.hid OW.out.drew
  replace OC := Lib.hid OC.out.drew
  have HF0 := Lib.hid FR.out.drew
  obtain ⟨w8r, hw8r⟩ : ∃ W, w7p.drew.setCells (q + 2) 0 [.int .i64 kd, .int .i64 o0, .int .i64 o1, .int .i64 o2, .int .i64 o3, .int .i64 o4, .int .i64 o5, .int .u32 wa, .int .u32 to, .slice A2 n c2, .slice B2 m d2] = W := ⟨_, rfl⟩
  replace OW := Lib.hid (own_whole (by decide) OW.out (HF0.out.blk 2 _ rfl) hw8r)
  replace OC := Lib.hid (own_whole (by decide) OC.out (HF0.out.blk 2 _ rfl) hw8r)
  have HF1 := Lib.hid ((HF0.out.all 2 rfl rfl (by rfl)).eqw hw8r)
  have hh1 := Lib.hid hw8r
  clear hw8r
  obtain ⟨w9r, hw9r⟩ : ∃ W, w8r.setCells (q + 3) 0 [.int .i64 op, .int .i64 stage, .int .i64 phase, .int .i64 old, .int .i64 since, .int .i64 left, .bool awoke, .bool starve, .int .i64 need, .bool front] = W := ⟨_, rfl⟩
  replace OW := Lib.hid (own_whole (by decide) OW.out (HF1.out.blk 3 _ rfl) hw9r)
  replace OC := Lib.hid (own_whole (by decide) OC.out (HF1.out.blk 3 _ rfl) hw9r)
  have HF2 := Lib.hid ((HF1.out.all 3 rfl rfl (by rfl)).eqw hw9r)
  have hh2 := Lib.hid hw9r
  clear hw9r
  obtain ⟨w10r, hw10r⟩ : ∃ W, w9r.setCells (q + 4) 0 [.bool false, .bool false, .bool false, .int .i64 0, .int .i64 0, .int .u64 0, .slice none 0 0] = W := ⟨_, rfl⟩
  replace OW := Lib.hid (own_whole (by decide) OW.out (HF2.out.blk 4 _ rfl) hw10r)
  replace OC := Lib.hid (own_whole (by decide) OC.out (HF2.out.blk 4 _ rfl) hw10r)
  have HF3 := Lib.hid ((HF2.out.all 4 rfl rfl (by rfl)).eqw hw10r)
  have hh3 := Lib.hid hw10r
  clear hw10r
  refine wp_region_noPanic ?_
  refine wp_region_held_drew (S := (fun wv => Hid (wv.heap[q]? = some (.cells #[.int .i64 kd, .int .i64 o0, .int .i64 o1, .int .i64 o2, .int .i64 o3, .int .i64 o4, .int .i64 o5, .int .u32 wa, .int .u32 to, .slice A2 n c2, .slice B2 m d2] 29) ∧ wv.heap[q + 1]? = some (.cells #[.int .i64 op, .int .i64 stage, .int .i64 phase, .int .i64 old, .int .i64 since, .int .i64 left, .bool awoke, .bool starve, .int .i64 need, .bool front] 31) ∧ wv.heap[q + 5]? = some (.cells #[.bool false, .bool false, .bool false, .int .i64 0, .int .i64 0, .int .u64 0, .slice none 0 0] 38)))) (by kernel_rfl) (Lib.hid (And.intro (HF0.out.blk 0 _ rfl) (And.intro (HF0.out.blk 1 _ rfl) (HF0.out.blk 5 _ rfl)))) (fun hS => ?_)
  refine wpAnyH_take (i := 0) (oi := ⟨some 72, .load 29 (.tmp 4), 29, "mutex.go:40", #[], none⟩) (v := .agg (([.int .i64 kd, .int .i64 o0, .int .i64 o1, .int .i64 o2, .int .i64 o3, .int .i64 o4, .int .i64 o5, .int .u32 wa, .int .u32 to, .slice A2 n c2, .slice B2 m d2] : List Value)).toArray) rfl (by kernel_rfl) (by kernel_rfl) (by kernel_rfl) (fun _ _ _ h => h) (yieldsIf_load_mid (by rfl) _ _ (by rfl) (q) (0) (by rfl) _ _ (fun wv hS => blk_rngl hS.out.1) Try.underlying29 (by rfl) (by kernel_rfl)) hS ?_
  try simp only [Act.put, List.setIfInBounds_toArray, List.set_cons_zero, List.set_cons_succ]
  refine wpAnyH_take (i := 1) (oi := ⟨some 73, .load 31 (.tmp 5), 31, "mutex.go:40", #[⟨3, .gcOnly .lateStores⟩], none⟩) (v := .agg (([.int .i64 op, .int .i64 stage, .int .i64 phase, .int .i64 old, .int .i64 since, .int .i64 left, .bool awoke, .bool starve, .int .i64 need, .bool front] : List Value)).toArray) rfl (by kernel_rfl) (by kernel_rfl) (by kernel_rfl) (fun _ _ _ h => h) (yieldsIf_load_mid (by rfl) _ _ (by rfl) (q + 1) (0) (by rfl) _ _ (fun wv hS => blk_rngl hS.out.2.1) Try.underlying31 (by rfl) (by kernel_rfl)) hS ?_
  try simp only [Act.put, List.setIfInBounds_toArray, List.set_cons_zero, List.set_cons_succ]
  refine wpAnyH_take (i := 2) (oi := ⟨some 74, .load 38 (.tmp 11), 38, "mutex.go:40", #[⟨4, .gcOnly .lateStores⟩], none⟩) (v := .agg (([.bool false, .bool false, .bool false, .int .i64 0, .int .i64 0, .int .u64 0, .slice none 0 0] : List Value)).toArray) rfl (by kernel_rfl) (by kernel_rfl) (by kernel_rfl) (fun _ _ _ h => h) (yieldsIf_load_mid (by rfl) _ _ (by rfl) (q + 5) (0) (by rfl) _ _ (fun wv hS => blk_rngl hS.out.2.2) Try.underlying38 (by rfl) (by kernel_rfl)) hS ?_
  try simp only [Act.put, List.setIfInBounds_toArray, List.set_cons_zero, List.set_cons_succ]
  refine wpAnyH_ready (rs := [3]) (by kernel_rfl) (by simp) (AllReadyH.cons (o := ⟨none, .store 29 (.tmp 8) (.tmp 72), 0, "mutex.go:40", #[⟨0, .data⟩, ⟨0, .phase⟩, ⟨1, .textOnly .lateStores⟩, ⟨2, .textOnly .lateStores⟩], none⟩) rfl (fun K hK => ?_) AllReadyH.nil)
  refine op_storeS (by rfl) rfl rfl rfl (there_blk (HF0.out.blk 2 _ rfl) rfl) (by kernel_rfl) (by simp [Value.oneCell']) hh1.out ?_
  replace hS := Lib.hid (And.intro (HF1.out.blk 0 _ rfl) (And.intro (HF1.out.blk 1 _ rfl) (HF1.out.blk 5 _ rfl)))
  refine Shut.out hK _ _ hS (fun _ => ?_)
  clear hK K
  try simp only [Act.put, List.setIfInBounds_toArray, List.set_cons_zero, List.set_cons_succ]
  refine wpAnyH_ready (rs := [4]) (by kernel_rfl) (by simp) (AllReadyH.cons (o := ⟨none, .store 31 (.tmp 9) (.tmp 73), 0, "mutex.go:40", #[⟨1, .data⟩, ⟨3, .chain⟩, ⟨0, .phase⟩, ⟨1, .phase⟩, ⟨2, .textOnly .lateStores⟩, ⟨3, .phase⟩], none⟩) rfl (fun K hK => ?_) AllReadyH.nil)
  refine op_storeS (by rfl) rfl rfl rfl (there_blk (HF1.out.blk 3 _ rfl) rfl) (by kernel_rfl) (by simp [Value.oneCell']) hh2.out ?_
  replace hS := Lib.hid (And.intro (HF2.out.blk 0 _ rfl) (And.intro (HF2.out.blk 1 _ rfl) (HF2.out.blk 5 _ rfl)))
  refine Shut.out hK _ _ hS (fun _ => ?_)
  clear hK K
  try simp only [Act.put, List.setIfInBounds_toArray, List.set_cons_zero, List.set_cons_succ]
  refine wpAnyH_ready (rs := [5]) (by kernel_rfl) (by simp) (AllReadyH.cons (o := ⟨none, .store 38 (.tmp 10) (.tmp 74), 0, "mutex.go:40", #[⟨2, .data⟩, ⟨4, .chain⟩, ⟨0, .phase⟩, ⟨1, .phase⟩, ⟨2, .phase⟩, ⟨3, .phase⟩, ⟨4, .phase⟩], none⟩) rfl (fun K hK => ?_) AllReadyH.nil)
  refine op_storeS (by rfl) rfl rfl rfl (there_blk (HF2.out.blk 4 _ rfl) rfl) (by kernel_rfl) (by simp [Value.oneCell']) hh3.out ?_
  replace hS := Lib.hid (And.intro (HF3.out.blk 0 _ rfl) (And.intro (HF3.out.blk 1 _ rfl) (HF3.out.blk 5 _ rfl)))
  refine Shut.out hK _ _ hS (fun _ => ?_)
  clear hK K
  try simp only [Act.put, List.setIfInBounds_toArray, List.set_cons_zero, List.set_cons_succ]
  refine wpAnyH_done (by kernel_rfl) ?_ _
  refine NoPanic.normal ?_
  go_wp2
  refine bodyPost_ret (res_ccc Try.results44 (by rfl) (by rfl) (by rfl) (HF3.out.load 2 rfl rfl Try.underlying29 (by kernel_rfl)) (HF3.out.load 3 rfl rfl Try.underlying31 (by kernel_rfl)) (HF3.out.load 4 rfl rfl Try.underlying38 (by kernel_rfl))) rfl ?_
  replace FR := HF3
  rw [HE.out]
  exact ⟨A2, c2, B2, d2, rfl, (by rw [hq]; exact OW.out), (by rw [hq]; exact OC.out), FR.out.out, NW.out, NC.out⟩
set_option maxRecDepth 100000 in
set_option maxHeartbeats 16000000 in
theorem muUnlock_any (kd o0 o1 o2 o3 o4 o5 wa to : Int) (A : Option Addr) (n c : Nat) (B : Option Addr) (m d : Nat) (nl : List Wt) (ll : List Cl) (f : MFr) (w : World) (hx : Wts w A n c nl) (hy : Cls w B m d ll) (hn : n ≤ 16384) (hm : m ≤ 16384) (hr : IntKind.i64.wrap o0 = o0) : Calls Try.prog 38 #[obV kd o0 o1 o2 o3 o4 o5 wa to A n c B m d, frV f] w (CopC w kd o1 o2 o3 o4 o5 wa to A n B m nl ll (unlockM o0 f)) := by
  have RX := Lib.hid hx; have RY := Lib.hid hy
  have CP := Lib.hid (fun (W : World) (h1 : Wts W A n c nl) (h2 : Cls W B m d ll) => muCopied_any kd o0 o1 o2 o3 o4 o5 wa to A n c B m d nl ll W h1 h2 hn hm)
  clear hx hy hn hm
  obtain ⟨op, stage, phase, old, since, left, awoke, starve, need, front⟩ := f
  unfold obV frV frC
  simp only
  obtain ⟨v1, hv1, z1, v2, hv2, z2, v3, hv3, z3, v4, hv4, z4, v5, hv5, z5, v6, hv6, z6, F⟩ := boxes6 w (.cells #[.int .i64 kd, .int .i64 o0, .int .i64 o1, .int .i64 o2, .int .i64 o3, .int .i64 o4, .int .i64 o5, .int .u32 wa, .int .u32 to, .slice A n c, .slice B m d] 29) (.cells #[.int .i64 op, .int .i64 stage, .int .i64 phase, .int .i64 old, .int .i64 since, .int .i64 left, .bool awoke, .bool starve, .int .i64 need, .bool front] 31) (.cells #[.int .i64 0, .int .i64 0, .int .i64 0, .int .i64 0, .int .i64 0, .int .i64 0, .int .i64 0, .int .u32 0, .int .u32 0, .slice none 0 0, .slice none 0 0] 29) (.cells #[.int .i64 0, .int .i64 0, .int .i64 0, .int .i64 0, .int .i64 0, .int .i64 0, .bool false, .bool false, .int .i64 0, .bool false] 31) (.cells #[.bool false, .bool false, .bool false, .int .i64 0, .int .i64 0, .int .u64 0, .slice none 0 0] 38) (.cells #[.bool false, .bool false, .bool false, .int .i64 0, .int .i64 0, .int .u64 0, .slice none 0 0] 38)
  generalize hq : w.heap.size = q at *
  have FR := Lib.hid F
  clear F
  by_cases p0 : phase = 0
  · subst p0
    obtain ⟨⟨z, ⟨gop, gstage, gphase, gold, gsince, gleft, gawoke, gstarve, gneed, gfront⟩, ⟨gdn, ggv, ghd, gft⟩⟩, hr0⟩ : ∃ r, unlockM o0 ⟨op, stage, 0, old, since, left, awoke, starve, need, front⟩ = r := ⟨_, rfl⟩
    have HE := Lib.hid hr0
    have ST := Lib.hid (show ∀ W : World, Calls Try.prog 48 #[.int .i64 o0, .agg #[.int .i64 op, .int .i64 stage, .int .i64 0, .int .i64 old, .int .i64 since, .int .i64 left, .bool awoke, .bool starve, .int .i64 need, .bool front]] W (fun e w' => e = .returned (.tuple #[.int .i64 z, .agg #[.int .i64 gop, .int .i64 gstage, .int .i64 gphase, .int .i64 gold, .int .i64 gsince, .int .i64 gleft, .bool gawoke, .bool gstarve, .int .i64 gneed, .bool gfront], .agg #[.bool gdn, .bool false, .bool ghd, .int .i64 ggv, .int .i64 gft, .int .u64 0, .slice none 0 0]]) ∧ Below W.heap.size W w') from fun W => by
      have h := muUnOnce_any o0 ⟨op, stage, 0, old, since, left, awoke, starve, need, front⟩ rfl hr W
      rw [hr0] at h
      exact h)
    clear hr0 hr
    go_enter Try.func38, Try.ntmps38
    have ac0 := row11 (b := q) (FR.out.at 0 rfl rfl)
    go_wp2_with fail
    refine (CP.out _ (FR.out.es RX.out) (FR.out.es RY.out)).mono ?_
    rintro e w3 ⟨A2, c2, B2, d2, rfl, hown, hown2, hb, hA, hB⟩
    clear ac0
    unfold obV
    have hsz := FR.out.sz
    simp only [List.length_set, List.length_cons, List.length_nil] at hsz
    replace FR := Lib.hid (FR.out.step hb)
    have OW := Lib.hid (own_base hown (show q ≤ _ by omega))
    have OC := Lib.hid (own_base hown2 (show q ≤ _ by omega))
    have NW := Lib.hid hA
    have NC := Lib.hid hB
    clear hown hown2 hb hsz hA hB
    obtain ⟨mw7p, w7p, hw7p, hse, F⟩ := FR.out.put11 0 rfl (b := q) rfl (.int .i64 kd) (.int .i64 o0) (.int .i64 o1) (.int .i64 o2) (.int .i64 o3) (.int .i64 o4) (.int .i64 o5) (.int .u32 wa) (.int .u32 to) (.slice A2 n c2) (.slice B2 m d2)
    replace OW := Lib.hid (own_whole (by decide) OW.out (FR.out.blk 0 _ rfl) hse)
    replace OC := Lib.hid (own_whole (by decide) OC.out (FR.out.blk 0 _ rfl) hse)
    replace FR := F
    clear F hse
    have cc0 := row11 (b := q) (FR.out.at 0 rfl rfl)
    have cc1 := row10 (b := q + 1) (FR.out.at 1 rfl rfl)
    go_wp2_with fail
    refine (ST.out _).mono ?_
    rintro e w5 ⟨rfl, hb⟩
    clear mw7p cc0 cc1
    clear hw7p
    replace FR := Lib.hid (FR.out.step hb)
    replace OW := Lib.hid (own_below OW.out hb)
    replace OC := Lib.hid (own_below OC.out hb)
    clear hb
    have dc0 := row11 (b := q) (FR.out.at 0 rfl rfl)
    have df01 : w5.frozen? ⟨q, 1, none⟩ = false := FR.out.frozen 0 1 rfl rfl
    obtain ⟨w8p, hw8p⟩ : ∃ W, (w5.setCell ⟨q, 1, none⟩ (.int .i64 z)) = W := ⟨_, rfl⟩
    replace OW := Lib.hid (hw8p ▸ own_set (o := 1) (u := .int .i64 z) OW.out (FR.out.blk 0 _ rfl) (by decide))
    replace OC := Lib.hid (hw8p ▸ own_set (o := 1) (u := .int .i64 z) OC.out (FR.out.blk 0 _ rfl) (by decide))
    replace FR := Lib.hid (((FR.out.set 0 1 rfl rfl (.int .i64 z))).eqw hw8p)
    obtain ⟨mw9p, w9p, hw9p, hse, F⟩ := FR.out.put10 1 rfl (b := q + 1) rfl (.int .i64 gop) (.int .i64 gstage) (.int .i64 gphase) (.int .i64 gold) (.int .i64 gsince) (.int .i64 gleft) (.bool gawoke) (.bool gstarve) (.int .i64 gneed) (.bool gfront)
    replace OW := Lib.hid (own_whole (by decide) OW.out (FR.out.blk 1 _ rfl) hse)
    replace OC := Lib.hid (own_whole (by decide) OC.out (FR.out.blk 1 _ rfl) hse)
    replace FR := F
    clear F hse
    obtain ⟨mw10p, w10p, hw10p, hse, F⟩ := FR.out.put7 5 rfl (b := q + 5) rfl (.bool gdn) (.bool false) (.bool ghd) (.int .i64 ggv) (.int .i64 gft) (.int .u64 0) (.slice none 0 0)
    replace OW := Lib.hid (own_whole (by decide) OW.out (FR.out.blk 5 _ rfl) hse)
    replace OC := Lib.hid (own_whole (by decide) OC.out (FR.out.blk 5 _ rfl) hse)
    replace FR := F
    clear F hse
    go_wp2
    replace OW := Lib.hid OW.out.drew
    replace OC := Lib.hid OC.out.drew
    have HF0 := Lib.hid FR.out.drew
    obtain ⟨w11r, hw11r⟩ : ∃ W, w10p.drew.setCells (q + 2) 0 [.int .i64 kd, .int .i64 z, .int .i64 o1, .int .i64 o2, .int .i64 o3, .int .i64 o4, .int .i64 o5, .int .u32 wa, .int .u32 to, .slice A2 n c2, .slice B2 m d2] = W := ⟨_, rfl⟩
    replace OW := Lib.hid (own_whole (by decide) OW.out (HF0.out.blk 2 _ rfl) hw11r)
    replace OC := Lib.hid (own_whole (by decide) OC.out (HF0.out.blk 2 _ rfl) hw11r)
    have HF1 := Lib.hid ((HF0.out.all 2 rfl rfl (by rfl)).eqw hw11r)
    have hh1 := Lib.hid hw11r
    clear hw11r
    obtain ⟨w12r, hw12r⟩ : ∃ W, w11r.setCells (q + 3) 0 [.int .i64 gop, .int .i64 gstage, .int .i64 gphase, .int .i64 gold, .int .i64 gsince, .int .i64 gleft, .bool gawoke, .bool gstarve, .int .i64 gneed, .bool gfront] = W := ⟨_, rfl⟩
    replace OW := Lib.hid (own_whole (by decide) OW.out (HF1.out.blk 3 _ rfl) hw12r)
    replace OC := Lib.hid (own_whole (by decide) OC.out (HF1.out.blk 3 _ rfl) hw12r)
    have HF2 := Lib.hid ((HF1.out.all 3 rfl rfl (by rfl)).eqw hw12r)
    have hh2 := Lib.hid hw12r
    clear hw12r
    obtain ⟨w13r, hw13r⟩ : ∃ W, w12r.setCells (q + 4) 0 [.bool gdn, .bool false, .bool ghd, .int .i64 ggv, .int .i64 gft, .int .u64 0, .slice none 0 0] = W := ⟨_, rfl⟩
    replace OW := Lib.hid (own_whole (by decide) OW.out (HF2.out.blk 4 _ rfl) hw13r)
    replace OC := Lib.hid (own_whole (by decide) OC.out (HF2.out.blk 4 _ rfl) hw13r)
    have HF3 := Lib.hid ((HF2.out.all 4 rfl rfl (by rfl)).eqw hw13r)
    have hh3 := Lib.hid hw13r
    clear hw13r
    refine wp_region_noPanic ?_
    refine wp_region_held_drew (S := (fun wv => Hid (wv.heap[q]? = some (.cells #[.int .i64 kd, .int .i64 z, .int .i64 o1, .int .i64 o2, .int .i64 o3, .int .i64 o4, .int .i64 o5, .int .u32 wa, .int .u32 to, .slice A2 n c2, .slice B2 m d2] 29) ∧ wv.heap[q + 1]? = some (.cells #[.int .i64 gop, .int .i64 gstage, .int .i64 gphase, .int .i64 gold, .int .i64 gsince, .int .i64 gleft, .bool gawoke, .bool gstarve, .int .i64 gneed, .bool gfront] 31) ∧ wv.heap[q + 5]? = some (.cells #[.bool gdn, .bool false, .bool ghd, .int .i64 ggv, .int .i64 gft, .int .u64 0, .slice none 0 0] 38)))) (by kernel_rfl) (Lib.hid (And.intro (HF0.out.blk 0 _ rfl) (And.intro (HF0.out.blk 1 _ rfl) (HF0.out.blk 5 _ rfl)))) (fun hS => ?_)
    refine wpAnyH_take (i := 0) (oi := ⟨some 46, .load 29 (.tmp 2), 29, "mutex.go:57", #[], none⟩) (v := .agg (([.int .i64 kd, .int .i64 z, .int .i64 o1, .int .i64 o2, .int .i64 o3, .int .i64 o4, .int .i64 o5, .int .u32 wa, .int .u32 to, .slice A2 n c2, .slice B2 m d2] : List Value)).toArray) rfl (by kernel_rfl) (by kernel_rfl) (by kernel_rfl) (fun _ _ _ h => h) (yieldsIf_load_mid (by rfl) _ _ (by rfl) (q) (0) (by rfl) _ _ (fun wv hS => blk_rngl hS.out.1) Try.underlying29 (by rfl) (by kernel_rfl)) hS ?_
    try simp only [Act.put, List.setIfInBounds_toArray, List.set_cons_zero, List.set_cons_succ]
    refine wpAnyH_take (i := 1) (oi := ⟨some 47, .load 31 (.tmp 3), 31, "mutex.go:57", #[⟨3, .gcOnly .lateStores⟩], none⟩) (v := .agg (([.int .i64 gop, .int .i64 gstage, .int .i64 gphase, .int .i64 gold, .int .i64 gsince, .int .i64 gleft, .bool gawoke, .bool gstarve, .int .i64 gneed, .bool gfront] : List Value)).toArray) rfl (by kernel_rfl) (by kernel_rfl) (by kernel_rfl) (fun _ _ _ h => h) (yieldsIf_load_mid (by rfl) _ _ (by rfl) (q + 1) (0) (by rfl) _ _ (fun wv hS => blk_rngl hS.out.2.1) Try.underlying31 (by rfl) (by kernel_rfl)) hS ?_
    try simp only [Act.put, List.setIfInBounds_toArray, List.set_cons_zero, List.set_cons_succ]
    refine wpAnyH_take (i := 2) (oi := ⟨some 48, .load 38 (.tmp 7), 38, "mutex.go:57", #[⟨4, .gcOnly .lateStores⟩], none⟩) (v := .agg (([.bool gdn, .bool false, .bool ghd, .int .i64 ggv, .int .i64 gft, .int .u64 0, .slice none 0 0] : List Value)).toArray) rfl (by kernel_rfl) (by kernel_rfl) (by kernel_rfl) (fun _ _ _ h => h) (yieldsIf_load_mid (by rfl) _ _ (by rfl) (q + 5) (0) (by rfl) _ _ (fun wv hS => blk_rngl hS.out.2.2) Try.underlying38 (by rfl) (by kernel_rfl)) hS ?_
    try simp only [Act.put, List.setIfInBounds_toArray, List.set_cons_zero, List.set_cons_succ]
    refine wpAnyH_ready (rs := [3]) (by kernel_rfl) (by simp) (AllReadyH.cons (o := ⟨none, .store 29 (.tmp 4) (.tmp 46), 0, "mutex.go:57", #[⟨0, .data⟩, ⟨0, .phase⟩, ⟨1, .textOnly .lateStores⟩, ⟨2, .textOnly .lateStores⟩], none⟩) rfl (fun K hK => ?_) AllReadyH.nil)
    refine op_storeS (by rfl) rfl rfl rfl (there_blk (HF0.out.blk 2 _ rfl) rfl) (by kernel_rfl) (by simp [Value.oneCell']) hh1.out ?_
    replace hS := Lib.hid (And.intro (HF1.out.blk 0 _ rfl) (And.intro (HF1.out.blk 1 _ rfl) (HF1.out.blk 5 _ rfl)))
    refine Shut.out hK _ _ hS (fun _ => ?_)
    clear hK K
    try simp only [Act.put, List.setIfInBounds_toArray, List.set_cons_zero, List.set_cons_succ]
    refine wpAnyH_ready (rs := [4]) (by kernel_rfl) (by simp) (AllReadyH.cons (o := ⟨none, .store 31 (.tmp 5) (.tmp 47), 0, "mutex.go:57", #[⟨1, .data⟩, ⟨3, .chain⟩, ⟨0, .phase⟩, ⟨1, .phase⟩, ⟨2, .textOnly .lateStores⟩, ⟨3, .phase⟩], none⟩) rfl (fun K hK => ?_) AllReadyH.nil)
    refine op_storeS (by rfl) rfl rfl rfl (there_blk (HF1.out.blk 3 _ rfl) rfl) (by kernel_rfl) (by simp [Value.oneCell']) hh2.out ?_
    replace hS := Lib.hid (And.intro (HF2.out.blk 0 _ rfl) (And.intro (HF2.out.blk 1 _ rfl) (HF2.out.blk 5 _ rfl)))
    refine Shut.out hK _ _ hS (fun _ => ?_)
    clear hK K
    try simp only [Act.put, List.setIfInBounds_toArray, List.set_cons_zero, List.set_cons_succ]
    refine wpAnyH_ready (rs := [5]) (by kernel_rfl) (by simp) (AllReadyH.cons (o := ⟨none, .store 38 (.tmp 6) (.tmp 48), 0, "mutex.go:57", #[⟨2, .data⟩, ⟨4, .chain⟩, ⟨0, .phase⟩, ⟨1, .phase⟩, ⟨2, .phase⟩, ⟨3, .phase⟩, ⟨4, .phase⟩], none⟩) rfl (fun K hK => ?_) AllReadyH.nil)
    refine op_storeS (by rfl) rfl rfl rfl (there_blk (HF2.out.blk 4 _ rfl) rfl) (by kernel_rfl) (by simp [Value.oneCell']) hh3.out ?_
    replace hS := Lib.hid (And.intro (HF3.out.blk 0 _ rfl) (And.intro (HF3.out.blk 1 _ rfl) (HF3.out.blk 5 _ rfl)))
    refine Shut.out hK _ _ hS (fun _ => ?_)
    clear hK K
    try simp only [Act.put, List.setIfInBounds_toArray, List.set_cons_zero, List.set_cons_succ]
    refine wpAnyH_done (by kernel_rfl) ?_ _
    refine NoPanic.normal ?_
    go_wp2
    refine bodyPost_ret (res_ccc Try.results38 (by rfl) (by rfl) (by rfl) (HF3.out.load 2 rfl rfl Try.underlying29 (by kernel_rfl)) (HF3.out.load 3 rfl rfl Try.underlying31 (by kernel_rfl)) (HF3.out.load 4 rfl rfl Try.underlying38 (by kernel_rfl))) rfl ?_
    replace FR := HF3
    rw [HE.out]
    exact ⟨A2, c2, B2, d2, rfl, (by rw [hq]; exact OW.out), (by rw [hq]; exact OC.out), FR.out.out, NW.out, NC.out⟩
  clear hr
  have n0 : (phase == 0) = false := by simp [p0]
  by_cases p1 : phase = 1
  · subst p1
    obtain ⟨⟨z, ⟨gop, gstage, gphase, gold, gsince, gleft, gawoke, gstarve, gneed, gfront⟩, ⟨gdn, ggv, ghd, gft⟩⟩, hr0⟩ : ∃ r, unlockM o0 ⟨op, stage, 1, old, since, left, awoke, starve, need, front⟩ = r := ⟨_, rfl⟩
    have HE := Lib.hid hr0
    have ST := Lib.hid (show ∀ W : World, Calls Try.prog 49 #[.int .i64 o0, .agg #[.int .i64 op, .int .i64 stage, .int .i64 1, .int .i64 old, .int .i64 since, .int .i64 left, .bool awoke, .bool starve, .int .i64 need, .bool front]] W (fun e w' => e = .returned (.tuple #[.int .i64 z, .agg #[.int .i64 gop, .int .i64 gstage, .int .i64 gphase, .int .i64 gold, .int .i64 gsince, .int .i64 gleft, .bool gawoke, .bool gstarve, .int .i64 gneed, .bool gfront], .agg #[.bool gdn, .bool false, .bool ghd, .int .i64 ggv, .int .i64 gft, .int .u64 0, .slice none 0 0]]) ∧ Below W.heap.size W w') from fun W => by
      have h := muWoke_any o0 ⟨op, stage, 1, old, since, left, awoke, starve, need, front⟩ rfl W
      rw [hr0] at h
      exact h)
    clear hr0 p0 n0
    go_enter Try.func38, Try.ntmps38
    have ac0 := row11 (b := q) (FR.out.at 0 rfl rfl)
    go_wp2_with fail
    refine (CP.out _ (FR.out.es RX.out) (FR.out.es RY.out)).mono ?_
    rintro e w3 ⟨A2, c2, B2, d2, rfl, hown, hown2, hb, hA, hB⟩
    clear ac0
    unfold obV
    have hsz := FR.out.sz
    simp only [List.length_set, List.length_cons, List.length_nil] at hsz
    replace FR := Lib.hid (FR.out.step hb)
    have OW := Lib.hid (own_base hown (show q ≤ _ by omega))
    have OC := Lib.hid (own_base hown2 (show q ≤ _ by omega))
    have NW := Lib.hid hA
    have NC := Lib.hid hB
    clear hown hown2 hb hsz hA hB
    obtain ⟨mw7p, w7p, hw7p, hse, F⟩ := FR.out.put11 0 rfl (b := q) rfl (.int .i64 kd) (.int .i64 o0) (.int .i64 o1) (.int .i64 o2) (.int .i64 o3) (.int .i64 o4) (.int .i64 o5) (.int .u32 wa) (.int .u32 to) (.slice A2 n c2) (.slice B2 m d2)
    replace OW := Lib.hid (own_whole (by decide) OW.out (FR.out.blk 0 _ rfl) hse)
    replace OC := Lib.hid (own_whole (by decide) OC.out (FR.out.blk 0 _ rfl) hse)
    replace FR := F
    clear F hse
    have cc0 := row11 (b := q) (FR.out.at 0 rfl rfl)
    have cc1 := row10 (b := q + 1) (FR.out.at 1 rfl rfl)
    go_wp2_with fail
    refine (ST.out _).mono ?_
    rintro e w5 ⟨rfl, hb⟩
    clear mw7p cc0 cc1
    clear hw7p
    replace FR := Lib.hid (FR.out.step hb)
    replace OW := Lib.hid (own_below OW.out hb)
    replace OC := Lib.hid (own_below OC.out hb)
    clear hb
    have dc0 := row11 (b := q) (FR.out.at 0 rfl rfl)
    have df01 : w5.frozen? ⟨q, 1, none⟩ = false := FR.out.frozen 0 1 rfl rfl
    obtain ⟨w8p, hw8p⟩ : ∃ W, (w5.setCell ⟨q, 1, none⟩ (.int .i64 z)) = W := ⟨_, rfl⟩
    replace OW := Lib.hid (hw8p ▸ own_set (o := 1) (u := .int .i64 z) OW.out (FR.out.blk 0 _ rfl) (by decide))
    replace OC := Lib.hid (hw8p ▸ own_set (o := 1) (u := .int .i64 z) OC.out (FR.out.blk 0 _ rfl) (by decide))
    replace FR := Lib.hid (((FR.out.set 0 1 rfl rfl (.int .i64 z))).eqw hw8p)
    obtain ⟨mw9p, w9p, hw9p, hse, F⟩ := FR.out.put10 1 rfl (b := q + 1) rfl (.int .i64 gop) (.int .i64 gstage) (.int .i64 gphase) (.int .i64 gold) (.int .i64 gsince) (.int .i64 gleft) (.bool gawoke) (.bool gstarve) (.int .i64 gneed) (.bool gfront)
    replace OW := Lib.hid (own_whole (by decide) OW.out (FR.out.blk 1 _ rfl) hse)
    replace OC := Lib.hid (own_whole (by decide) OC.out (FR.out.blk 1 _ rfl) hse)
    replace FR := F
    clear F hse
    obtain ⟨mw10p, w10p, hw10p, hse, F⟩ := FR.out.put7 5 rfl (b := q + 5) rfl (.bool gdn) (.bool false) (.bool ghd) (.int .i64 ggv) (.int .i64 gft) (.int .u64 0) (.slice none 0 0)
    replace OW := Lib.hid (own_whole (by decide) OW.out (FR.out.blk 5 _ rfl) hse)
    replace OC := Lib.hid (own_whole (by decide) OC.out (FR.out.blk 5 _ rfl) hse)
    replace FR := F
    clear F hse
    go_wp2
    replace OW := Lib.hid OW.out.drew
    replace OC := Lib.hid OC.out.drew
    have HF0 := Lib.hid FR.out.drew
    obtain ⟨w11r, hw11r⟩ : ∃ W, w10p.drew.setCells (q + 2) 0 [.int .i64 kd, .int .i64 z, .int .i64 o1, .int .i64 o2, .int .i64 o3, .int .i64 o4, .int .i64 o5, .int .u32 wa, .int .u32 to, .slice A2 n c2, .slice B2 m d2] = W := ⟨_, rfl⟩
    replace OW := Lib.hid (own_whole (by decide) OW.out (HF0.out.blk 2 _ rfl) hw11r)
    replace OC := Lib.hid (own_whole (by decide) OC.out (HF0.out.blk 2 _ rfl) hw11r)
    have HF1 := Lib.hid ((HF0.out.all 2 rfl rfl (by rfl)).eqw hw11r)
    have hh1 := Lib.hid hw11r
    clear hw11r
    obtain ⟨w12r, hw12r⟩ : ∃ W, w11r.setCells (q + 3) 0 [.int .i64 gop, .int .i64 gstage, .int .i64 gphase, .int .i64 gold, .int .i64 gsince, .int .i64 gleft, .bool gawoke, .bool gstarve, .int .i64 gneed, .bool gfront] = W := ⟨_, rfl⟩
    replace OW := Lib.hid (own_whole (by decide) OW.out (HF1.out.blk 3 _ rfl) hw12r)
    replace OC := Lib.hid (own_whole (by decide) OC.out (HF1.out.blk 3 _ rfl) hw12r)
    have HF2 := Lib.hid ((HF1.out.all 3 rfl rfl (by rfl)).eqw hw12r)
    have hh2 := Lib.hid hw12r
    clear hw12r
    obtain ⟨w13r, hw13r⟩ : ∃ W, w12r.setCells (q + 4) 0 [.bool gdn, .bool false, .bool ghd, .int .i64 ggv, .int .i64 gft, .int .u64 0, .slice none 0 0] = W := ⟨_, rfl⟩
    replace OW := Lib.hid (own_whole (by decide) OW.out (HF2.out.blk 4 _ rfl) hw13r)
    replace OC := Lib.hid (own_whole (by decide) OC.out (HF2.out.blk 4 _ rfl) hw13r)
    have HF3 := Lib.hid ((HF2.out.all 4 rfl rfl (by rfl)).eqw hw13r)
    have hh3 := Lib.hid hw13r
    clear hw13r
    refine wp_region_noPanic ?_
    refine wp_region_held_drew (S := (fun wv => Hid (wv.heap[q]? = some (.cells #[.int .i64 kd, .int .i64 z, .int .i64 o1, .int .i64 o2, .int .i64 o3, .int .i64 o4, .int .i64 o5, .int .u32 wa, .int .u32 to, .slice A2 n c2, .slice B2 m d2] 29) ∧ wv.heap[q + 1]? = some (.cells #[.int .i64 gop, .int .i64 gstage, .int .i64 gphase, .int .i64 gold, .int .i64 gsince, .int .i64 gleft, .bool gawoke, .bool gstarve, .int .i64 gneed, .bool gfront] 31) ∧ wv.heap[q + 5]? = some (.cells #[.bool gdn, .bool false, .bool ghd, .int .i64 ggv, .int .i64 gft, .int .u64 0, .slice none 0 0] 38)))) (by kernel_rfl) (Lib.hid (And.intro (HF0.out.blk 0 _ rfl) (And.intro (HF0.out.blk 1 _ rfl) (HF0.out.blk 5 _ rfl)))) (fun hS => ?_)
    refine wpAnyH_take (i := 0) (oi := ⟨some 46, .load 29 (.tmp 2), 29, "mutex.go:57", #[], none⟩) (v := .agg (([.int .i64 kd, .int .i64 z, .int .i64 o1, .int .i64 o2, .int .i64 o3, .int .i64 o4, .int .i64 o5, .int .u32 wa, .int .u32 to, .slice A2 n c2, .slice B2 m d2] : List Value)).toArray) rfl (by kernel_rfl) (by kernel_rfl) (by kernel_rfl) (fun _ _ _ h => h) (yieldsIf_load_mid (by rfl) _ _ (by rfl) (q) (0) (by rfl) _ _ (fun wv hS => blk_rngl hS.out.1) Try.underlying29 (by rfl) (by kernel_rfl)) hS ?_
    try simp only [Act.put, List.setIfInBounds_toArray, List.set_cons_zero, List.set_cons_succ]
    refine wpAnyH_take (i := 1) (oi := ⟨some 47, .load 31 (.tmp 3), 31, "mutex.go:57", #[⟨3, .gcOnly .lateStores⟩], none⟩) (v := .agg (([.int .i64 gop, .int .i64 gstage, .int .i64 gphase, .int .i64 gold, .int .i64 gsince, .int .i64 gleft, .bool gawoke, .bool gstarve, .int .i64 gneed, .bool gfront] : List Value)).toArray) rfl (by kernel_rfl) (by kernel_rfl) (by kernel_rfl) (fun _ _ _ h => h) (yieldsIf_load_mid (by rfl) _ _ (by rfl) (q + 1) (0) (by rfl) _ _ (fun wv hS => blk_rngl hS.out.2.1) Try.underlying31 (by rfl) (by kernel_rfl)) hS ?_
    try simp only [Act.put, List.setIfInBounds_toArray, List.set_cons_zero, List.set_cons_succ]
    refine wpAnyH_take (i := 2) (oi := ⟨some 48, .load 38 (.tmp 7), 38, "mutex.go:57", #[⟨4, .gcOnly .lateStores⟩], none⟩) (v := .agg (([.bool gdn, .bool false, .bool ghd, .int .i64 ggv, .int .i64 gft, .int .u64 0, .slice none 0 0] : List Value)).toArray) rfl (by kernel_rfl) (by kernel_rfl) (by kernel_rfl) (fun _ _ _ h => h) (yieldsIf_load_mid (by rfl) _ _ (by rfl) (q + 5) (0) (by rfl) _ _ (fun wv hS => blk_rngl hS.out.2.2) Try.underlying38 (by rfl) (by kernel_rfl)) hS ?_
    try simp only [Act.put, List.setIfInBounds_toArray, List.set_cons_zero, List.set_cons_succ]
    refine wpAnyH_ready (rs := [3]) (by kernel_rfl) (by simp) (AllReadyH.cons (o := ⟨none, .store 29 (.tmp 4) (.tmp 46), 0, "mutex.go:57", #[⟨0, .data⟩, ⟨0, .phase⟩, ⟨1, .textOnly .lateStores⟩, ⟨2, .textOnly .lateStores⟩], none⟩) rfl (fun K hK => ?_) AllReadyH.nil)
    refine op_storeS (by rfl) rfl rfl rfl (there_blk (HF0.out.blk 2 _ rfl) rfl) (by kernel_rfl) (by simp [Value.oneCell']) hh1.out ?_
    replace hS := Lib.hid (And.intro (HF1.out.blk 0 _ rfl) (And.intro (HF1.out.blk 1 _ rfl) (HF1.out.blk 5 _ rfl)))
    refine Shut.out hK _ _ hS (fun _ => ?_)
    clear hK K
    try simp only [Act.put, List.setIfInBounds_toArray, List.set_cons_zero, List.set_cons_succ]
    refine wpAnyH_ready (rs := [4]) (by kernel_rfl) (by simp) (AllReadyH.cons (o := ⟨none, .store 31 (.tmp 5) (.tmp 47), 0, "mutex.go:57", #[⟨1, .data⟩, ⟨3, .chain⟩, ⟨0, .phase⟩, ⟨1, .phase⟩, ⟨2, .textOnly .lateStores⟩, ⟨3, .phase⟩], none⟩) rfl (fun K hK => ?_) AllReadyH.nil)
    refine op_storeS (by rfl) rfl rfl rfl (there_blk (HF1.out.blk 3 _ rfl) rfl) (by kernel_rfl) (by simp [Value.oneCell']) hh2.out ?_
    replace hS := Lib.hid (And.intro (HF2.out.blk 0 _ rfl) (And.intro (HF2.out.blk 1 _ rfl) (HF2.out.blk 5 _ rfl)))
    refine Shut.out hK _ _ hS (fun _ => ?_)
    clear hK K
    try simp only [Act.put, List.setIfInBounds_toArray, List.set_cons_zero, List.set_cons_succ]
    refine wpAnyH_ready (rs := [5]) (by kernel_rfl) (by simp) (AllReadyH.cons (o := ⟨none, .store 38 (.tmp 6) (.tmp 48), 0, "mutex.go:57", #[⟨2, .data⟩, ⟨4, .chain⟩, ⟨0, .phase⟩, ⟨1, .phase⟩, ⟨2, .phase⟩, ⟨3, .phase⟩, ⟨4, .phase⟩], none⟩) rfl (fun K hK => ?_) AllReadyH.nil)
    refine op_storeS (by rfl) rfl rfl rfl (there_blk (HF2.out.blk 4 _ rfl) rfl) (by kernel_rfl) (by simp [Value.oneCell']) hh3.out ?_
    replace hS := Lib.hid (And.intro (HF3.out.blk 0 _ rfl) (And.intro (HF3.out.blk 1 _ rfl) (HF3.out.blk 5 _ rfl)))
    refine Shut.out hK _ _ hS (fun _ => ?_)
    clear hK K
    try simp only [Act.put, List.setIfInBounds_toArray, List.set_cons_zero, List.set_cons_succ]
    refine wpAnyH_done (by kernel_rfl) ?_ _
    refine NoPanic.normal ?_
    go_wp2
    refine bodyPost_ret (res_ccc Try.results38 (by rfl) (by rfl) (by rfl) (HF3.out.load 2 rfl rfl Try.underlying29 (by kernel_rfl)) (HF3.out.load 3 rfl rfl Try.underlying31 (by kernel_rfl)) (HF3.out.load 4 rfl rfl Try.underlying38 (by kernel_rfl))) rfl ?_
    replace FR := HF3
    rw [HE.out]
    exact ⟨A2, c2, B2, d2, rfl, (by rw [hq]; exact OW.out), (by rw [hq]; exact OC.out), FR.out.out, NW.out, NC.out⟩
  have n1 : (phase == 1) = false := by simp [p1]
  by_cases p2 : phase = 2
  · subst p2
    have HE := Lib.hid (show unlockM o0 ⟨op, stage, 2, old, since, left, awoke, starve, need, front⟩ = (o0, noF, ⟨true, 2, true, 0⟩) from by
      unfold unlockM
      rw [if_neg (fun h => (show ¬ ((2 : Int) = 0) by decide) h.1), if_neg (fun h => (show ¬ ((2 : Int) = 0) by decide) h), if_neg (fun h => (show ¬ ((2 : Int) = 1) by decide) h), if_pos rfl])
    clear p0 n0 p1 n1
    go_enter Try.func38, Try.ntmps38
    have ac0 := row11 (b := q) (FR.out.at 0 rfl rfl)
    go_wp2_with fail
    refine (CP.out _ (FR.out.es RX.out) (FR.out.es RY.out)).mono ?_
    rintro e w3 ⟨A2, c2, B2, d2, rfl, hown, hown2, hb, hA, hB⟩
    clear ac0
    unfold obV
    have hsz := FR.out.sz
    simp only [List.length_set, List.length_cons, List.length_nil] at hsz
    replace FR := Lib.hid (FR.out.step hb)
    have OW := Lib.hid (own_base hown (show q ≤ _ by omega))
    have OC := Lib.hid (own_base hown2 (show q ≤ _ by omega))
    have NW := Lib.hid hA
    have NC := Lib.hid hB
    clear hown hown2 hb hsz hA hB
    obtain ⟨mw7p, w7p, hw7p, hse, F⟩ := FR.out.put11 0 rfl (b := q) rfl (.int .i64 kd) (.int .i64 o0) (.int .i64 o1) (.int .i64 o2) (.int .i64 o3) (.int .i64 o4) (.int .i64 o5) (.int .u32 wa) (.int .u32 to) (.slice A2 n c2) (.slice B2 m d2)
    replace OW := Lib.hid (own_whole (by decide) OW.out (FR.out.blk 0 _ rfl) hse)
    replace OC := Lib.hid (own_whole (by decide) OC.out (FR.out.blk 0 _ rfl) hse)
    replace FR := F
    clear F hse
    have cc0 := row11 (b := q) (FR.out.at 0 rfl rfl)
    have cc1 := row10 (b := q + 1) (FR.out.at 1 rfl rfl)
    obtain ⟨mw8p, w8p, hw8p, hse, F⟩ := FR.out.put10 1 rfl (b := q + 1) rfl (.int .i64 0) (.int .i64 0) (.int .i64 0) (.int .i64 0) (.int .i64 0) (.int .i64 0) (.bool false) (.bool false) (.int .i64 0) (.bool false)
    replace OW := Lib.hid (own_whole (by decide) OW.out (FR.out.blk 1 _ rfl) hse)
    replace OC := Lib.hid (own_whole (by decide) OC.out (FR.out.blk 1 _ rfl) hse)
    replace FR := F
    clear F hse
    obtain ⟨mw9p, w9p, hw9p, hse, F⟩ := FR.out.put7 5 rfl (b := q + 5) rfl (.bool true) (.bool false) (.bool true) (.int .i64 2) (.int .i64 0) (.int .u64 0) (.slice none 0 0)
    replace OW := Lib.hid (own_whole (by decide) OW.out (FR.out.blk 5 _ rfl) hse)
    replace OC := Lib.hid (own_whole (by decide) OC.out (FR.out.blk 5 _ rfl) hse)
    replace FR := F
    clear F hse
    go_wp2
    replace OW := Lib.hid OW.out.drew
    replace OC := Lib.hid OC.out.drew
    have HF0 := Lib.hid FR.out.drew
    obtain ⟨w10r, hw10r⟩ : ∃ W, w9p.drew.setCells (q + 2) 0 [.int .i64 kd, .int .i64 o0, .int .i64 o1, .int .i64 o2, .int .i64 o3, .int .i64 o4, .int .i64 o5, .int .u32 wa, .int .u32 to, .slice A2 n c2, .slice B2 m d2] = W := ⟨_, rfl⟩
    replace OW := Lib.hid (own_whole (by decide) OW.out (HF0.out.blk 2 _ rfl) hw10r)
    replace OC := Lib.hid (own_whole (by decide) OC.out (HF0.out.blk 2 _ rfl) hw10r)
    have HF1 := Lib.hid ((HF0.out.all 2 rfl rfl (by rfl)).eqw hw10r)
    have hh1 := Lib.hid hw10r
    clear hw10r
    obtain ⟨w11r, hw11r⟩ : ∃ W, w10r.setCells (q + 3) 0 [.int .i64 0, .int .i64 0, .int .i64 0, .int .i64 0, .int .i64 0, .int .i64 0, .bool false, .bool false, .int .i64 0, .bool false] = W := ⟨_, rfl⟩
    replace OW := Lib.hid (own_whole (by decide) OW.out (HF1.out.blk 3 _ rfl) hw11r)
    replace OC := Lib.hid (own_whole (by decide) OC.out (HF1.out.blk 3 _ rfl) hw11r)
    have HF2 := Lib.hid ((HF1.out.all 3 rfl rfl (by rfl)).eqw hw11r)
    have hh2 := Lib.hid hw11r
    clear hw11r
    obtain ⟨w12r, hw12r⟩ : ∃ W, w11r.setCells (q + 4) 0 [.bool true, .bool false, .bool true, .int .i64 2, .int .i64 0, .int .u64 0, .slice none 0 0] = W := ⟨_, rfl⟩
    replace OW := Lib.hid (own_whole (by decide) OW.out (HF2.out.blk 4 _ rfl) hw12r)
    replace OC := Lib.hid (own_whole (by decide) OC.out (HF2.out.blk 4 _ rfl) hw12r)
    have HF3 := Lib.hid ((HF2.out.all 4 rfl rfl (by rfl)).eqw hw12r)
    have hh3 := Lib.hid hw12r
    clear hw12r
    refine wp_region_noPanic ?_
    refine wp_region_held_drew (S := (fun wv => Hid (wv.heap[q]? = some (.cells #[.int .i64 kd, .int .i64 o0, .int .i64 o1, .int .i64 o2, .int .i64 o3, .int .i64 o4, .int .i64 o5, .int .u32 wa, .int .u32 to, .slice A2 n c2, .slice B2 m d2] 29) ∧ wv.heap[q + 1]? = some (.cells #[.int .i64 0, .int .i64 0, .int .i64 0, .int .i64 0, .int .i64 0, .int .i64 0, .bool false, .bool false, .int .i64 0, .bool false] 31) ∧ wv.heap[q + 5]? = some (.cells #[.bool true, .bool false, .bool true, .int .i64 2, .int .i64 0, .int .u64 0, .slice none 0 0] 38)))) (by kernel_rfl) (Lib.hid (And.intro (HF0.out.blk 0 _ rfl) (And.intro (HF0.out.blk 1 _ rfl) (HF0.out.blk 5 _ rfl)))) (fun hS => ?_)
    refine wpAnyH_take (i := 0) (oi := ⟨some 46, .load 29 (.tmp 2), 29, "mutex.go:57", #[], none⟩) (v := .agg (([.int .i64 kd, .int .i64 o0, .int .i64 o1, .int .i64 o2, .int .i64 o3, .int .i64 o4, .int .i64 o5, .int .u32 wa, .int .u32 to, .slice A2 n c2, .slice B2 m d2] : List Value)).toArray) rfl (by kernel_rfl) (by kernel_rfl) (by kernel_rfl) (fun _ _ _ h => h) (yieldsIf_load_mid (by rfl) _ _ (by rfl) (q) (0) (by rfl) _ _ (fun wv hS => blk_rngl hS.out.1) Try.underlying29 (by rfl) (by kernel_rfl)) hS ?_
    try simp only [Act.put, List.setIfInBounds_toArray, List.set_cons_zero, List.set_cons_succ]
    refine wpAnyH_take (i := 1) (oi := ⟨some 47, .load 31 (.tmp 3), 31, "mutex.go:57", #[⟨3, .gcOnly .lateStores⟩], none⟩) (v := .agg (([.int .i64 0, .int .i64 0, .int .i64 0, .int .i64 0, .int .i64 0, .int .i64 0, .bool false, .bool false, .int .i64 0, .bool false] : List Value)).toArray) rfl (by kernel_rfl) (by kernel_rfl) (by kernel_rfl) (fun _ _ _ h => h) (yieldsIf_load_mid (by rfl) _ _ (by rfl) (q + 1) (0) (by rfl) _ _ (fun wv hS => blk_rngl hS.out.2.1) Try.underlying31 (by rfl) (by kernel_rfl)) hS ?_
    try simp only [Act.put, List.setIfInBounds_toArray, List.set_cons_zero, List.set_cons_succ]
    refine wpAnyH_take (i := 2) (oi := ⟨some 48, .load 38 (.tmp 7), 38, "mutex.go:57", #[⟨4, .gcOnly .lateStores⟩], none⟩) (v := .agg (([.bool true, .bool false, .bool true, .int .i64 2, .int .i64 0, .int .u64 0, .slice none 0 0] : List Value)).toArray) rfl (by kernel_rfl) (by kernel_rfl) (by kernel_rfl) (fun _ _ _ h => h) (yieldsIf_load_mid (by rfl) _ _ (by rfl) (q + 5) (0) (by rfl) _ _ (fun wv hS => blk_rngl hS.out.2.2) Try.underlying38 (by rfl) (by kernel_rfl)) hS ?_
    try simp only [Act.put, List.setIfInBounds_toArray, List.set_cons_zero, List.set_cons_succ]
    refine wpAnyH_ready (rs := [3]) (by kernel_rfl) (by simp) (AllReadyH.cons (o := ⟨none, .store 29 (.tmp 4) (.tmp 46), 0, "mutex.go:57", #[⟨0, .data⟩, ⟨0, .phase⟩, ⟨1, .textOnly .lateStores⟩, ⟨2, .textOnly .lateStores⟩], none⟩) rfl (fun K hK => ?_) AllReadyH.nil)
    refine op_storeS (by rfl) rfl rfl rfl (there_blk (HF0.out.blk 2 _ rfl) rfl) (by kernel_rfl) (by simp [Value.oneCell']) hh1.out ?_
    replace hS := Lib.hid (And.intro (HF1.out.blk 0 _ rfl) (And.intro (HF1.out.blk 1 _ rfl) (HF1.out.blk 5 _ rfl)))
    refine Shut.out hK _ _ hS (fun _ => ?_)
    clear hK K
    try simp only [Act.put, List.setIfInBounds_toArray, List.set_cons_zero, List.set_cons_succ]
    refine wpAnyH_ready (rs := [4]) (by kernel_rfl) (by simp) (AllReadyH.cons (o := ⟨none, .store 31 (.tmp 5) (.tmp 47), 0, "mutex.go:57", #[⟨1, .data⟩, ⟨3, .chain⟩, ⟨0, .phase⟩, ⟨1, .phase⟩, ⟨2, .textOnly .lateStores⟩, ⟨3, .phase⟩], none⟩) rfl (fun K hK => ?_) AllReadyH.nil)
    refine op_storeS (by rfl) rfl rfl rfl (there_blk (HF1.out.blk 3 _ rfl) rfl) (by kernel_rfl) (by simp [Value.oneCell']) hh2.out ?_
    replace hS := Lib.hid (And.intro (HF2.out.blk 0 _ rfl) (And.intro (HF2.out.blk 1 _ rfl) (HF2.out.blk 5 _ rfl)))
    refine Shut.out hK _ _ hS (fun _ => ?_)
    clear hK K
    try simp only [Act.put, List.setIfInBounds_toArray, List.set_cons_zero, List.set_cons_succ]
    refine wpAnyH_ready (rs := [5]) (by kernel_rfl) (by simp) (AllReadyH.cons (o := ⟨none, .store 38 (.tmp 6) (.tmp 48), 0, "mutex.go:57", #[⟨2, .data⟩, ⟨4, .chain⟩, ⟨0, .phase⟩, ⟨1, .phase⟩, ⟨2, .phase⟩, ⟨3, .phase⟩, ⟨4, .phase⟩], none⟩) rfl (fun K hK => ?_) AllReadyH.nil)
    refine op_storeS (by rfl) rfl rfl rfl (there_blk (HF2.out.blk 4 _ rfl) rfl) (by kernel_rfl) (by simp [Value.oneCell']) hh3.out ?_
    replace hS := Lib.hid (And.intro (HF3.out.blk 0 _ rfl) (And.intro (HF3.out.blk 1 _ rfl) (HF3.out.blk 5 _ rfl)))
    refine Shut.out hK _ _ hS (fun _ => ?_)
    clear hK K
    try simp only [Act.put, List.setIfInBounds_toArray, List.set_cons_zero, List.set_cons_succ]
    refine wpAnyH_done (by kernel_rfl) ?_ _
    refine NoPanic.normal ?_
    go_wp2
    refine bodyPost_ret (res_ccc Try.results38 (by rfl) (by rfl) (by rfl) (HF3.out.load 2 rfl rfl Try.underlying29 (by kernel_rfl)) (HF3.out.load 3 rfl rfl Try.underlying31 (by kernel_rfl)) (HF3.out.load 4 rfl rfl Try.underlying38 (by kernel_rfl))) rfl ?_
    replace FR := HF3
    rw [HE.out]
    exact ⟨A2, c2, B2, d2, rfl, (by rw [hq]; exact OW.out), (by rw [hq]; exact OC.out), FR.out.out, NW.out, NC.out⟩
  have n2 : (phase == 2) = false := by simp [p2]
  by_cases p3 : phase = 3
  · subst p3
    have HE := Lib.hid (show unlockM o0 ⟨op, stage, 3, old, since, left, awoke, starve, need, front⟩ = (o0, noF, ⟨true, 2, false, 0⟩) from by
      unfold unlockM
      rw [if_neg (fun h => (show ¬ ((3 : Int) = 0) by decide) h.1), if_neg (fun h => (show ¬ ((3 : Int) = 0) by decide) h), if_neg (fun h => (show ¬ ((3 : Int) = 1) by decide) h), if_neg (fun h => (show ¬ ((3 : Int) = 2) by decide) h), if_pos rfl])
    clear p0 n0 p1 n1 p2 n2
    go_enter Try.func38, Try.ntmps38
    have ac0 := row11 (b := q) (FR.out.at 0 rfl rfl)
    go_wp2_with fail
    refine (CP.out _ (FR.out.es RX.out) (FR.out.es RY.out)).mono ?_
    rintro e w3 ⟨A2, c2, B2, d2, rfl, hown, hown2, hb, hA, hB⟩
    clear ac0
    unfold obV
    have hsz := FR.out.sz
    simp only [List.length_set, List.length_cons, List.length_nil] at hsz
    replace FR := Lib.hid (FR.out.step hb)
    have OW := Lib.hid (own_base hown (show q ≤ _ by omega))
    have OC := Lib.hid (own_base hown2 (show q ≤ _ by omega))
    have NW := Lib.hid hA
    have NC := Lib.hid hB
    clear hown hown2 hb hsz hA hB
    obtain ⟨mw7p, w7p, hw7p, hse, F⟩ := FR.out.put11 0 rfl (b := q) rfl (.int .i64 kd) (.int .i64 o0) (.int .i64 o1) (.int .i64 o2) (.int .i64 o3) (.int .i64 o4) (.int .i64 o5) (.int .u32 wa) (.int .u32 to) (.slice A2 n c2) (.slice B2 m d2)
    replace OW := Lib.hid (own_whole (by decide) OW.out (FR.out.blk 0 _ rfl) hse)
    replace OC := Lib.hid (own_whole (by decide) OC.out (FR.out.blk 0 _ rfl) hse)
    replace FR := F
    clear F hse
    have cc0 := row11 (b := q) (FR.out.at 0 rfl rfl)
    have cc1 := row10 (b := q + 1) (FR.out.at 1 rfl rfl)
    obtain ⟨mw8p, w8p, hw8p, hse, F⟩ := FR.out.put10 1 rfl (b := q + 1) rfl (.int .i64 0) (.int .i64 0) (.int .i64 0) (.int .i64 0) (.int .i64 0) (.int .i64 0) (.bool false) (.bool false) (.int .i64 0) (.bool false)
    replace OW := Lib.hid (own_whole (by decide) OW.out (FR.out.blk 1 _ rfl) hse)
    replace OC := Lib.hid (own_whole (by decide) OC.out (FR.out.blk 1 _ rfl) hse)
    replace FR := F
    clear F hse
    obtain ⟨mw9p, w9p, hw9p, hse, F⟩ := FR.out.put7 5 rfl (b := q + 5) rfl (.bool true) (.bool false) (.bool false) (.int .i64 2) (.int .i64 0) (.int .u64 0) (.slice none 0 0)
    replace OW := Lib.hid (own_whole (by decide) OW.out (FR.out.blk 5 _ rfl) hse)
    replace OC := Lib.hid (own_whole (by decide) OC.out (FR.out.blk 5 _ rfl) hse)
    replace FR := F
    clear F hse
    go_wp2
    replace OW := Lib.hid OW.out.drew
    replace OC := Lib.hid OC.out.drew
    have HF0 := Lib.hid FR.out.drew
    obtain ⟨w10r, hw10r⟩ : ∃ W, w9p.drew.setCells (q + 2) 0 [.int .i64 kd, .int .i64 o0, .int .i64 o1, .int .i64 o2, .int .i64 o3, .int .i64 o4, .int .i64 o5, .int .u32 wa, .int .u32 to, .slice A2 n c2, .slice B2 m d2] = W := ⟨_, rfl⟩
    replace OW := Lib.hid (own_whole (by decide) OW.out (HF0.out.blk 2 _ rfl) hw10r)
    replace OC := Lib.hid (own_whole (by decide) OC.out (HF0.out.blk 2 _ rfl) hw10r)
    have HF1 := Lib.hid ((HF0.out.all 2 rfl rfl (by rfl)).eqw hw10r)
    have hh1 := Lib.hid hw10r
    clear hw10r
    obtain ⟨w11r, hw11r⟩ : ∃ W, w10r.setCells (q + 3) 0 [.int .i64 0, .int .i64 0, .int .i64 0, .int .i64 0, .int .i64 0, .int .i64 0, .bool false, .bool false, .int .i64 0, .bool false] = W := ⟨_, rfl⟩
    replace OW := Lib.hid (own_whole (by decide) OW.out (HF1.out.blk 3 _ rfl) hw11r)
    replace OC := Lib.hid (own_whole (by decide) OC.out (HF1.out.blk 3 _ rfl) hw11r)
    have HF2 := Lib.hid ((HF1.out.all 3 rfl rfl (by rfl)).eqw hw11r)
    have hh2 := Lib.hid hw11r
    clear hw11r
    obtain ⟨w12r, hw12r⟩ : ∃ W, w11r.setCells (q + 4) 0 [.bool true, .bool false, .bool false, .int .i64 2, .int .i64 0, .int .u64 0, .slice none 0 0] = W := ⟨_, rfl⟩
    replace OW := Lib.hid (own_whole (by decide) OW.out (HF2.out.blk 4 _ rfl) hw12r)
    replace OC := Lib.hid (own_whole (by decide) OC.out (HF2.out.blk 4 _ rfl) hw12r)
    have HF3 := Lib.hid ((HF2.out.all 4 rfl rfl (by rfl)).eqw hw12r)
    have hh3 := Lib.hid hw12r
    clear hw12r
    refine wp_region_noPanic ?_
    refine wp_region_held_drew (S := (fun wv => Hid (wv.heap[q]? = some (.cells #[.int .i64 kd, .int .i64 o0, .int .i64 o1, .int .i64 o2, .int .i64 o3, .int .i64 o4, .int .i64 o5, .int .u32 wa, .int .u32 to, .slice A2 n c2, .slice B2 m d2] 29) ∧ wv.heap[q + 1]? = some (.cells #[.int .i64 0, .int .i64 0, .int .i64 0, .int .i64 0, .int .i64 0, .int .i64 0, .bool false, .bool false, .int .i64 0, .bool false] 31) ∧ wv.heap[q + 5]? = some (.cells #[.bool true, .bool false, .bool false, .int .i64 2, .int .i64 0, .int .u64 0, .slice none 0 0] 38)))) (by kernel_rfl) (Lib.hid (And.intro (HF0.out.blk 0 _ rfl) (And.intro (HF0.out.blk 1 _ rfl) (HF0.out.blk 5 _ rfl)))) (fun hS => ?_)
    refine wpAnyH_take (i := 0) (oi := ⟨some 46, .load 29 (.tmp 2), 29, "mutex.go:57", #[], none⟩) (v := .agg (([.int .i64 kd, .int .i64 o0, .int .i64 o1, .int .i64 o2, .int .i64 o3, .int .i64 o4, .int .i64 o5, .int .u32 wa, .int .u32 to, .slice A2 n c2, .slice B2 m d2] : List Value)).toArray) rfl (by kernel_rfl) (by kernel_rfl) (by kernel_rfl) (fun _ _ _ h => h) (yieldsIf_load_mid (by rfl) _ _ (by rfl) (q) (0) (by rfl) _ _ (fun wv hS => blk_rngl hS.out.1) Try.underlying29 (by rfl) (by kernel_rfl)) hS ?_
    try simp only [Act.put, List.setIfInBounds_toArray, List.set_cons_zero, List.set_cons_succ]
    refine wpAnyH_take (i := 1) (oi := ⟨some 47, .load 31 (.tmp 3), 31, "mutex.go:57", #[⟨3, .gcOnly .lateStores⟩], none⟩) (v := .agg (([.int .i64 0, .int .i64 0, .int .i64 0, .int .i64 0, .int .i64 0, .int .i64 0, .bool false, .bool false, .int .i64 0, .bool false] : List Value)).toArray) rfl (by kernel_rfl) (by kernel_rfl) (by kernel_rfl) (fun _ _ _ h => h) (yieldsIf_load_mid (by rfl) _ _ (by rfl) (q + 1) (0) (by rfl) _ _ (fun wv hS => blk_rngl hS.out.2.1) Try.underlying31 (by rfl) (by kernel_rfl)) hS ?_
    try simp only [Act.put, List.setIfInBounds_toArray, List.set_cons_zero, List.set_cons_succ]
    refine wpAnyH_take (i := 2) (oi := ⟨some 48, .load 38 (.tmp 7), 38, "mutex.go:57", #[⟨4, .gcOnly .lateStores⟩], none⟩) (v := .agg (([.bool true, .bool false, .bool false, .int .i64 2, .int .i64 0, .int .u64 0, .slice none 0 0] : List Value)).toArray) rfl (by kernel_rfl) (by kernel_rfl) (by kernel_rfl) (fun _ _ _ h => h) (yieldsIf_load_mid (by rfl) _ _ (by rfl) (q + 5) (0) (by rfl) _ _ (fun wv hS => blk_rngl hS.out.2.2) Try.underlying38 (by rfl) (by kernel_rfl)) hS ?_
    try simp only [Act.put, List.setIfInBounds_toArray, List.set_cons_zero, List.set_cons_succ]
    refine wpAnyH_ready (rs := [3]) (by kernel_rfl) (by simp) (AllReadyH.cons (o := ⟨none, .store 29 (.tmp 4) (.tmp 46), 0, "mutex.go:57", #[⟨0, .data⟩, ⟨0, .phase⟩, ⟨1, .textOnly .lateStores⟩, ⟨2, .textOnly .lateStores⟩], none⟩) rfl (fun K hK => ?_) AllReadyH.nil)
    refine op_storeS (by rfl) rfl rfl rfl (there_blk (HF0.out.blk 2 _ rfl) rfl) (by kernel_rfl) (by simp [Value.oneCell']) hh1.out ?_
    replace hS := Lib.hid (And.intro (HF1.out.blk 0 _ rfl) (And.intro (HF1.out.blk 1 _ rfl) (HF1.out.blk 5 _ rfl)))
    refine Shut.out hK _ _ hS (fun _ => ?_)
    clear hK K
    try simp only [Act.put, List.setIfInBounds_toArray, List.set_cons_zero, List.set_cons_succ]
    refine wpAnyH_ready (rs := [4]) (by kernel_rfl) (by simp) (AllReadyH.cons (o := ⟨none, .store 31 (.tmp 5) (.tmp 47), 0, "mutex.go:57", #[⟨1, .data⟩, ⟨3, .chain⟩, ⟨0, .phase⟩, ⟨1, .phase⟩, ⟨2, .textOnly .lateStores⟩, ⟨3, .phase⟩], none⟩) rfl (fun K hK => ?_) AllReadyH.nil)
    refine op_storeS (by rfl) rfl rfl rfl (there_blk (HF1.out.blk 3 _ rfl) rfl) (by kernel_rfl) (by simp [Value.oneCell']) hh2.out ?_
    replace hS := Lib.hid (And.intro (HF2.out.blk 0 _ rfl) (And.intro (HF2.out.blk 1 _ rfl) (HF2.out.blk 5 _ rfl)))
    refine Shut.out hK _ _ hS (fun _ => ?_)
    clear hK K
    try simp only [Act.put, List.setIfInBounds_toArray, List.set_cons_zero, List.set_cons_succ]
    refine wpAnyH_ready (rs := [5]) (by kernel_rfl) (by simp) (AllReadyH.cons (o := ⟨none, .store 38 (.tmp 6) (.tmp 48), 0, "mutex.go:57", #[⟨2, .data⟩, ⟨4, .chain⟩, ⟨0, .phase⟩, ⟨1, .phase⟩, ⟨2, .phase⟩, ⟨3, .phase⟩, ⟨4, .phase⟩], none⟩) rfl (fun K hK => ?_) AllReadyH.nil)
    refine op_storeS (by rfl) rfl rfl rfl (there_blk (HF2.out.blk 4 _ rfl) rfl) (by kernel_rfl) (by simp [Value.oneCell']) hh3.out ?_
    replace hS := Lib.hid (And.intro (HF3.out.blk 0 _ rfl) (And.intro (HF3.out.blk 1 _ rfl) (HF3.out.blk 5 _ rfl)))
    refine Shut.out hK _ _ hS (fun _ => ?_)
    clear hK K
    try simp only [Act.put, List.setIfInBounds_toArray, List.set_cons_zero, List.set_cons_succ]
    refine wpAnyH_done (by kernel_rfl) ?_ _
    refine NoPanic.normal ?_
    go_wp2
    refine bodyPost_ret (res_ccc Try.results38 (by rfl) (by rfl) (by rfl) (HF3.out.load 2 rfl rfl Try.underlying29 (by kernel_rfl)) (HF3.out.load 3 rfl rfl Try.underlying31 (by kernel_rfl)) (HF3.out.load 4 rfl rfl Try.underlying38 (by kernel_rfl))) rfl ?_
    replace FR := HF3
    rw [HE.out]
    exact ⟨A2, c2, B2, d2, rfl, (by rw [hq]; exact OW.out), (by rw [hq]; exact OC.out), FR.out.out, NW.out, NC.out⟩
  have n3 : (phase == 3) = false := by simp [p3]
  have HE := Lib.hid (show unlockM o0 ⟨op, stage, phase, old, since, left, awoke, starve, need, front⟩ = (o0, ⟨op, stage, phase, old, since, left, awoke, starve, need, front⟩, noA) from by
    unfold unlockM
    rw [if_neg (fun h => p0 h.1), if_neg p0, if_neg p1, if_neg p2, if_neg p3])
  clear p0 p1 p2 p3
  go_enter Try.func38, Try.ntmps38
  have ac0 := row11 (b := q) (FR.out.at 0 rfl rfl)
  go_wp2_with fail
  refine (CP.out _ (FR.out.es RX.out) (FR.out.es RY.out)).mono ?_
  rintro e w3 ⟨A2, c2, B2, d2, rfl, hown, hown2, hb, hA, hB⟩
  clear ac0
  unfold obV
  have hsz := FR.out.sz
  simp only [List.length_set, List.length_cons, List.length_nil] at hsz
  replace FR := Lib.hid (FR.out.step hb)
  have OW := Lib.hid (own_base hown (show q ≤ _ by omega))
  have OC := Lib.hid (own_base hown2 (show q ≤ _ by omega))
  have NW := Lib.hid hA
  have NC := Lib.hid hB
  clear hown hown2 hb hsz hA hB
  obtain ⟨mw7p, w7p, hw7p, hse, F⟩ := FR.out.put11 0 rfl (b := q) rfl (.int .i64 kd) (.int .i64 o0) (.int .i64 o1) (.int .i64 o2) (.int .i64 o3) (.int .i64 o4) (.int .i64 o5) (.int .u32 wa) (.int .u32 to) (.slice A2 n c2) (.slice B2 m d2)
  replace OW := Lib.hid (own_whole (by decide) OW.out (FR.out.blk 0 _ rfl) hse)
  replace OC := Lib.hid (own_whole (by decide) OC.out (FR.out.blk 0 _ rfl) hse)
  replace FR := F
  clear F hse
  have cc0 := row11 (b := q) (FR.out.at 0 rfl rfl)
  have cc1 := row10 (b := q + 1) (FR.out.at 1 rfl rfl)
  go_wp2
  replace OW := Lib.hid OW.out.drew
  replace OC := Lib.hid OC.out.drew
  have HF0 := Lib.hid FR.out.drew
  obtain ⟨w8r, hw8r⟩ : ∃ W, w7p.drew.setCells (q + 2) 0 [.int .i64 kd, .int .i64 o0, .int .i64 o1, .int .i64 o2, .int .i64 o3, .int .i64 o4, .int .i64 o5, .int .u32 wa, .int .u32 to, .slice A2 n c2, .slice B2 m d2] = W := ⟨_, rfl⟩
  replace OW := Lib.hid (own_whole (by decide) OW.out (HF0.out.blk 2 _ rfl) hw8r)
  replace OC := Lib.hid (own_whole (by decide) OC.out (HF0.out.blk 2 _ rfl) hw8r)
  have HF1 := Lib.hid ((HF0.out.all 2 rfl rfl (by rfl)).eqw hw8r)
  have hh1 := Lib.hid hw8r
  clear hw8r
  obtain ⟨w9r, hw9r⟩ : ∃ W, w8r.setCells (q + 3) 0 [.int .i64 op, .int .i64 stage, .int .i64 phase, .int .i64 old, .int .i64 since, .int .i64 left, .bool awoke, .bool starve, .int .i64 need, .bool front] = W := ⟨_, rfl⟩
  replace OW := Lib.hid (own_whole (by decide) OW.out (HF1.out.blk 3 _ rfl) hw9r)
  replace OC := Lib.hid (own_whole (by decide) OC.out (HF1.out.blk 3 _ rfl) hw9r)
  have HF2 := Lib.hid ((HF1.out.all 3 rfl rfl (by rfl)).eqw hw9r)
  have hh2 := Lib.hid hw9r
  clear hw9r
  obtain ⟨w10r, hw10r⟩ : ∃ W, w9r.setCells (q + 4) 0 [.bool false, .bool false, .bool false, .int .i64 0, .int .i64 0, .int .u64 0, .slice none 0 0] = W := ⟨_, rfl⟩
  replace OW := Lib.hid (own_whole (by decide) OW.out (HF2.out.blk 4 _ rfl) hw10r)
  replace OC := Lib.hid (own_whole (by decide) OC.out (HF2.out.blk 4 _ rfl) hw10r)
  have HF3 := Lib.hid ((HF2.out.all 4 rfl rfl (by rfl)).eqw hw10r)
  have hh3 := Lib.hid hw10r
  clear hw10r
  refine wp_region_noPanic ?_
  refine wp_region_held_drew (S := (fun wv => Hid (wv.heap[q]? = some (.cells #[.int .i64 kd, .int .i64 o0, .int .i64 o1, .int .i64 o2, .int .i64 o3, .int .i64 o4, .int .i64 o5, .int .u32 wa, .int .u32 to, .slice A2 n c2, .slice B2 m d2] 29) ∧ wv.heap[q + 1]? = some (.cells #[.int .i64 op, .int .i64 stage, .int .i64 phase, .int .i64 old, .int .i64 since, .int .i64 left, .bool awoke, .bool starve, .int .i64 need, .bool front] 31) ∧ wv.heap[q + 5]? = some (.cells #[.bool false, .bool false, .bool false, .int .i64 0, .int .i64 0, .int .u64 0, .slice none 0 0] 38)))) (by kernel_rfl) (Lib.hid (And.intro (HF0.out.blk 0 _ rfl) (And.intro (HF0.out.blk 1 _ rfl) (HF0.out.blk 5 _ rfl)))) (fun hS => ?_)
  refine wpAnyH_take (i := 0) (oi := ⟨some 46, .load 29 (.tmp 2), 29, "mutex.go:57", #[], none⟩) (v := .agg (([.int .i64 kd, .int .i64 o0, .int .i64 o1, .int .i64 o2, .int .i64 o3, .int .i64 o4, .int .i64 o5, .int .u32 wa, .int .u32 to, .slice A2 n c2, .slice B2 m d2] : List Value)).toArray) rfl (by kernel_rfl) (by kernel_rfl) (by kernel_rfl) (fun _ _ _ h => h) (yieldsIf_load_mid (by rfl) _ _ (by rfl) (q) (0) (by rfl) _ _ (fun wv hS => blk_rngl hS.out.1) Try.underlying29 (by rfl) (by kernel_rfl)) hS ?_
  try simp only [Act.put, List.setIfInBounds_toArray, List.set_cons_zero, List.set_cons_succ]
  refine wpAnyH_take (i := 1) (oi := ⟨some 47, .load 31 (.tmp 3), 31, "mutex.go:57", #[⟨3, .gcOnly .lateStores⟩], none⟩) (v := .agg (([.int .i64 op, .int .i64 stage, .int .i64 phase, .int .i64 old, .int .i64 since, .int .i64 left, .bool awoke, .bool starve, .int .i64 need, .bool front] : List Value)).toArray) rfl (by kernel_rfl) (by kernel_rfl) (by kernel_rfl) (fun _ _ _ h => h) (yieldsIf_load_mid (by rfl) _ _ (by rfl) (q + 1) (0) (by rfl) _ _ (fun wv hS => blk_rngl hS.out.2.1) Try.underlying31 (by rfl) (by kernel_rfl)) hS ?_
  try simp only [Act.put, List.setIfInBounds_toArray, List.set_cons_zero, List.set_cons_succ]
  refine wpAnyH_take (i := 2) (oi := ⟨some 48, .load 38 (.tmp 7), 38, "mutex.go:57", #[⟨4, .gcOnly .lateStores⟩], none⟩) (v := .agg (([.bool false, .bool false, .bool false, .int .i64 0, .int .i64 0, .int .u64 0, .slice none 0 0] : List Value)).toArray) rfl (by kernel_rfl) (by kernel_rfl) (by kernel_rfl) (fun _ _ _ h => h) (yieldsIf_load_mid (by rfl) _ _ (by rfl) (q + 5) (0) (by rfl) _ _ (fun wv hS => blk_rngl hS.out.2.2) Try.underlying38 (by rfl) (by kernel_rfl)) hS ?_
  try simp only [Act.put, List.setIfInBounds_toArray, List.set_cons_zero, List.set_cons_succ]
  refine wpAnyH_ready (rs := [3]) (by kernel_rfl) (by simp) (AllReadyH.cons (o := ⟨none, .store 29 (.tmp 4) (.tmp 46), 0, "mutex.go:57", #[⟨0, .data⟩, ⟨0, .phase⟩, ⟨1, .textOnly .lateStores⟩, ⟨2, .textOnly .lateStores⟩], none⟩) rfl (fun K hK => ?_) AllReadyH.nil)
  refine op_storeS (by rfl) rfl rfl rfl (there_blk (HF0.out.blk 2 _ rfl) rfl) (by kernel_rfl) (by simp [Value.oneCell']) hh1.out ?_
  replace hS := Lib.hid (And.intro (HF1.out.blk 0 _ rfl) (And.intro (HF1.out.blk 1 _ rfl) (HF1.out.blk 5 _ rfl)))
  refine Shut.out hK _ _ hS (fun _ => ?_)
  clear hK K
  try simp only [Act.put, List.setIfInBounds_toArray, List.set_cons_zero, List.set_cons_succ]
  refine wpAnyH_ready (rs := [4]) (by kernel_rfl) (by simp) (AllReadyH.cons (o := ⟨none, .store 31 (.tmp 5) (.tmp 47), 0, "mutex.go:57", #[⟨1, .data⟩, ⟨3, .chain⟩, ⟨0, .phase⟩, ⟨1, .phase⟩, ⟨2, .textOnly .lateStores⟩, ⟨3, .phase⟩], none⟩) rfl (fun K hK => ?_) AllReadyH.nil)
  refine op_storeS (by rfl) rfl rfl rfl (there_blk (HF1.out.blk 3 _ rfl) rfl) (by kernel_rfl) (by simp [Value.oneCell']) hh2.out ?_
  replace hS := Lib.hid (And.intro (HF2.out.blk 0 _ rfl) (And.intro (HF2.out.blk 1 _ rfl) (HF2.out.blk 5 _ rfl)))
  refine Shut.out hK _ _ hS (fun _ => ?_)
  clear hK K
  try simp only [Act.put, List.setIfInBounds_toArray, List.set_cons_zero, List.set_cons_succ]
  refine wpAnyH_ready (rs := [5]) (by kernel_rfl) (by simp) (AllReadyH.cons (o := ⟨none, .store 38 (.tmp 6) (.tmp 48), 0, "mutex.go:57", #[⟨2, .data⟩, ⟨4, .chain⟩, ⟨0, .phase⟩, ⟨1, .phase⟩, ⟨2, .phase⟩, ⟨3, .phase⟩, ⟨4, .phase⟩], none⟩) rfl (fun K hK => ?_) AllReadyH.nil)
  refine op_storeS (by rfl) rfl rfl rfl (there_blk (HF2.out.blk 4 _ rfl) rfl) (by kernel_rfl) (by simp [Value.oneCell']) hh3.out ?_
  replace hS := Lib.hid (And.intro (HF3.out.blk 0 _ rfl) (And.intro (HF3.out.blk 1 _ rfl) (HF3.out.blk 5 _ rfl)))
  refine Shut.out hK _ _ hS (fun _ => ?_)
  clear hK K
  try simp only [Act.put, List.setIfInBounds_toArray, List.set_cons_zero, List.set_cons_succ]
  refine wpAnyH_done (by kernel_rfl) ?_ _
  refine NoPanic.normal ?_
  go_wp2
  refine bodyPost_ret (res_ccc Try.results38 (by rfl) (by rfl) (by rfl) (HF3.out.load 2 rfl rfl Try.underlying29 (by kernel_rfl)) (HF3.out.load 3 rfl rfl Try.underlying31 (by kernel_rfl)) (HF3.out.load 4 rfl rfl Try.underlying38 (by kernel_rfl))) rfl ?_
  replace FR := HF3
  rw [HE.out]
  exact ⟨A2, c2, B2, d2, rfl, (by rw [hq]; exact OW.out), (by rw [hq]; exact OC.out), FR.out.out, NW.out, NC.out⟩
theorem muLock_nil (kd o0 o1 o2 o3 o4 o5 wa to : Int) (f : MFr) (now pat : Int) (w : World) : Calls Try.prog 44 #[obV kd o0 o1 o2 o3 o4 o5 wa to none 0 0 none 0 0, frV f, .int .i64 now, .int .i64 pat] w (StepC w kd o1 o2 o3 o4 o5 wa to none 0 0 none 0 0 (lockM o0 f now pat)) := by
  refine (muLock_any kd o0 o1 o2 o3 o4 o5 wa to none 0 0 none 0 0 [] [] f now pat w (Es.nil _ _ _ _) (Es.nil _ _ _ _) (by omega) (by omega)).mono ?_
  rintro e w' ⟨A2, c2, B2, d2, he, _, _, hb, hA, hB⟩
  obtain ⟨rfl, rfl⟩ := hA rfl
  obtain ⟨rfl, rfl⟩ := hB rfl
  exact ⟨he, hb⟩
theorem muUnlock_nil (kd o0 o1 o2 o3 o4 o5 wa to : Int) (f : MFr) (hr : IntKind.i64.wrap o0 = o0) (w : World) : Calls Try.prog 38 #[obV kd o0 o1 o2 o3 o4 o5 wa to none 0 0 none 0 0, frV f] w (StepC w kd o1 o2 o3 o4 o5 wa to none 0 0 none 0 0 (unlockM o0 f)) := by
  refine (muUnlock_any kd o0 o1 o2 o3 o4 o5 wa to none 0 0 none 0 0 [] [] f w (Es.nil _ _ _ _) (Es.nil _ _ _ _) (by omega) (by omega) hr).mono ?_
  rintro e w' ⟨A2, c2, B2, d2, he, _, _, hb, hA, hB⟩
  obtain ⟨rfl, rfl⟩ := hA rfl
  obtain ⟨rfl, rfl⟩ := hB rfl
  exact ⟨he, hb⟩
end Go.Proofs.Ytpkegfochfkkcaa
