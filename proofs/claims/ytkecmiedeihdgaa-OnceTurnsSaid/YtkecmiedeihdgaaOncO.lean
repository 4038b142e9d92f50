/- Layer 18: what the landed once's Once and End answer; for lists of up to 16384, a word within 64 bits. -/
import Derived.Test.YtkecmiedeihdgaaOncL
namespace Go.Proofs.Ytkecmiedeihdgaa
set_option linter.unusedVariables false
set_option linter.unusedSimpArgs false
open Go.RowKit
set_option maxRecDepth 100000 in
set_option maxHeartbeats 16000000 in
theorem onOnce_any (kd o0 o1 o2 o3 o4 o5 wa to : Int) (A : Option Addr) (n c : Nat) (B : Option Addr) (m d : Nat) (nl : List Wt) (ll : List Cl) (f : MFr) (now pat : Int) (w : World) (hx : Wts w A n c nl) (hy : Cls w B m d ll) (hn : n ≤ 16384) (hm : m ≤ 16384) (hr : IntKind.i64.wrap o0 = o0) : Calls Try.prog 7 #[obV kd o0 o1 o2 o3 o4 o5 wa to A n c B m d, frV f, .int .i64 now, .int .i64 pat] w (CopN w kd o1 o3 o4 o5 wa to A n B m nl ll (onceW o0 o2 f now pat)) := by
  have RX := Lib.hid hx; have RY := Lib.hid hy
  have CP := Lib.hid (fun (W : World) (h1 : Wts W A n c nl) (h2 : Cls W B m d ll) => muCopied_any kd o0 o1 o2 o3 o4 o5 wa to A n c B m d nl ll W h1 h2 hn hm)
  clear hx hy
  obtain ⟨op, stage, phase, old, since, left, awoke, starve, need, front⟩ := f
  unfold obV frV frC
  simp only
  have HN := Lib.hid (And.intro hn (And.intro hm hr))
  clear hn hm hr
  obtain ⟨v1, hv1, z1, v2, hv2, z2, v3, hv3, z3, v4, hv4, z4, v5, hv5, z5, F⟩ := boxes5 w (.cells #[.int .i64 kd, .int .i64 o0, .int .i64 o1, .int .i64 o2, .int .i64 o3, .int .i64 o4, .int .i64 o5, .int .u32 wa, .int .u32 to, .slice A n c, .slice B m d] 29) (.cells #[.int .i64 op, .int .i64 stage, .int .i64 phase, .int .i64 old, .int .i64 since, .int .i64 left, .bool awoke, .bool starve, .int .i64 need, .bool front] 31) (.cells #[.int .i64 0, .int .i64 0, .int .i64 0, .int .i64 0, .int .i64 0, .int .i64 0, .int .i64 0, .int .u32 0, .int .u32 0, .slice none 0 0, .slice none 0 0] 29) (.cells #[.int .i64 0, .int .i64 0, .int .i64 0, .int .i64 0, .int .i64 0, .int .i64 0, .bool false, .bool false, .int .i64 0, .bool false] 31) (.cells #[.bool false, .bool false, .bool false, .int .i64 0, .int .i64 0, .int .u64 0, .slice none 0 0] 39)
  generalize hq : w.heap.size = q at *
  have FR := Lib.hid F
  clear F
  by_cases s0 : stage = 0
  · subst s0
    obtain ⟨⟨⟨z0, z2⟩, ⟨gop, gstage, gphase, gold, gsince, gleft, gawoke, gstarve, gneed, gfront⟩, ⟨gdn, ggv, ghd, gft⟩, gvl⟩, hr0⟩ : ∃ r, onceW o0 o2 ⟨op, 0, phase, old, since, left, awoke, starve, need, front⟩ now pat = r := ⟨_, rfl⟩
    have HE := Lib.hid hr0
    have ST := Lib.hid (show ∀ (A9 : Option Addr) (n9 c9 : Nat) (B9 : Option Addr) (m9 d9 : Nat) (W : World), Calls Try.prog 16 #[.agg #[.int .i64 kd, .int .i64 o0, .int .i64 o1, .int .i64 o2, .int .i64 o3, .int .i64 o4, .int .i64 o5, .int .u32 wa, .int .u32 to, .slice A9 n9 c9, .slice B9 m9 d9], .agg #[.int .i64 op, .int .i64 0, .int .i64 phase, .int .i64 old, .int .i64 since, .int .i64 left, .bool awoke, .bool starve, .int .i64 need, .bool front]] W (fun e w' => e = .returned (.tuple #[.agg #[.int .i64 kd, .int .i64 z0, .int .i64 o1, .int .i64 z2, .int .i64 o3, .int .i64 o4, .int .i64 o5, .int .u32 wa, .int .u32 to, .slice A9 n9 c9, .slice B9 m9 d9], .agg #[.int .i64 gop, .int .i64 gstage, .int .i64 gphase, .int .i64 gold, .int .i64 gsince, .int .i64 gleft, .bool gawoke, .bool gstarve, .int .i64 gneed, .bool gfront], .agg #[.bool gdn, .bool false, .bool ghd, .int .i64 ggv, .int .i64 gft, .int .u64 gvl, .slice none 0 0]]) ∧ Below W.heap.size W w') from fun A9 n9 c9 B9 m9 d9 W => by
      have h := onLook_any kd o0 o1 o2 o3 o4 o5 wa to A9 n9 c9 B9 m9 d9 ⟨op, 0, phase, old, since, left, awoke, starve, need, front⟩ rfl now pat W
      rw [hr0] at h
      exact h)
    clear hr0 HN
    go_enter Try.func7, Try.ntmps7
    have ac0 := row11 (b := q) (FR.out.at 0 rfl rfl)
    go_wp2_with fail
    refine (CP.out _ (FR.out.es RX.out) (FR.out.es RY.out)).mono ?_
    rintro e w3 ⟨A2, c2, B2, d2, rfl, hown, hown2, hb, hA, hB⟩
    clear ac0
    unfold obV
    have hsz := FR.out.sz
    simp only [List.length_set, List.length_cons, List.length_nil] at hsz
    replace FR := Lib.hid (FR.out.step hb)
    have OW := Lib.hid (own_base hown (show q ≤ _ by omega))
    have OC := Lib.hid (own_base hown2 (show q ≤ _ by omega))
    have NW := Lib.hid hA
    have NC := Lib.hid hB
    clear hown hown2 hb hsz hA hB
    obtain ⟨mw6p, w6p, hw6p, hse, F⟩ := FR.out.put11 0 rfl (b := q) rfl (.int .i64 kd) (.int .i64 o0) (.int .i64 o1) (.int .i64 o2) (.int .i64 o3) (.int .i64 o4) (.int .i64 o5) (.int .u32 wa) (.int .u32 to) (.slice A2 n c2) (.slice B2 m d2)
    replace OW := Lib.hid (own_whole (by decide) OW.out (FR.out.blk 0 _ rfl) hse)
    replace OC := Lib.hid (own_whole (by decide) OC.out (FR.out.blk 0 _ rfl) hse)
    replace FR := F
    clear F hse
    have cc0 := row11 (b := q) (FR.out.at 0 rfl rfl)
    have cc1 := row10 (b := q + 1) (FR.out.at 1 rfl rfl)
    go_wp2_with fail
    refine (ST.out _ _ _ _ _ _ _).mono ?_
    rintro e w5 ⟨rfl, hb⟩
    clear mw6p cc0 cc1
    clear hw6p
    replace FR := Lib.hid (FR.out.step hb)
    replace OW := Lib.hid (own_below OW.out hb)
    replace OC := Lib.hid (own_below OC.out hb)
    clear hb
    obtain ⟨mw7r, w7r, hw7r, hse, F⟩ := FR.out.put11 2 rfl (b := q + 2) rfl (.int .i64 kd) (.int .i64 z0) (.int .i64 o1) (.int .i64 z2) (.int .i64 o3) (.int .i64 o4) (.int .i64 o5) (.int .u32 wa) (.int .u32 to) (.slice A2 n c2) (.slice B2 m d2)
    replace OW := Lib.hid (own_whole (by decide) OW.out (FR.out.blk 2 _ rfl) hse)
    replace OC := Lib.hid (own_whole (by decide) OC.out (FR.out.blk 2 _ rfl) hse)
    replace FR := F
    clear F hse
    obtain ⟨mw8r, w8r, hw8r, hse, F⟩ := FR.out.put10 3 rfl (b := q + 3) rfl (.int .i64 gop) (.int .i64 gstage) (.int .i64 gphase) (.int .i64 gold) (.int .i64 gsince) (.int .i64 gleft) (.bool gawoke) (.bool gstarve) (.int .i64 gneed) (.bool gfront)
    replace OW := Lib.hid (own_whole (by decide) OW.out (FR.out.blk 3 _ rfl) hse)
    replace OC := Lib.hid (own_whole (by decide) OC.out (FR.out.blk 3 _ rfl) hse)
    replace FR := F
    clear F hse
    obtain ⟨mw9r, w9r, hw9r, hse, F⟩ := FR.out.put7 4 rfl (b := q + 4) rfl (.bool gdn) (.bool false) (.bool ghd) (.int .i64 ggv) (.int .i64 gft) (.int .u64 gvl) (.slice none 0 0)
    replace OW := Lib.hid (own_whole (by decide) OW.out (FR.out.blk 4 _ rfl) hse)
    replace OC := Lib.hid (own_whole (by decide) OC.out (FR.out.blk 4 _ rfl) hse)
    replace FR := F
    clear F hse
    go_wp2
    refine bodyPost_ret (res_ccc Try.results7 (by rfl) (by rfl) (by rfl) (FR.out.load 2 rfl rfl Try.underlying29 (by kernel_rfl)) (FR.out.load 3 rfl rfl Try.underlying31 (by kernel_rfl)) (FR.out.load 4 rfl rfl Try.underlying39 (by kernel_rfl))) rfl ?_
    rw [HE.out]
    exact ⟨A2, c2, B2, d2, rfl, (by rw [hq]; exact OW.out), (by rw [hq]; exact OC.out), FR.out.out, NW.out, NC.out⟩
  have n0 : (stage == 0) = false := by simp [s0]
  by_cases s1 : stage = 1
  · subst s1
    obtain ⟨⟨⟨z0, z2⟩, ⟨gop, gstage, gphase, gold, gsince, gleft, gawoke, gstarve, gneed, gfront⟩, ⟨gdn, ggv, ghd, gft⟩, gvl⟩, hr0⟩ : ∃ r, onceW o0 o2 ⟨op, 1, phase, old, since, left, awoke, starve, need, front⟩ now pat = r := ⟨_, rfl⟩
    have HE := Lib.hid hr0
    have ST := Lib.hid (show ∀ (A9 : Option Addr) (c9 : Nat) (B9 : Option Addr) (d9 : Nat) (W : World), Wts W A9 n c9 nl → Cls W B9 m d9 ll → Calls Try.prog 17 #[.agg #[.int .i64 kd, .int .i64 o0, .int .i64 o1, .int .i64 o2, .int .i64 o3, .int .i64 o4, .int .i64 o5, .int .u32 wa, .int .u32 to, .slice A9 n c9, .slice B9 m d9], .agg #[.int .i64 op, .int .i64 1, .int .i64 phase, .int .i64 old, .int .i64 since, .int .i64 left, .bool awoke, .bool starve, .int .i64 need, .bool front], .int .i64 now, .int .i64 pat] W (fun e w' => ∃ A2 c2 B2 d2, e = .returned (.tuple #[.agg #[.int .i64 kd, .int .i64 z0, .int .i64 o1, .int .i64 z2, .int .i64 o3, .int .i64 o4, .int .i64 o5, .int .u32 wa, .int .u32 to, .slice A2 n c2, .slice B2 m d2], .agg #[.int .i64 gop, .int .i64 gstage, .int .i64 gphase, .int .i64 gold, .int .i64 gsince, .int .i64 gleft, .bool gawoke, .bool gstarve, .int .i64 gneed, .bool gfront], .agg #[.bool gdn, .bool false, .bool ghd, .int .i64 ggv, .int .i64 gft, .int .u64 gvl, .slice none 0 0]]) ∧ w'.ownsRow W.heap.size 60 2 (.slice A2 n c2) n (wtC nl) ∧ w'.ownsRow W.heap.size 56 2 (.slice B2 m d2) m (clC ll) ∧ Below W.heap.size W w' ∧ (A9 = none → A2 = none ∧ c2 = 0) ∧ (B9 = none → B2 = none ∧ d2 = 0)) from fun A9 c9 B9 d9 W h1 h2 => by
      have h := onLock_any kd o0 o1 o2 o3 o4 o5 wa to A9 n c9 B9 m d9 nl ll ⟨op, 1, phase, old, since, left, awoke, starve, need, front⟩ rfl now pat W h1 h2 HN.out.1 HN.out.2.1
      rw [hr0] at h
      exact h)
    clear hr0 HN
    clear s0 n0
    go_enter Try.func7, Try.ntmps7
    have ac0 := row11 (b := q) (FR.out.at 0 rfl rfl)
    go_wp2_with fail
    refine (CP.out _ (FR.out.es RX.out) (FR.out.es RY.out)).mono ?_
    rintro e w3 ⟨A2, c2, B2, d2, rfl, hown, hown2, hb, hA, hB⟩
    clear ac0
    unfold obV
    have hsz := FR.out.sz
    simp only [List.length_set, List.length_cons, List.length_nil] at hsz
    replace FR := Lib.hid (FR.out.step hb)
    have OW := Lib.hid (own_base hown (show q ≤ _ by omega))
    have OC := Lib.hid (own_base hown2 (show q ≤ _ by omega))
    have NW := Lib.hid hA
    have NC := Lib.hid hB
    clear hown hown2 hb hsz hA hB
    obtain ⟨mw6p, w6p, hw6p, hse, F⟩ := FR.out.put11 0 rfl (b := q) rfl (.int .i64 kd) (.int .i64 o0) (.int .i64 o1) (.int .i64 o2) (.int .i64 o3) (.int .i64 o4) (.int .i64 o5) (.int .u32 wa) (.int .u32 to) (.slice A2 n c2) (.slice B2 m d2)
    replace OW := Lib.hid (own_whole (by decide) OW.out (FR.out.blk 0 _ rfl) hse)
    replace OC := Lib.hid (own_whole (by decide) OC.out (FR.out.blk 0 _ rfl) hse)
    replace FR := F
    clear F hse
    have cc0 := row11 (b := q) (FR.out.at 0 rfl rfl)
    have cc1 := row10 (b := q + 1) (FR.out.at 1 rfl rfl)
    have hsz := FR.out.sz
    simp only [List.length_set, List.length_cons, List.length_nil] at hsz
    have hqw := Nat.le_trans (Nat.le_add_right q _) hsz
    have HQ := Lib.hid hqw
    clear hsz hqw
    go_wp2_with fail
    refine (ST.out _ _ _ _ _ (own_wts OW.out) (own_cls OC.out)).mono ?_
    rintro e w5 ⟨A3, c3, B3, d3, rfl, hown, hown2, hb, hA, hB⟩
    clear mw6p cc0 cc1
    clear hw6p
    clear OW OC
    replace FR := Lib.hid (FR.out.step hb)
    have OW := Lib.hid (own_base hown HQ.out)
    have OC := Lib.hid (own_base hown2 HQ.out)
    replace NW := Lib.hid (fun h => hA (NW.out h).1)
    replace NC := Lib.hid (fun h => hB (NC.out h).1)
    clear hown hown2 hb hA hB HQ
    obtain ⟨mw7r, w7r, hw7r, hse, F⟩ := FR.out.put11 2 rfl (b := q + 2) rfl (.int .i64 kd) (.int .i64 z0) (.int .i64 o1) (.int .i64 z2) (.int .i64 o3) (.int .i64 o4) (.int .i64 o5) (.int .u32 wa) (.int .u32 to) (.slice A3 n c3) (.slice B3 m d3)
    replace OW := Lib.hid (own_whole (by decide) OW.out (FR.out.blk 2 _ rfl) hse)
    replace OC := Lib.hid (own_whole (by decide) OC.out (FR.out.blk 2 _ rfl) hse)
    replace FR := F
    clear F hse
    obtain ⟨mw8r, w8r, hw8r, hse, F⟩ := FR.out.put10 3 rfl (b := q + 3) rfl (.int .i64 gop) (.int .i64 gstage) (.int .i64 gphase) (.int .i64 gold) (.int .i64 gsince) (.int .i64 gleft) (.bool gawoke) (.bool gstarve) (.int .i64 gneed) (.bool gfront)
    replace OW := Lib.hid (own_whole (by decide) OW.out (FR.out.blk 3 _ rfl) hse)
    replace OC := Lib.hid (own_whole (by decide) OC.out (FR.out.blk 3 _ rfl) hse)
    replace FR := F
    clear F hse
    obtain ⟨mw9r, w9r, hw9r, hse, F⟩ := FR.out.put7 4 rfl (b := q + 4) rfl (.bool gdn) (.bool false) (.bool ghd) (.int .i64 ggv) (.int .i64 gft) (.int .u64 gvl) (.slice none 0 0)
    replace OW := Lib.hid (own_whole (by decide) OW.out (FR.out.blk 4 _ rfl) hse)
    replace OC := Lib.hid (own_whole (by decide) OC.out (FR.out.blk 4 _ rfl) hse)
    replace FR := F
    clear F hse
    go_wp2
    refine bodyPost_ret (res_ccc Try.results7 (by rfl) (by rfl) (by rfl) (FR.out.load 2 rfl rfl Try.underlying29 (by kernel_rfl)) (FR.out.load 3 rfl rfl Try.underlying31 (by kernel_rfl)) (FR.out.load 4 rfl rfl Try.underlying39 (by kernel_rfl))) rfl ?_
    rw [HE.out]
    exact ⟨A3, c3, B3, d3, rfl, (by rw [hq]; exact OW.out), (by rw [hq]; exact OC.out), FR.out.out, NW.out, NC.out⟩
  have n1 : (stage == 1) = false := by simp [s1]
  by_cases s2 : stage = 2
  · subst s2
    obtain ⟨⟨⟨z0, z2⟩, ⟨gop, gstage, gphase, gold, gsince, gleft, gawoke, gstarve, gneed, gfront⟩, ⟨gdn, ggv, ghd, gft⟩, gvl⟩, hr0⟩ : ∃ r, onceW o0 o2 ⟨op, 2, phase, old, since, left, awoke, starve, need, front⟩ now pat = r := ⟨_, rfl⟩
    have HE := Lib.hid hr0
    have ST := Lib.hid (show ∀ (A9 : Option Addr) (n9 c9 : Nat) (B9 : Option Addr) (m9 d9 : Nat) (W : World), Calls Try.prog 18 #[.agg #[.int .i64 kd, .int .i64 o0, .int .i64 o1, .int .i64 o2, .int .i64 o3, .int .i64 o4, .int .i64 o5, .int .u32 wa, .int .u32 to, .slice A9 n9 c9, .slice B9 m9 d9], .agg #[.int .i64 op, .int .i64 2, .int .i64 phase, .int .i64 old, .int .i64 since, .int .i64 left, .bool awoke, .bool starve, .int .i64 need, .bool front]] W (fun e w' => e = .returned (.tuple #[.agg #[.int .i64 kd, .int .i64 z0, .int .i64 o1, .int .i64 z2, .int .i64 o3, .int .i64 o4, .int .i64 o5, .int .u32 wa, .int .u32 to, .slice A9 n9 c9, .slice B9 m9 d9], .agg #[.int .i64 gop, .int .i64 gstage, .int .i64 gphase, .int .i64 gold, .int .i64 gsince, .int .i64 gleft, .bool gawoke, .bool gstarve, .int .i64 gneed, .bool gfront], .agg #[.bool gdn, .bool false, .bool ghd, .int .i64 ggv, .int .i64 gft, .int .u64 gvl, .slice none 0 0]]) ∧ Below W.heap.size W w') from fun A9 n9 c9 B9 m9 d9 W => by
      have h := onAgain_any kd o0 o1 o2 o3 o4 o5 wa to A9 n9 c9 B9 m9 d9 ⟨op, 2, phase, old, since, left, awoke, starve, need, front⟩ rfl now pat W
      rw [hr0] at h
      exact h)
    clear hr0 HN s0 n0 s1 n1
    go_enter Try.func7, Try.ntmps7
    have ac0 := row11 (b := q) (FR.out.at 0 rfl rfl)
    go_wp2_with fail
    refine (CP.out _ (FR.out.es RX.out) (FR.out.es RY.out)).mono ?_
    rintro e w3 ⟨A2, c2, B2, d2, rfl, hown, hown2, hb, hA, hB⟩
    clear ac0
    unfold obV
    have hsz := FR.out.sz
    simp only [List.length_set, List.length_cons, List.length_nil] at hsz
    replace FR := Lib.hid (FR.out.step hb)
    have OW := Lib.hid (own_base hown (show q ≤ _ by omega))
    have OC := Lib.hid (own_base hown2 (show q ≤ _ by omega))
    have NW := Lib.hid hA
    have NC := Lib.hid hB
    clear hown hown2 hb hsz hA hB
    obtain ⟨mw6p, w6p, hw6p, hse, F⟩ := FR.out.put11 0 rfl (b := q) rfl (.int .i64 kd) (.int .i64 o0) (.int .i64 o1) (.int .i64 o2) (.int .i64 o3) (.int .i64 o4) (.int .i64 o5) (.int .u32 wa) (.int .u32 to) (.slice A2 n c2) (.slice B2 m d2)
    replace OW := Lib.hid (own_whole (by decide) OW.out (FR.out.blk 0 _ rfl) hse)
    replace OC := Lib.hid (own_whole (by decide) OC.out (FR.out.blk 0 _ rfl) hse)
    replace FR := F
    clear F hse
    have cc0 := row11 (b := q) (FR.out.at 0 rfl rfl)
    have cc1 := row10 (b := q + 1) (FR.out.at 1 rfl rfl)
    go_wp2_with fail
    refine (ST.out _ _ _ _ _ _ _).mono ?_
    rintro e w5 ⟨rfl, hb⟩
    clear mw6p cc0 cc1
    clear hw6p
    replace FR := Lib.hid (FR.out.step hb)
    replace OW := Lib.hid (own_below OW.out hb)
    replace OC := Lib.hid (own_below OC.out hb)
    clear hb
    obtain ⟨mw7r, w7r, hw7r, hse, F⟩ := FR.out.put11 2 rfl (b := q + 2) rfl (.int .i64 kd) (.int .i64 z0) (.int .i64 o1) (.int .i64 z2) (.int .i64 o3) (.int .i64 o4) (.int .i64 o5) (.int .u32 wa) (.int .u32 to) (.slice A2 n c2) (.slice B2 m d2)
    replace OW := Lib.hid (own_whole (by decide) OW.out (FR.out.blk 2 _ rfl) hse)
    replace OC := Lib.hid (own_whole (by decide) OC.out (FR.out.blk 2 _ rfl) hse)
    replace FR := F
    clear F hse
    obtain ⟨mw8r, w8r, hw8r, hse, F⟩ := FR.out.put10 3 rfl (b := q + 3) rfl (.int .i64 gop) (.int .i64 gstage) (.int .i64 gphase) (.int .i64 gold) (.int .i64 gsince) (.int .i64 gleft) (.bool gawoke) (.bool gstarve) (.int .i64 gneed) (.bool gfront)
    replace OW := Lib.hid (own_whole (by decide) OW.out (FR.out.blk 3 _ rfl) hse)
    replace OC := Lib.hid (own_whole (by decide) OC.out (FR.out.blk 3 _ rfl) hse)
    replace FR := F
    clear F hse
    obtain ⟨mw9r, w9r, hw9r, hse, F⟩ := FR.out.put7 4 rfl (b := q + 4) rfl (.bool gdn) (.bool false) (.bool ghd) (.int .i64 ggv) (.int .i64 gft) (.int .u64 gvl) (.slice none 0 0)
    replace OW := Lib.hid (own_whole (by decide) OW.out (FR.out.blk 4 _ rfl) hse)
    replace OC := Lib.hid (own_whole (by decide) OC.out (FR.out.blk 4 _ rfl) hse)
    replace FR := F
    clear F hse
    go_wp2
    refine bodyPost_ret (res_ccc Try.results7 (by rfl) (by rfl) (by rfl) (FR.out.load 2 rfl rfl Try.underlying29 (by kernel_rfl)) (FR.out.load 3 rfl rfl Try.underlying31 (by kernel_rfl)) (FR.out.load 4 rfl rfl Try.underlying39 (by kernel_rfl))) rfl ?_
    rw [HE.out]
    exact ⟨A2, c2, B2, d2, rfl, (by rw [hq]; exact OW.out), (by rw [hq]; exact OC.out), FR.out.out, NW.out, NC.out⟩
  have n2 : (stage == 2) = false := by simp [s2]
  by_cases s3 : stage = 3
  · subst s3
    obtain ⟨⟨z, ⟨gop, gstage, gphase, gold, gsince, gleft, gawoke, gstarve, gneed, gfront⟩, ⟨gdn, ggv, ghd, gft⟩⟩, hr0⟩ : ∃ r, unlockM o0 ⟨op, 3, phase, old, since, left, awoke, starve, need, front⟩ = r := ⟨_, rfl⟩
    have HE := Lib.hid (show onceW o0 o2 ⟨op, 3, phase, old, since, left, awoke, starve, need, front⟩ now pat = ((z, o2), ⟨gop, gstage, gphase, gold, gsince, gleft, gawoke, gstarve, gneed, gfront⟩, ⟨gdn, ggv, ghd, gft⟩, 0) from by
      unfold onceW
      rw [if_neg (fun h => (show ¬ ((3 : Int) = 0) by decide) h.1), if_neg (fun h => (show ¬ ((3 : Int) = 2) by decide) h.1), if_neg (show ¬ ((3 : Int) = 0) by decide), if_neg (show ¬ ((3 : Int) = 2) by decide), if_neg (show ¬ ((3 : Int) = 1) by decide), if_pos rfl, hr0])
    have ST := Lib.hid (show ∀ (A9 : Option Addr) (c9 : Nat) (B9 : Option Addr) (d9 : Nat) (W : World), Wts W A9 n c9 nl → Cls W B9 m d9 ll → Calls Try.prog 19 #[.agg #[.int .i64 kd, .int .i64 o0, .int .i64 o1, .int .i64 o2, .int .i64 o3, .int .i64 o4, .int .i64 o5, .int .u32 wa, .int .u32 to, .slice A9 n c9, .slice B9 m d9], .agg #[.int .i64 op, .int .i64 3, .int .i64 phase, .int .i64 old, .int .i64 since, .int .i64 left, .bool awoke, .bool starve, .int .i64 need, .bool front]] W (fun e w' => ∃ A2 c2 B2 d2, e = .returned (.tuple #[.agg #[.int .i64 kd, .int .i64 z, .int .i64 o1, .int .i64 o2, .int .i64 o3, .int .i64 o4, .int .i64 o5, .int .u32 wa, .int .u32 to, .slice A2 n c2, .slice B2 m d2], .agg #[.int .i64 gop, .int .i64 gstage, .int .i64 gphase, .int .i64 gold, .int .i64 gsince, .int .i64 gleft, .bool gawoke, .bool gstarve, .int .i64 gneed, .bool gfront], .agg #[.bool gdn, .bool false, .bool ghd, .int .i64 ggv, .int .i64 gft, .int .u64 0, .slice none 0 0]]) ∧ w'.ownsRow W.heap.size 60 2 (.slice A2 n c2) n (wtC nl) ∧ w'.ownsRow W.heap.size 56 2 (.slice B2 m d2) m (clC ll) ∧ Below W.heap.size W w' ∧ (A9 = none → A2 = none ∧ c2 = 0) ∧ (B9 = none → B2 = none ∧ d2 = 0)) from fun A9 c9 B9 d9 W h1 h2 => by
      have h := muUnlock_any kd o0 o1 o2 o3 o4 o5 wa to A9 n c9 B9 m d9 nl ll ⟨op, 3, phase, old, since, left, awoke, starve, need, front⟩ W h1 h2 HN.out.1 HN.out.2.1 HN.out.2.2
      rw [hr0] at h
      exact h)
    clear hr0 HN
    clear s0 n0 s1 n1 s2 n2
    go_enter Try.func7, Try.ntmps7
    have ac0 := row11 (b := q) (FR.out.at 0 rfl rfl)
    go_wp2_with fail
    refine (CP.out _ (FR.out.es RX.out) (FR.out.es RY.out)).mono ?_
    rintro e w3 ⟨A2, c2, B2, d2, rfl, hown, hown2, hb, hA, hB⟩
    clear ac0
    unfold obV
    have hsz := FR.out.sz
    simp only [List.length_set, List.length_cons, List.length_nil] at hsz
    replace FR := Lib.hid (FR.out.step hb)
    have OW := Lib.hid (own_base hown (show q ≤ _ by omega))
    have OC := Lib.hid (own_base hown2 (show q ≤ _ by omega))
    have NW := Lib.hid hA
    have NC := Lib.hid hB
    clear hown hown2 hb hsz hA hB
    obtain ⟨mw6p, w6p, hw6p, hse, F⟩ := FR.out.put11 0 rfl (b := q) rfl (.int .i64 kd) (.int .i64 o0) (.int .i64 o1) (.int .i64 o2) (.int .i64 o3) (.int .i64 o4) (.int .i64 o5) (.int .u32 wa) (.int .u32 to) (.slice A2 n c2) (.slice B2 m d2)
    replace OW := Lib.hid (own_whole (by decide) OW.out (FR.out.blk 0 _ rfl) hse)
    replace OC := Lib.hid (own_whole (by decide) OC.out (FR.out.blk 0 _ rfl) hse)
    replace FR := F
    clear F hse
    have cc0 := row11 (b := q) (FR.out.at 0 rfl rfl)
    have cc1 := row10 (b := q + 1) (FR.out.at 1 rfl rfl)
    have hsz := FR.out.sz
    simp only [List.length_set, List.length_cons, List.length_nil] at hsz
    have hqw := Nat.le_trans (Nat.le_add_right q _) hsz
    have HQ := Lib.hid hqw
    clear hsz hqw
    go_wp2_with fail
    refine (ST.out _ _ _ _ _ (own_wts OW.out) (own_cls OC.out)).mono ?_
    rintro e w5 ⟨A3, c3, B3, d3, rfl, hown, hown2, hb, hA, hB⟩
    clear mw6p cc0 cc1
    clear hw6p
    clear OW OC
    replace FR := Lib.hid (FR.out.step hb)
    have OW := Lib.hid (own_base hown HQ.out)
    have OC := Lib.hid (own_base hown2 HQ.out)
    replace NW := Lib.hid (fun h => hA (NW.out h).1)
    replace NC := Lib.hid (fun h => hB (NC.out h).1)
    clear hown hown2 hb hA hB HQ
    obtain ⟨mw7r, w7r, hw7r, hse, F⟩ := FR.out.put11 2 rfl (b := q + 2) rfl (.int .i64 kd) (.int .i64 z) (.int .i64 o1) (.int .i64 o2) (.int .i64 o3) (.int .i64 o4) (.int .i64 o5) (.int .u32 wa) (.int .u32 to) (.slice A3 n c3) (.slice B3 m d3)
    replace OW := Lib.hid (own_whole (by decide) OW.out (FR.out.blk 2 _ rfl) hse)
    replace OC := Lib.hid (own_whole (by decide) OC.out (FR.out.blk 2 _ rfl) hse)
    replace FR := F
    clear F hse
    obtain ⟨mw8r, w8r, hw8r, hse, F⟩ := FR.out.put10 3 rfl (b := q + 3) rfl (.int .i64 gop) (.int .i64 gstage) (.int .i64 gphase) (.int .i64 gold) (.int .i64 gsince) (.int .i64 gleft) (.bool gawoke) (.bool gstarve) (.int .i64 gneed) (.bool gfront)
    replace OW := Lib.hid (own_whole (by decide) OW.out (FR.out.blk 3 _ rfl) hse)
    replace OC := Lib.hid (own_whole (by decide) OC.out (FR.out.blk 3 _ rfl) hse)
    replace FR := F
    clear F hse
    obtain ⟨mw9r, w9r, hw9r, hse, F⟩ := FR.out.put7 4 rfl (b := q + 4) rfl (.bool gdn) (.bool false) (.bool ghd) (.int .i64 ggv) (.int .i64 gft) (.int .u64 0) (.slice none 0 0)
    replace OW := Lib.hid (own_whole (by decide) OW.out (FR.out.blk 4 _ rfl) hse)
    replace OC := Lib.hid (own_whole (by decide) OC.out (FR.out.blk 4 _ rfl) hse)
    replace FR := F
    clear F hse
    go_wp2
    refine bodyPost_ret (res_ccc Try.results7 (by rfl) (by rfl) (by rfl) (FR.out.load 2 rfl rfl Try.underlying29 (by kernel_rfl)) (FR.out.load 3 rfl rfl Try.underlying31 (by kernel_rfl)) (FR.out.load 4 rfl rfl Try.underlying39 (by kernel_rfl))) rfl ?_
    rw [HE.out]
    exact ⟨A3, c3, B3, d3, rfl, (by rw [hq]; exact OW.out), (by rw [hq]; exact OC.out), FR.out.out, NW.out, NC.out⟩
  have n3 : (stage == 3) = false := by simp [s3]
  have HE := Lib.hid (show onceW o0 o2 ⟨op, stage, phase, old, since, left, awoke, starve, need, front⟩ now pat = ((o0, o2), ⟨op, stage, phase, old, since, left, awoke, starve, need, front⟩, noA, 0) from by
    unfold onceW
    rw [if_neg (fun h => s0 h.1), if_neg (fun h => s2 h.1), if_neg s0, if_neg s2, if_neg s1, if_neg s3])
  clear HN s0 s1 s2 s3
  go_enter Try.func7, Try.ntmps7
  have ac0 := row11 (b := q) (FR.out.at 0 rfl rfl)
  go_wp2_with fail
  refine (CP.out _ (FR.out.es RX.out) (FR.out.es RY.out)).mono ?_
  rintro e w3 ⟨A2, c2, B2, d2, rfl, hown, hown2, hb, hA, hB⟩
  clear ac0
  unfold obV
  have hsz := FR.out.sz
  simp only [List.length_set, List.length_cons, List.length_nil] at hsz
  replace FR := Lib.hid (FR.out.step hb)
  have OW := Lib.hid (own_base hown (show q ≤ _ by omega))
  have OC := Lib.hid (own_base hown2 (show q ≤ _ by omega))
  have NW := Lib.hid hA
  have NC := Lib.hid hB
  clear hown hown2 hb hsz hA hB
  obtain ⟨mw6p, w6p, hw6p, hse, F⟩ := FR.out.put11 0 rfl (b := q) rfl (.int .i64 kd) (.int .i64 o0) (.int .i64 o1) (.int .i64 o2) (.int .i64 o3) (.int .i64 o4) (.int .i64 o5) (.int .u32 wa) (.int .u32 to) (.slice A2 n c2) (.slice B2 m d2)
  replace OW := Lib.hid (own_whole (by decide) OW.out (FR.out.blk 0 _ rfl) hse)
  replace OC := Lib.hid (own_whole (by decide) OC.out (FR.out.blk 0 _ rfl) hse)
  replace FR := F
  clear F hse
  have cc0 := row11 (b := q) (FR.out.at 0 rfl rfl)
  have cc1 := row10 (b := q + 1) (FR.out.at 1 rfl rfl)
  go_wp2
  replace OW := Lib.hid OW.out.drew
  replace OC := Lib.hid OC.out.drew
  have HF0 := Lib.hid FR.out.drew
  obtain ⟨w7r, hw7r⟩ : ∃ W, w6p.drew.setCells (q + 2) 0 [.int .i64 kd, .int .i64 o0, .int .i64 o1, .int .i64 o2, .int .i64 o3, .int .i64 o4, .int .i64 o5, .int .u32 wa, .int .u32 to, .slice A2 n c2, .slice B2 m d2] = W := ⟨_, rfl⟩
  replace OW := Lib.hid (own_whole (by decide) OW.out (HF0.out.blk 2 _ rfl) hw7r)
  replace OC := Lib.hid (own_whole (by decide) OC.out (HF0.out.blk 2 _ rfl) hw7r)
  have HF1 := Lib.hid ((HF0.out.all 2 rfl rfl (by rfl)).eqw hw7r)
  have hh1 := Lib.hid hw7r
  clear hw7r
  obtain ⟨w8r, hw8r⟩ : ∃ W, w7r.setCells (q + 3) 0 [.int .i64 op, .int .i64 stage, .int .i64 phase, .int .i64 old, .int .i64 since, .int .i64 left, .bool awoke, .bool starve, .int .i64 need, .bool front] = W := ⟨_, rfl⟩
  replace OW := Lib.hid (own_whole (by decide) OW.out (HF1.out.blk 3 _ rfl) hw8r)
  replace OC := Lib.hid (own_whole (by decide) OC.out (HF1.out.blk 3 _ rfl) hw8r)
  have HF2 := Lib.hid ((HF1.out.all 3 rfl rfl (by rfl)).eqw hw8r)
  have hh2 := Lib.hid hw8r
  clear hw8r
  obtain ⟨w9r, hw9r⟩ : ∃ W, w8r.setCells (q + 4) 0 [.bool false, .bool false, .bool false, .int .i64 0, .int .i64 0, .int .u64 0, .slice none 0 0] = W := ⟨_, rfl⟩
  replace OW := Lib.hid (own_whole (by decide) OW.out (HF2.out.blk 4 _ rfl) hw9r)
  replace OC := Lib.hid (own_whole (by decide) OC.out (HF2.out.blk 4 _ rfl) hw9r)
  have HF3 := Lib.hid ((HF2.out.all 4 rfl rfl (by rfl)).eqw hw9r)
  have hh3 := Lib.hid hw9r
  clear hw9r
  refine wp_region_noPanic ?_
  refine wp_region_held_drew (S := (fun wv => Hid (wv.heap[q]? = some (.cells #[.int .i64 kd, .int .i64 o0, .int .i64 o1, .int .i64 o2, .int .i64 o3, .int .i64 o4, .int .i64 o5, .int .u32 wa, .int .u32 to, .slice A2 n c2, .slice B2 m d2] 29) ∧ wv.heap[q + 1]? = some (.cells #[.int .i64 op, .int .i64 stage, .int .i64 phase, .int .i64 old, .int .i64 since, .int .i64 left, .bool awoke, .bool starve, .int .i64 need, .bool front] 31)))) (by kernel_rfl) (Lib.hid (And.intro (HF0.out.blk 0 _ rfl) (HF0.out.blk 1 _ rfl))) (fun hS => ?_)
  refine wpAnyH_take (i := 0) (oi := ⟨some 49, .load 29 (.tmp 4), 29, "once.go:46", #[], none⟩) (v := .agg (([.int .i64 kd, .int .i64 o0, .int .i64 o1, .int .i64 o2, .int .i64 o3, .int .i64 o4, .int .i64 o5, .int .u32 wa, .int .u32 to, .slice A2 n c2, .slice B2 m d2] : List Value)).toArray) rfl (by kernel_rfl) (by kernel_rfl) (by kernel_rfl) (fun _ _ _ h => h) (yieldsIf_load_mid (by rfl) _ _ (by rfl) (q) (0) (by rfl) _ _ (fun wv hS => blk_rngl hS.out.1) Try.underlying29 (by rfl) (by kernel_rfl)) hS ?_
  try simp only [Act.put, List.setIfInBounds_toArray, List.set_cons_zero, List.set_cons_succ]
  refine wpAnyH_take (i := 1) (oi := ⟨some 50, .load 31 (.tmp 5), 31, "once.go:46", #[⟨3, .gcOnly .lateStores⟩], none⟩) (v := .agg (([.int .i64 op, .int .i64 stage, .int .i64 phase, .int .i64 old, .int .i64 since, .int .i64 left, .bool awoke, .bool starve, .int .i64 need, .bool front] : List Value)).toArray) rfl (by kernel_rfl) (by kernel_rfl) (by kernel_rfl) (fun _ _ _ h => h) (yieldsIf_load_mid (by rfl) _ _ (by rfl) (q + 1) (0) (by rfl) _ _ (fun wv hS => blk_rngl hS.out.2) Try.underlying31 (by rfl) (by kernel_rfl)) hS ?_
  try simp only [Act.put, List.setIfInBounds_toArray, List.set_cons_zero, List.set_cons_succ]
  refine wpAnyH_take (i := 2) (oi := ⟨some 51, .build 39 #[], 39, "once.go:46", #[⟨4, .gcOnly .lateStores⟩], none⟩) (v := ?_) rfl (by kernel_rfl) (by kernel_rfl) (by kernel_rfl) (fun _ _ _ h => h) (Or.inl ⟨by rfl, ?_⟩) hS ?_
  rotate_left
  · intro wv _; go_simp; try with_reducible rfl
  try simp only [Act.put, List.setIfInBounds_toArray, List.set_cons_zero, List.set_cons_succ]
  refine wpAnyH_ready (rs := [3]) (by kernel_rfl) (by simp) (AllReadyH.cons (o := ⟨none, .store 29 (.tmp 8) (.tmp 49), 0, "once.go:46", #[⟨0, .data⟩, ⟨0, .phase⟩, ⟨1, .textOnly .lateStores⟩, ⟨2, .textOnly .lateStores⟩], none⟩) rfl (fun K hK => ?_) AllReadyH.nil)
  refine op_storeS (by rfl) rfl rfl rfl (there_blk (HF0.out.blk 2 _ rfl) rfl) (by kernel_rfl) (by simp [Value.oneCell']) hh1.out ?_
  replace hS := Lib.hid (And.intro (HF1.out.blk 0 _ rfl) (HF1.out.blk 1 _ rfl))
  refine Shut.out hK _ _ hS (fun _ => ?_)
  clear hK K
  try simp only [Act.put, List.setIfInBounds_toArray, List.set_cons_zero, List.set_cons_succ]
  refine wpAnyH_ready (rs := [4]) (by kernel_rfl) (by simp) (AllReadyH.cons (o := ⟨none, .store 31 (.tmp 9) (.tmp 50), 0, "once.go:46", #[⟨1, .data⟩, ⟨3, .chain⟩, ⟨0, .phase⟩, ⟨1, .phase⟩, ⟨2, .textOnly .lateStores⟩, ⟨3, .phase⟩], none⟩) rfl (fun K hK => ?_) AllReadyH.nil)
  refine op_storeS (by rfl) rfl rfl rfl (there_blk (HF1.out.blk 3 _ rfl) rfl) (by kernel_rfl) (by simp [Value.oneCell']) hh2.out ?_
  replace hS := Lib.hid (And.intro (HF2.out.blk 0 _ rfl) (HF2.out.blk 1 _ rfl))
  refine Shut.out hK _ _ hS (fun _ => ?_)
  clear hK K
  try simp only [Act.put, List.setIfInBounds_toArray, List.set_cons_zero, List.set_cons_succ]
  refine wpAnyH_ready (rs := [5]) (by kernel_rfl) (by simp) (AllReadyH.cons (o := ⟨none, .store 39 (.tmp 10) (.tmp 51), 0, "once.go:46", #[⟨2, .data⟩, ⟨4, .chain⟩, ⟨0, .phase⟩, ⟨1, .phase⟩, ⟨2, .phase⟩, ⟨3, .phase⟩, ⟨4, .phase⟩], none⟩) rfl (fun K hK => ?_) AllReadyH.nil)
  refine op_storeS (by rfl) rfl rfl rfl (there_blk (HF2.out.blk 4 _ rfl) rfl) (by kernel_rfl) (by simp [Value.oneCell']) hh3.out ?_
  replace hS := Lib.hid (And.intro (HF3.out.blk 0 _ rfl) (HF3.out.blk 1 _ rfl))
  refine Shut.out hK _ _ hS (fun _ => ?_)
  clear hK K
  try simp only [Act.put, List.setIfInBounds_toArray, List.set_cons_zero, List.set_cons_succ]
  refine wpAnyH_done (by kernel_rfl) ?_ _
  refine NoPanic.normal ?_
  go_wp2
  refine bodyPost_ret (res_ccc Try.results7 (by rfl) (by rfl) (by rfl) (HF3.out.load 2 rfl rfl Try.underlying29 (by kernel_rfl)) (HF3.out.load 3 rfl rfl Try.underlying31 (by kernel_rfl)) (HF3.out.load 4 rfl rfl Try.underlying39 (by kernel_rfl))) rfl ?_
  replace FR := HF3
  rw [HE.out]
  exact ⟨A2, c2, B2, d2, rfl, (by rw [hq]; exact OW.out), (by rw [hq]; exact OC.out), FR.out.out, NW.out, NC.out⟩
theorem onOnce_nil (kd o0 o1 o2 o3 o4 o5 wa to : Int) (f : MFr) (now pat : Int) (hr : IntKind.i64.wrap o0 = o0) (w : World) : Calls Try.prog 7 #[obV kd o0 o1 o2 o3 o4 o5 wa to none 0 0 none 0 0, frV f, .int .i64 now, .int .i64 pat] w (StepN w kd o1 o3 o4 o5 wa to none 0 0 none 0 0 (onceW o0 o2 f now pat)) := by
  refine (onOnce_any kd o0 o1 o2 o3 o4 o5 wa to none 0 0 none 0 0 [] [] f now pat w (Es.nil _ _ _ _) (Es.nil _ _ _ _) (by omega) (by omega) hr).mono ?_
  rintro e w' ⟨A2, c2, B2, d2, he, _, _, hb, hA, hB⟩
  obtain ⟨rfl, rfl⟩ := hA rfl
  obtain ⟨rfl, rfl⟩ := hB rfl
  exact ⟨he, hb⟩
set_option maxRecDepth 100000 in
set_option maxHeartbeats 16000000 in
theorem onEnd_any (kd o0 o1 o2 o3 o4 o5 wa to : Int) (A : Option Addr) (n c : Nat) (B : Option Addr) (m d : Nat) (nl : List Wt) (ll : List Cl) (f : MFr) (w : World) (hx : Wts w A n c nl) (hy : Cls w B m d ll) (hn : n ≤ 16384) (hm : m ≤ 16384) (hr : IntKind.i64.wrap o0 = o0) : Calls Try.prog 9 #[obV kd o0 o1 o2 o3 o4 o5 wa to A n c B m d, frV f] w (CopN w kd o1 o3 o4 o5 wa to A n B m nl ll (endW o0 o2 f)) := by
  have RX := Lib.hid hx; have RY := Lib.hid hy
  have CP := Lib.hid (fun (W : World) (h1 : Wts W A n c nl) (h2 : Cls W B m d ll) => muCopied_any kd o0 o1 o2 o3 o4 o5 wa to A n c B m d nl ll W h1 h2 hn hm)
  clear hx hy
  obtain ⟨op, stage, phase, old, since, left, awoke, starve, need, front⟩ := f
  unfold obV frV frC
  simp only
  have HN := Lib.hid (And.intro hn (And.intro hm hr))
  clear hn hm hr
  obtain ⟨v1, hv1, z1, v2, hv2, z2, v3, hv3, z3, v4, hv4, z4, v5, hv5, z5, F⟩ := boxes5 w (.cells #[.int .i64 kd, .int .i64 o0, .int .i64 o1, .int .i64 o2, .int .i64 o3, .int .i64 o4, .int .i64 o5, .int .u32 wa, .int .u32 to, .slice A n c, .slice B m d] 29) (.cells #[.int .i64 op, .int .i64 stage, .int .i64 phase, .int .i64 old, .int .i64 since, .int .i64 left, .bool awoke, .bool starve, .int .i64 need, .bool front] 31) (.cells #[.int .i64 0, .int .i64 0, .int .i64 0, .int .i64 0, .int .i64 0, .int .i64 0, .int .i64 0, .int .u32 0, .int .u32 0, .slice none 0 0, .slice none 0 0] 29) (.cells #[.int .i64 0, .int .i64 0, .int .i64 0, .int .i64 0, .int .i64 0, .int .i64 0, .bool false, .bool false, .int .i64 0, .bool false] 31) (.cells #[.bool false, .bool false, .bool false, .int .i64 0, .int .i64 0, .int .u64 0, .slice none 0 0] 39)
  generalize hq : w.heap.size = q at *
  have FR := Lib.hid F
  clear F
  by_cases s0 : stage = 0
  · subst s0
    obtain ⟨⟨⟨z0, z2⟩, ⟨gop, gstage, gphase, gold, gsince, gleft, gawoke, gstarve, gneed, gfront⟩, ⟨gdn, ggv, ghd, gft⟩, gvl⟩, hr0⟩ : ∃ r, endW o0 o2 ⟨op, 0, phase, old, since, left, awoke, starve, need, front⟩ = r := ⟨_, rfl⟩
    have HE := Lib.hid hr0
    have ST := Lib.hid (show ∀ (A9 : Option Addr) (n9 c9 : Nat) (B9 : Option Addr) (m9 d9 : Nat) (W : World), Calls Try.prog 23 #[.agg #[.int .i64 kd, .int .i64 o0, .int .i64 o1, .int .i64 o2, .int .i64 o3, .int .i64 o4, .int .i64 o5, .int .u32 wa, .int .u32 to, .slice A9 n9 c9, .slice B9 m9 d9], .agg #[.int .i64 op, .int .i64 0, .int .i64 phase, .int .i64 old, .int .i64 since, .int .i64 left, .bool awoke, .bool starve, .int .i64 need, .bool front]] W (fun e w' => e = .returned (.tuple #[.agg #[.int .i64 kd, .int .i64 z0, .int .i64 o1, .int .i64 z2, .int .i64 o3, .int .i64 o4, .int .i64 o5, .int .u32 wa, .int .u32 to, .slice A9 n9 c9, .slice B9 m9 d9], .agg #[.int .i64 gop, .int .i64 gstage, .int .i64 gphase, .int .i64 gold, .int .i64 gsince, .int .i64 gleft, .bool gawoke, .bool gstarve, .int .i64 gneed, .bool gfront], .agg #[.bool gdn, .bool false, .bool ghd, .int .i64 ggv, .int .i64 gft, .int .u64 gvl, .slice none 0 0]]) ∧ Below W.heap.size W w') from fun A9 n9 c9 B9 m9 d9 W => by
      have h := onTell_any kd o0 o1 o2 o3 o4 o5 wa to A9 n9 c9 B9 m9 d9 ⟨op, 0, phase, old, since, left, awoke, starve, need, front⟩ rfl W
      rw [hr0] at h
      exact h)
    clear hr0 HN
    go_enter Try.func9, Try.ntmps9
    have ac0 := row11 (b := q) (FR.out.at 0 rfl rfl)
    go_wp2_with fail
    refine (CP.out _ (FR.out.es RX.out) (FR.out.es RY.out)).mono ?_
    rintro e w3 ⟨A2, c2, B2, d2, rfl, hown, hown2, hb, hA, hB⟩
    clear ac0
    unfold obV
    have hsz := FR.out.sz
    simp only [List.length_set, List.length_cons, List.length_nil] at hsz
    replace FR := Lib.hid (FR.out.step hb)
    have OW := Lib.hid (own_base hown (show q ≤ _ by omega))
    have OC := Lib.hid (own_base hown2 (show q ≤ _ by omega))
    have NW := Lib.hid hA
    have NC := Lib.hid hB
    clear hown hown2 hb hsz hA hB
    obtain ⟨mw6p, w6p, hw6p, hse, F⟩ := FR.out.put11 0 rfl (b := q) rfl (.int .i64 kd) (.int .i64 o0) (.int .i64 o1) (.int .i64 o2) (.int .i64 o3) (.int .i64 o4) (.int .i64 o5) (.int .u32 wa) (.int .u32 to) (.slice A2 n c2) (.slice B2 m d2)
    replace OW := Lib.hid (own_whole (by decide) OW.out (FR.out.blk 0 _ rfl) hse)
    replace OC := Lib.hid (own_whole (by decide) OC.out (FR.out.blk 0 _ rfl) hse)
    replace FR := F
    clear F hse
    have cc0 := row11 (b := q) (FR.out.at 0 rfl rfl)
    have cc1 := row10 (b := q + 1) (FR.out.at 1 rfl rfl)
    go_wp2_with fail
    refine (ST.out _ _ _ _ _ _ _).mono ?_
    rintro e w5 ⟨rfl, hb⟩
    clear mw6p cc0 cc1
    clear hw6p
    replace FR := Lib.hid (FR.out.step hb)
    replace OW := Lib.hid (own_below OW.out hb)
    replace OC := Lib.hid (own_below OC.out hb)
    clear hb
    obtain ⟨mw7r, w7r, hw7r, hse, F⟩ := FR.out.put11 2 rfl (b := q + 2) rfl (.int .i64 kd) (.int .i64 z0) (.int .i64 o1) (.int .i64 z2) (.int .i64 o3) (.int .i64 o4) (.int .i64 o5) (.int .u32 wa) (.int .u32 to) (.slice A2 n c2) (.slice B2 m d2)
    replace OW := Lib.hid (own_whole (by decide) OW.out (FR.out.blk 2 _ rfl) hse)
    replace OC := Lib.hid (own_whole (by decide) OC.out (FR.out.blk 2 _ rfl) hse)
    replace FR := F
    clear F hse
    obtain ⟨mw8r, w8r, hw8r, hse, F⟩ := FR.out.put10 3 rfl (b := q + 3) rfl (.int .i64 gop) (.int .i64 gstage) (.int .i64 gphase) (.int .i64 gold) (.int .i64 gsince) (.int .i64 gleft) (.bool gawoke) (.bool gstarve) (.int .i64 gneed) (.bool gfront)
    replace OW := Lib.hid (own_whole (by decide) OW.out (FR.out.blk 3 _ rfl) hse)
    replace OC := Lib.hid (own_whole (by decide) OC.out (FR.out.blk 3 _ rfl) hse)
    replace FR := F
    clear F hse
    obtain ⟨mw9r, w9r, hw9r, hse, F⟩ := FR.out.put7 4 rfl (b := q + 4) rfl (.bool gdn) (.bool false) (.bool ghd) (.int .i64 ggv) (.int .i64 gft) (.int .u64 gvl) (.slice none 0 0)
    replace OW := Lib.hid (own_whole (by decide) OW.out (FR.out.blk 4 _ rfl) hse)
    replace OC := Lib.hid (own_whole (by decide) OC.out (FR.out.blk 4 _ rfl) hse)
    replace FR := F
    clear F hse
    go_wp2
    refine bodyPost_ret (res_ccc Try.results9 (by rfl) (by rfl) (by rfl) (FR.out.load 2 rfl rfl Try.underlying29 (by kernel_rfl)) (FR.out.load 3 rfl rfl Try.underlying31 (by kernel_rfl)) (FR.out.load 4 rfl rfl Try.underlying39 (by kernel_rfl))) rfl ?_
    rw [HE.out]
    exact ⟨A2, c2, B2, d2, rfl, (by rw [hq]; exact OW.out), (by rw [hq]; exact OC.out), FR.out.out, NW.out, NC.out⟩
  have n0 : (stage == 0) = false := by simp [s0]
  by_cases s1 : stage = 1
  · subst s1
    obtain ⟨⟨z, ⟨gop, gstage, gphase, gold, gsince, gleft, gawoke, gstarve, gneed, gfront⟩, ⟨gdn, ggv, ghd, gft⟩⟩, hr0⟩ : ∃ r, unlockM o0 ⟨op, 1, phase, old, since, left, awoke, starve, need, front⟩ = r := ⟨_, rfl⟩
    have HE := Lib.hid (show endW o0 o2 ⟨op, 1, phase, old, since, left, awoke, starve, need, front⟩ = ((z, o2), ⟨gop, gstage, gphase, gold, gsince, gleft, gawoke, gstarve, gneed, gfront⟩, ⟨gdn, ggv, ghd, gft⟩, 0) from by
      unfold endW
      rw [if_neg (fun h => (show ¬ ((1 : Int) = 0) by decide) h.1), if_neg (show ¬ ((1 : Int) = 0) by decide), if_pos rfl, hr0])
    have ST := Lib.hid (show ∀ (A9 : Option Addr) (c9 : Nat) (B9 : Option Addr) (d9 : Nat) (W : World), Wts W A9 n c9 nl → Cls W B9 m d9 ll → Calls Try.prog 19 #[.agg #[.int .i64 kd, .int .i64 o0, .int .i64 o1, .int .i64 o2, .int .i64 o3, .int .i64 o4, .int .i64 o5, .int .u32 wa, .int .u32 to, .slice A9 n c9, .slice B9 m d9], .agg #[.int .i64 op, .int .i64 1, .int .i64 phase, .int .i64 old, .int .i64 since, .int .i64 left, .bool awoke, .bool starve, .int .i64 need, .bool front]] W (fun e w' => ∃ A2 c2 B2 d2, e = .returned (.tuple #[.agg #[.int .i64 kd, .int .i64 z, .int .i64 o1, .int .i64 o2, .int .i64 o3, .int .i64 o4, .int .i64 o5, .int .u32 wa, .int .u32 to, .slice A2 n c2, .slice B2 m d2], .agg #[.int .i64 gop, .int .i64 gstage, .int .i64 gphase, .int .i64 gold, .int .i64 gsince, .int .i64 gleft, .bool gawoke, .bool gstarve, .int .i64 gneed, .bool gfront], .agg #[.bool gdn, .bool false, .bool ghd, .int .i64 ggv, .int .i64 gft, .int .u64 0, .slice none 0 0]]) ∧ w'.ownsRow W.heap.size 60 2 (.slice A2 n c2) n (wtC nl) ∧ w'.ownsRow W.heap.size 56 2 (.slice B2 m d2) m (clC ll) ∧ Below W.heap.size W w' ∧ (A9 = none → A2 = none ∧ c2 = 0) ∧ (B9 = none → B2 = none ∧ d2 = 0)) from fun A9 c9 B9 d9 W h1 h2 => by
      have h := muUnlock_any kd o0 o1 o2 o3 o4 o5 wa to A9 n c9 B9 m d9 nl ll ⟨op, 1, phase, old, since, left, awoke, starve, need, front⟩ W h1 h2 HN.out.1 HN.out.2.1 HN.out.2.2
      rw [hr0] at h
      exact h)
    clear hr0 HN
    clear s0 n0
    go_enter Try.func9, Try.ntmps9
    have ac0 := row11 (b := q) (FR.out.at 0 rfl rfl)
    go_wp2_with fail
    refine (CP.out _ (FR.out.es RX.out) (FR.out.es RY.out)).mono ?_
    rintro e w3 ⟨A2, c2, B2, d2, rfl, hown, hown2, hb, hA, hB⟩
    clear ac0
    unfold obV
    have hsz := FR.out.sz
    simp only [List.length_set, List.length_cons, List.length_nil] at hsz
    replace FR := Lib.hid (FR.out.step hb)
    have OW := Lib.hid (own_base hown (show q ≤ _ by omega))
    have OC := Lib.hid (own_base hown2 (show q ≤ _ by omega))
    have NW := Lib.hid hA
    have NC := Lib.hid hB
    clear hown hown2 hb hsz hA hB
    obtain ⟨mw6p, w6p, hw6p, hse, F⟩ := FR.out.put11 0 rfl (b := q) rfl (.int .i64 kd) (.int .i64 o0) (.int .i64 o1) (.int .i64 o2) (.int .i64 o3) (.int .i64 o4) (.int .i64 o5) (.int .u32 wa) (.int .u32 to) (.slice A2 n c2) (.slice B2 m d2)
    replace OW := Lib.hid (own_whole (by decide) OW.out (FR.out.blk 0 _ rfl) hse)
    replace OC := Lib.hid (own_whole (by decide) OC.out (FR.out.blk 0 _ rfl) hse)
    replace FR := F
    clear F hse
    have cc0 := row11 (b := q) (FR.out.at 0 rfl rfl)
    have cc1 := row10 (b := q + 1) (FR.out.at 1 rfl rfl)
    have hsz := FR.out.sz
    simp only [List.length_set, List.length_cons, List.length_nil] at hsz
    have hqw := Nat.le_trans (Nat.le_add_right q _) hsz
    have HQ := Lib.hid hqw
    clear hsz hqw
    go_wp2_with fail
    refine (ST.out _ _ _ _ _ (own_wts OW.out) (own_cls OC.out)).mono ?_
    rintro e w5 ⟨A3, c3, B3, d3, rfl, hown, hown2, hb, hA, hB⟩
    clear mw6p cc0 cc1
    clear hw6p
    clear OW OC
    replace FR := Lib.hid (FR.out.step hb)
    have OW := Lib.hid (own_base hown HQ.out)
    have OC := Lib.hid (own_base hown2 HQ.out)
    replace NW := Lib.hid (fun h => hA (NW.out h).1)
    replace NC := Lib.hid (fun h => hB (NC.out h).1)
    clear hown hown2 hb hA hB HQ
    obtain ⟨mw7r, w7r, hw7r, hse, F⟩ := FR.out.put11 2 rfl (b := q + 2) rfl (.int .i64 kd) (.int .i64 z) (.int .i64 o1) (.int .i64 o2) (.int .i64 o3) (.int .i64 o4) (.int .i64 o5) (.int .u32 wa) (.int .u32 to) (.slice A3 n c3) (.slice B3 m d3)
    replace OW := Lib.hid (own_whole (by decide) OW.out (FR.out.blk 2 _ rfl) hse)
    replace OC := Lib.hid (own_whole (by decide) OC.out (FR.out.blk 2 _ rfl) hse)
    replace FR := F
    clear F hse
    obtain ⟨mw8r, w8r, hw8r, hse, F⟩ := FR.out.put10 3 rfl (b := q + 3) rfl (.int .i64 gop) (.int .i64 gstage) (.int .i64 gphase) (.int .i64 gold) (.int .i64 gsince) (.int .i64 gleft) (.bool gawoke) (.bool gstarve) (.int .i64 gneed) (.bool gfront)
    replace OW := Lib.hid (own_whole (by decide) OW.out (FR.out.blk 3 _ rfl) hse)
    replace OC := Lib.hid (own_whole (by decide) OC.out (FR.out.blk 3 _ rfl) hse)
    replace FR := F
    clear F hse
    obtain ⟨mw9r, w9r, hw9r, hse, F⟩ := FR.out.put7 4 rfl (b := q + 4) rfl (.bool gdn) (.bool false) (.bool ghd) (.int .i64 ggv) (.int .i64 gft) (.int .u64 0) (.slice none 0 0)
    replace OW := Lib.hid (own_whole (by decide) OW.out (FR.out.blk 4 _ rfl) hse)
    replace OC := Lib.hid (own_whole (by decide) OC.out (FR.out.blk 4 _ rfl) hse)
    replace FR := F
    clear F hse
    go_wp2
    refine bodyPost_ret (res_ccc Try.results9 (by rfl) (by rfl) (by rfl) (FR.out.load 2 rfl rfl Try.underlying29 (by kernel_rfl)) (FR.out.load 3 rfl rfl Try.underlying31 (by kernel_rfl)) (FR.out.load 4 rfl rfl Try.underlying39 (by kernel_rfl))) rfl ?_
    rw [HE.out]
    exact ⟨A3, c3, B3, d3, rfl, (by rw [hq]; exact OW.out), (by rw [hq]; exact OC.out), FR.out.out, NW.out, NC.out⟩
  have n1 : (stage == 1) = false := by simp [s1]
  have HE := Lib.hid (show endW o0 o2 ⟨op, stage, phase, old, since, left, awoke, starve, need, front⟩ = ((o0, o2), ⟨op, stage, phase, old, since, left, awoke, starve, need, front⟩, noA, 0) from by
    unfold endW
    rw [if_neg (fun h => s0 h.1), if_neg s0, if_neg s1])
  clear HN s0 s1
  go_enter Try.func9, Try.ntmps9
  have ac0 := row11 (b := q) (FR.out.at 0 rfl rfl)
  go_wp2_with fail
  refine (CP.out _ (FR.out.es RX.out) (FR.out.es RY.out)).mono ?_
  rintro e w3 ⟨A2, c2, B2, d2, rfl, hown, hown2, hb, hA, hB⟩
  clear ac0
  unfold obV
  have hsz := FR.out.sz
  simp only [List.length_set, List.length_cons, List.length_nil] at hsz
  replace FR := Lib.hid (FR.out.step hb)
  have OW := Lib.hid (own_base hown (show q ≤ _ by omega))
  have OC := Lib.hid (own_base hown2 (show q ≤ _ by omega))
  have NW := Lib.hid hA
  have NC := Lib.hid hB
  clear hown hown2 hb hsz hA hB
  obtain ⟨mw6p, w6p, hw6p, hse, F⟩ := FR.out.put11 0 rfl (b := q) rfl (.int .i64 kd) (.int .i64 o0) (.int .i64 o1) (.int .i64 o2) (.int .i64 o3) (.int .i64 o4) (.int .i64 o5) (.int .u32 wa) (.int .u32 to) (.slice A2 n c2) (.slice B2 m d2)
  replace OW := Lib.hid (own_whole (by decide) OW.out (FR.out.blk 0 _ rfl) hse)
  replace OC := Lib.hid (own_whole (by decide) OC.out (FR.out.blk 0 _ rfl) hse)
  replace FR := F
  clear F hse
  have cc0 := row11 (b := q) (FR.out.at 0 rfl rfl)
  have cc1 := row10 (b := q + 1) (FR.out.at 1 rfl rfl)
  go_wp2
  replace OW := Lib.hid OW.out.drew
  replace OC := Lib.hid OC.out.drew
  have HF0 := Lib.hid FR.out.drew
  obtain ⟨w7r, hw7r⟩ : ∃ W, w6p.drew.setCells (q + 2) 0 [.int .i64 kd, .int .i64 o0, .int .i64 o1, .int .i64 o2, .int .i64 o3, .int .i64 o4, .int .i64 o5, .int .u32 wa, .int .u32 to, .slice A2 n c2, .slice B2 m d2] = W := ⟨_, rfl⟩
  replace OW := Lib.hid (own_whole (by decide) OW.out (HF0.out.blk 2 _ rfl) hw7r)
  replace OC := Lib.hid (own_whole (by decide) OC.out (HF0.out.blk 2 _ rfl) hw7r)
  have HF1 := Lib.hid ((HF0.out.all 2 rfl rfl (by rfl)).eqw hw7r)
  have hh1 := Lib.hid hw7r
  clear hw7r
  obtain ⟨w8r, hw8r⟩ : ∃ W, w7r.setCells (q + 3) 0 [.int .i64 op, .int .i64 stage, .int .i64 phase, .int .i64 old, .int .i64 since, .int .i64 left, .bool awoke, .bool starve, .int .i64 need, .bool front] = W := ⟨_, rfl⟩
  replace OW := Lib.hid (own_whole (by decide) OW.out (HF1.out.blk 3 _ rfl) hw8r)
  replace OC := Lib.hid (own_whole (by decide) OC.out (HF1.out.blk 3 _ rfl) hw8r)
  have HF2 := Lib.hid ((HF1.out.all 3 rfl rfl (by rfl)).eqw hw8r)
  have hh2 := Lib.hid hw8r
  clear hw8r
  obtain ⟨w9r, hw9r⟩ : ∃ W, w8r.setCells (q + 4) 0 [.bool false, .bool false, .bool false, .int .i64 0, .int .i64 0, .int .u64 0, .slice none 0 0] = W := ⟨_, rfl⟩
  replace OW := Lib.hid (own_whole (by decide) OW.out (HF2.out.blk 4 _ rfl) hw9r)
  replace OC := Lib.hid (own_whole (by decide) OC.out (HF2.out.blk 4 _ rfl) hw9r)
  have HF3 := Lib.hid ((HF2.out.all 4 rfl rfl (by rfl)).eqw hw9r)
  have hh3 := Lib.hid hw9r
  clear hw9r
  refine wp_region_noPanic ?_
  refine wp_region_held_drew (S := (fun wv => Hid (wv.heap[q]? = some (.cells #[.int .i64 kd, .int .i64 o0, .int .i64 o1, .int .i64 o2, .int .i64 o3, .int .i64 o4, .int .i64 o5, .int .u32 wa, .int .u32 to, .slice A2 n c2, .slice B2 m d2] 29) ∧ wv.heap[q + 1]? = some (.cells #[.int .i64 op, .int .i64 stage, .int .i64 phase, .int .i64 old, .int .i64 since, .int .i64 left, .bool awoke, .bool starve, .int .i64 need, .bool front] 31)))) (by kernel_rfl) (Lib.hid (And.intro (HF0.out.blk 0 _ rfl) (HF0.out.blk 1 _ rfl))) (fun hS => ?_)
  refine wpAnyH_take (i := 0) (oi := ⟨some 27, .load 29 (.tmp 2), 29, "once.go:58", #[], none⟩) (v := .agg (([.int .i64 kd, .int .i64 o0, .int .i64 o1, .int .i64 o2, .int .i64 o3, .int .i64 o4, .int .i64 o5, .int .u32 wa, .int .u32 to, .slice A2 n c2, .slice B2 m d2] : List Value)).toArray) rfl (by kernel_rfl) (by kernel_rfl) (by kernel_rfl) (fun _ _ _ h => h) (yieldsIf_load_mid (by rfl) _ _ (by rfl) (q) (0) (by rfl) _ _ (fun wv hS => blk_rngl hS.out.1) Try.underlying29 (by rfl) (by kernel_rfl)) hS ?_
  try simp only [Act.put, List.setIfInBounds_toArray, List.set_cons_zero, List.set_cons_succ]
  refine wpAnyH_take (i := 1) (oi := ⟨some 28, .load 31 (.tmp 3), 31, "once.go:58", #[⟨3, .gcOnly .lateStores⟩], none⟩) (v := .agg (([.int .i64 op, .int .i64 stage, .int .i64 phase, .int .i64 old, .int .i64 since, .int .i64 left, .bool awoke, .bool starve, .int .i64 need, .bool front] : List Value)).toArray) rfl (by kernel_rfl) (by kernel_rfl) (by kernel_rfl) (fun _ _ _ h => h) (yieldsIf_load_mid (by rfl) _ _ (by rfl) (q + 1) (0) (by rfl) _ _ (fun wv hS => blk_rngl hS.out.2) Try.underlying31 (by rfl) (by kernel_rfl)) hS ?_
  try simp only [Act.put, List.setIfInBounds_toArray, List.set_cons_zero, List.set_cons_succ]
  refine wpAnyH_take (i := 2) (oi := ⟨some 29, .build 39 #[], 39, "once.go:58", #[⟨4, .gcOnly .lateStores⟩], none⟩) (v := ?_) rfl (by kernel_rfl) (by kernel_rfl) (by kernel_rfl) (fun _ _ _ h => h) (Or.inl ⟨by rfl, ?_⟩) hS ?_
  rotate_left
  · intro wv _; go_simp; try with_reducible rfl
  try simp only [Act.put, List.setIfInBounds_toArray, List.set_cons_zero, List.set_cons_succ]
  refine wpAnyH_ready (rs := [3]) (by kernel_rfl) (by simp) (AllReadyH.cons (o := ⟨none, .store 29 (.tmp 4) (.tmp 27), 0, "once.go:58", #[⟨0, .data⟩, ⟨0, .phase⟩, ⟨1, .textOnly .lateStores⟩, ⟨2, .textOnly .lateStores⟩], none⟩) rfl (fun K hK => ?_) AllReadyH.nil)
  refine op_storeS (by rfl) rfl rfl rfl (there_blk (HF0.out.blk 2 _ rfl) rfl) (by kernel_rfl) (by simp [Value.oneCell']) hh1.out ?_
  replace hS := Lib.hid (And.intro (HF1.out.blk 0 _ rfl) (HF1.out.blk 1 _ rfl))
  refine Shut.out hK _ _ hS (fun _ => ?_)
  clear hK K
  try simp only [Act.put, List.setIfInBounds_toArray, List.set_cons_zero, List.set_cons_succ]
  refine wpAnyH_ready (rs := [4]) (by kernel_rfl) (by simp) (AllReadyH.cons (o := ⟨none, .store 31 (.tmp 5) (.tmp 28), 0, "once.go:58", #[⟨1, .data⟩, ⟨3, .chain⟩, ⟨0, .phase⟩, ⟨1, .phase⟩, ⟨2, .textOnly .lateStores⟩, ⟨3, .phase⟩], none⟩) rfl (fun K hK => ?_) AllReadyH.nil)
  refine op_storeS (by rfl) rfl rfl rfl (there_blk (HF1.out.blk 3 _ rfl) rfl) (by kernel_rfl) (by simp [Value.oneCell']) hh2.out ?_
  replace hS := Lib.hid (And.intro (HF2.out.blk 0 _ rfl) (HF2.out.blk 1 _ rfl))
  refine Shut.out hK _ _ hS (fun _ => ?_)
  clear hK K
  try simp only [Act.put, List.setIfInBounds_toArray, List.set_cons_zero, List.set_cons_succ]
  refine wpAnyH_ready (rs := [5]) (by kernel_rfl) (by simp) (AllReadyH.cons (o := ⟨none, .store 39 (.tmp 6) (.tmp 29), 0, "once.go:58", #[⟨2, .data⟩, ⟨4, .chain⟩, ⟨0, .phase⟩, ⟨1, .phase⟩, ⟨2, .phase⟩, ⟨3, .phase⟩, ⟨4, .phase⟩], none⟩) rfl (fun K hK => ?_) AllReadyH.nil)
  refine op_storeS (by rfl) rfl rfl rfl (there_blk (HF2.out.blk 4 _ rfl) rfl) (by kernel_rfl) (by simp [Value.oneCell']) hh3.out ?_
  replace hS := Lib.hid (And.intro (HF3.out.blk 0 _ rfl) (HF3.out.blk 1 _ rfl))
  refine Shut.out hK _ _ hS (fun _ => ?_)
  clear hK K
  try simp only [Act.put, List.setIfInBounds_toArray, List.set_cons_zero, List.set_cons_succ]
  refine wpAnyH_done (by kernel_rfl) ?_ _
  refine NoPanic.normal ?_
  go_wp2
  refine bodyPost_ret (res_ccc Try.results9 (by rfl) (by rfl) (by rfl) (HF3.out.load 2 rfl rfl Try.underlying29 (by kernel_rfl)) (HF3.out.load 3 rfl rfl Try.underlying31 (by kernel_rfl)) (HF3.out.load 4 rfl rfl Try.underlying39 (by kernel_rfl))) rfl ?_
  replace FR := HF3
  rw [HE.out]
  exact ⟨A2, c2, B2, d2, rfl, (by rw [hq]; exact OW.out), (by rw [hq]; exact OC.out), FR.out.out, NW.out, NC.out⟩
theorem onEnd_nil (kd o0 o1 o2 o3 o4 o5 wa to : Int) (f : MFr) (hr : IntKind.i64.wrap o0 = o0) (w : World) : Calls Try.prog 9 #[obV kd o0 o1 o2 o3 o4 o5 wa to none 0 0 none 0 0, frV f] w (StepN w kd o1 o3 o4 o5 wa to none 0 0 none 0 0 (endW o0 o2 f)) := by
  refine (onEnd_any kd o0 o1 o2 o3 o4 o5 wa to none 0 0 none 0 0 [] [] f w (Es.nil _ _ _ _) (Es.nil _ _ _ _) (by omega) (by omega) hr).mono ?_
  rintro e w' ⟨A2, c2, B2, d2, he, _, _, hb, hA, hB⟩
  obtain ⟨rfl, rfl⟩ := hA rfl
  obtain ⟨rfl, rfl⟩ := hB rfl
  exact ⟨he, hb⟩
end Go.Proofs.Ytkecmiedeihdgaa
