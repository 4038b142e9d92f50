/- Layer 16: what the landed rw's RLock, RUnlock and Readers answer; for lists of up to 16384. -/
import Derived.Test.YtpkegfochfkkcaaRwF
import Derived.Test.YtpkegfochfkkcaaMutG
namespace Go.Proofs.Ytpkegfochfkkcaa
set_option linter.unusedVariables false
set_option linter.unusedSimpArgs false
open Go.RowKit
/-- a step's object, whose lists are the call's own, frame and act. -/
def CopR (w : World) (kd o1 o2 o3 wa to : Int) (A : Option Addr) (n : Nat) (B : Option Addr) (m : Nat) (nl : List Wt) (ll : List Cl) (r : RwR) (e : Ending) (w' : World) : Prop :=
  ∃ A2 c2 B2 d2, e = .returned (.tuple #[obV kd r.1.1 o1 o2 o3 r.1.2.1 r.1.2.2 wa to A2 n c2 B2 m d2, frV r.2.1, acV r.2.2]) ∧ w'.ownsRow w.heap.size 67 2 (.slice A2 n c2) n (wtC nl) ∧ w'.ownsRow w.heap.size 62 2 (.slice B2 m d2) m (clC ll) ∧ Below w.heap.size w w' ∧ (A = none → A2 = none ∧ c2 = 0) ∧ (B = none → B2 = none ∧ d2 = 0)
theorem own_es {w : World} {base k n c : Nat} {T : TypeId} {A : Option Addr} {cs : List Value} (h : w.ownsRow base T k (.slice A n c) n cs) (h1 : ∀ u ∈ cs, u.oneCell' = true) : Es w A n c k cs := by
  obtain ⟨A2, c2, e, h2⟩ := Es.of_own h h1
  injection e with e1 _ e3
  subst e1 e3
  exact h2
theorem own_wts {w : World} {base n c : Nat} {T : TypeId} {A : Option Addr} {l : List Wt} (h : w.ownsRow base T 2 (.slice A n c) n (wtC l)) : Wts w A n c l := own_es h (wtC_one l)
theorem own_cls {w : World} {base n c : Nat} {T : TypeId} {A : Option Addr} {l : List Cl} (h : w.ownsRow base T 2 (.slice A n c) n (clC l)) : Cls w A n c l := own_es h (clC_one l)
theorem wf_wrap {x : Int} (h : (Lit.int .i64 x).wf = true) : IntKind.i64.wrap x = x := by
  have h1 : IntKind.i64.min = -9223372036854775808 := rfl
  have h2 : IntKind.i64.max = 9223372036854775807 := rfl
  simp only [Lit.wf, h1, h2, Bool.and_eq_true, decide_eq_true_eq] at h
  rw [IntKind.wrap_i64]; omega
set_option maxRecDepth 100000 in
set_option maxHeartbeats 16000000 in
theorem rwRLock_any (kd o0 o1 o2 o3 o4 o5 wa to : Int) (A : Option Addr) (n c : Nat) (B : Option Addr) (m d : Nat) (nl : List Wt) (ll : List Cl) (f : MFr) (w : World) (hx : Wts w A n c nl) (hy : Cls w B m d ll) (hn : n ≤ 16384) (hm : m ≤ 16384) (hr : IntKind.i64.wrap o0 = o0 ∧ IntKind.i64.wrap o4 = o4 ∧ IntKind.i64.wrap o5 = o5) : Calls Try.prog 9 #[obV kd o0 o1 o2 o3 o4 o5 wa to A n c B m d, frV f] w (CopR w kd o1 o2 o3 wa to A n B m nl ll (rlockW o0 o4 o5 f)) := by
  have RX := Lib.hid hx; have RY := Lib.hid hy
  have CP := Lib.hid (fun (W : World) (h1 : Wts W A n c nl) (h2 : Cls W B m d ll) => muCopied_any kd o0 o1 o2 o3 o4 o5 wa to A n c B m d nl ll W h1 h2 hn hm)
  clear hx hy hn hm hr
  obtain ⟨op, stage, phase, old, since, left, awoke, starve, need, front⟩ := f
  unfold obV frV frC
  simp only
  obtain ⟨v1, hv1, z1, v2, hv2, z2, v3, hv3, z3, v4, hv4, z4, v5, hv5, z5, F⟩ := boxes5 w (.cells #[.int .i64 kd, .int .i64 o0, .int .i64 o1, .int .i64 o2, .int .i64 o3, .int .i64 o4, .int .i64 o5, .int .u32 wa, .int .u32 to, .slice A n c, .slice B m d] 29) (.cells #[.int .i64 op, .int .i64 stage, .int .i64 phase, .int .i64 old, .int .i64 since, .int .i64 left, .bool awoke, .bool starve, .int .i64 need, .bool front] 31) (.cells #[.int .i64 0, .int .i64 0, .int .i64 0, .int .i64 0, .int .i64 0, .int .i64 0, .int .i64 0, .int .u32 0, .int .u32 0, .slice none 0 0, .slice none 0 0] 29) (.cells #[.int .i64 0, .int .i64 0, .int .i64 0, .int .i64 0, .int .i64 0, .int .i64 0, .bool false, .bool false, .int .i64 0, .bool false] 31) (.cells #[.bool false, .bool false, .bool false, .int .i64 0, .int .i64 0, .int .u64 0, .slice none 0 0] 38)
  generalize hq : w.heap.size = q at *
  have FR := Lib.hid F
  clear F
  by_cases s0 : stage = 0
  · subst s0
    obtain ⟨⟨⟨z0, z4, z5⟩, ⟨gop, gstage, gphase, gold, gsince, gleft, gawoke, gstarve, gneed, gfront⟩, ⟨gdn, ggv, ghd, gft⟩⟩, hr0⟩ : ∃ r, rlockW o0 o4 o5 ⟨op, 0, phase, old, since, left, awoke, starve, need, front⟩ = r := ⟨_, rfl⟩
    have HE := Lib.hid hr0
    have ST := Lib.hid (show ∀ (A9 : Option Addr) (n9 c9 : Nat) (B9 : Option Addr) (m9 d9 : Nat) (W : World), Calls Try.prog 22 #[.agg #[.int .i64 kd, .int .i64 o0, .int .i64 o1, .int .i64 o2, .int .i64 o3, .int .i64 o4, .int .i64 o5, .int .u32 wa, .int .u32 to, .slice A9 n9 c9, .slice B9 m9 d9], .agg #[.int .i64 op, .int .i64 0, .int .i64 phase, .int .i64 old, .int .i64 since, .int .i64 left, .bool awoke, .bool starve, .int .i64 need, .bool front]] W (fun e w' => e = .returned (.tuple #[.agg #[.int .i64 kd, .int .i64 z0, .int .i64 o1, .int .i64 o2, .int .i64 o3, .int .i64 z4, .int .i64 z5, .int .u32 wa, .int .u32 to, .slice A9 n9 c9, .slice B9 m9 d9], .agg #[.int .i64 gop, .int .i64 gstage, .int .i64 gphase, .int .i64 gold, .int .i64 gsince, .int .i64 gleft, .bool gawoke, .bool gstarve, .int .i64 gneed, .bool gfront], .agg #[.bool gdn, .bool false, .bool ghd, .int .i64 ggv, .int .i64 gft, .int .u64 0, .slice none 0 0]]) ∧ Below W.heap.size W w') from fun A9 n9 c9 B9 m9 d9 W => by
      have h := rwCome_any kd o0 o1 o2 o3 o4 o5 wa to A9 n9 c9 B9 m9 d9 ⟨op, 0, phase, old, since, left, awoke, starve, need, front⟩ rfl W
      rw [hr0] at h
      exact h)
    clear hr0
    go_enter Try.func9, Try.ntmps9
    have ac0 := row11 (b := q) (FR.out.at 0 rfl rfl)
    go_wp2_with fail
    refine (CP.out _ (FR.out.es RX.out) (FR.out.es RY.out)).mono ?_
    rintro e w3 ⟨A2, c2, B2, d2, rfl, hown, hown2, hb, hA, hB⟩
    clear ac0
    unfold obV
    have hsz := FR.out.sz
    simp only [List.length_set, List.length_cons, List.length_nil] at hsz
    replace FR := Lib.hid (FR.out.step hb)
    have OW := Lib.hid (own_base hown (show q ≤ _ by omega))
    have OC := Lib.hid (own_base hown2 (show q ≤ _ by omega))
    have NW := Lib.hid hA
    have NC := Lib.hid hB
    clear hown hown2 hb hsz hA hB
    obtain ⟨mw6p, w6p, hw6p, hse, F⟩ := FR.out.put11 0 rfl (b := q) rfl (.int .i64 kd) (.int .i64 o0) (.int .i64 o1) (.int .i64 o2) (.int .i64 o3) (.int .i64 o4) (.int .i64 o5) (.int .u32 wa) (.int .u32 to) (.slice A2 n c2) (.slice B2 m d2)
    replace OW := Lib.hid (own_whole (by decide) OW.out (FR.out.blk 0 _ rfl) hse)
    replace OC := Lib.hid (own_whole (by decide) OC.out (FR.out.blk 0 _ rfl) hse)
    replace FR := F
    clear F hse
    have cc0 := row11 (b := q) (FR.out.at 0 rfl rfl)
    have cc1 := row10 (b := q + 1) (FR.out.at 1 rfl rfl)
    go_wp2_with fail
    refine (ST.out _ _ _ _ _ _ _).mono ?_
    rintro e w5 ⟨rfl, hb⟩
    clear mw6p cc0 cc1
    clear hw6p
    replace FR := Lib.hid (FR.out.step hb)
    replace OW := Lib.hid (own_below OW.out hb)
    replace OC := Lib.hid (own_below OC.out hb)
    clear hb
    obtain ⟨mw7r, w7r, hw7r, hse, F⟩ := FR.out.put11 2 rfl (b := q + 2) rfl (.int .i64 kd) (.int .i64 z0) (.int .i64 o1) (.int .i64 o2) (.int .i64 o3) (.int .i64 z4) (.int .i64 z5) (.int .u32 wa) (.int .u32 to) (.slice A2 n c2) (.slice B2 m d2)
    replace OW := Lib.hid (own_whole (by decide) OW.out (FR.out.blk 2 _ rfl) hse)
    replace OC := Lib.hid (own_whole (by decide) OC.out (FR.out.blk 2 _ rfl) hse)
    replace FR := F
    clear F hse
    obtain ⟨mw8r, w8r, hw8r, hse, F⟩ := FR.out.put10 3 rfl (b := q + 3) rfl (.int .i64 gop) (.int .i64 gstage) (.int .i64 gphase) (.int .i64 gold) (.int .i64 gsince) (.int .i64 gleft) (.bool gawoke) (.bool gstarve) (.int .i64 gneed) (.bool gfront)
    replace OW := Lib.hid (own_whole (by decide) OW.out (FR.out.blk 3 _ rfl) hse)
    replace OC := Lib.hid (own_whole (by decide) OC.out (FR.out.blk 3 _ rfl) hse)
    replace FR := F
    clear F hse
    obtain ⟨mw9r, w9r, hw9r, hse, F⟩ := FR.out.put7 4 rfl (b := q + 4) rfl (.bool gdn) (.bool false) (.bool ghd) (.int .i64 ggv) (.int .i64 gft) (.int .u64 0) (.slice none 0 0)
    replace OW := Lib.hid (own_whole (by decide) OW.out (FR.out.blk 4 _ rfl) hse)
    replace OC := Lib.hid (own_whole (by decide) OC.out (FR.out.blk 4 _ rfl) hse)
    replace FR := F
    clear F hse
    go_wp2
    refine bodyPost_ret (res_ccc Try.results9 (by rfl) (by rfl) (by rfl) (FR.out.load 2 rfl rfl Try.underlying29 (by kernel_rfl)) (FR.out.load 3 rfl rfl Try.underlying31 (by kernel_rfl)) (FR.out.load 4 rfl rfl Try.underlying38 (by kernel_rfl))) rfl ?_
    rw [HE.out]
    exact ⟨A2, c2, B2, d2, rfl, (by rw [hq]; exact OW.out), (by rw [hq]; exact OC.out), FR.out.out, NW.out, NC.out⟩
  have n0 : (stage == 0) = false := by simp [s0]
  by_cases s1 : stage = 1
  · subst s1
    have HE := Lib.hid (show rlockW o0 o4 o5 ⟨op, 1, phase, old, since, left, awoke, starve, need, front⟩ = ((o0, o4, o5), noF, doneA) from by
      unfold rlockW
      exact if_pos rfl)
    clear s0 n0
    go_enter Try.func9, Try.ntmps9
    have ac0 := row11 (b := q) (FR.out.at 0 rfl rfl)
    go_wp2_with fail
    refine (CP.out _ (FR.out.es RX.out) (FR.out.es RY.out)).mono ?_
    rintro e w3 ⟨A2, c2, B2, d2, rfl, hown, hown2, hb, hA, hB⟩
    clear ac0
    unfold obV
    have hsz := FR.out.sz
    simp only [List.length_set, List.length_cons, List.length_nil] at hsz
    replace FR := Lib.hid (FR.out.step hb)
    have OW := Lib.hid (own_base hown (show q ≤ _ by omega))
    have OC := Lib.hid (own_base hown2 (show q ≤ _ by omega))
    have NW := Lib.hid hA
    have NC := Lib.hid hB
    clear hown hown2 hb hsz hA hB
    obtain ⟨mw6p, w6p, hw6p, hse, F⟩ := FR.out.put11 0 rfl (b := q) rfl (.int .i64 kd) (.int .i64 o0) (.int .i64 o1) (.int .i64 o2) (.int .i64 o3) (.int .i64 o4) (.int .i64 o5) (.int .u32 wa) (.int .u32 to) (.slice A2 n c2) (.slice B2 m d2)
    replace OW := Lib.hid (own_whole (by decide) OW.out (FR.out.blk 0 _ rfl) hse)
    replace OC := Lib.hid (own_whole (by decide) OC.out (FR.out.blk 0 _ rfl) hse)
    replace FR := F
    clear F hse
    have cc0 := row11 (b := q) (FR.out.at 0 rfl rfl)
    have cc1 := row10 (b := q + 1) (FR.out.at 1 rfl rfl)
    go_wp2_with fail
    refine (stDone_any _ _ _ _ _ _ _ _ _ _ _ _ _ _ _ _).mono ?_
    rintro e w5 ⟨rfl, hb⟩
    clear mw6p cc0 cc1
    clear hw6p
    replace FR := Lib.hid (FR.out.step hb)
    replace OW := Lib.hid (own_below OW.out hb)
    replace OC := Lib.hid (own_below OC.out hb)
    clear hb
    obtain ⟨mw7r, w7r, hw7r, hse, F⟩ := FR.out.put11 2 rfl (b := q + 2) rfl (.int .i64 kd) (.int .i64 o0) (.int .i64 o1) (.int .i64 o2) (.int .i64 o3) (.int .i64 o4) (.int .i64 o5) (.int .u32 wa) (.int .u32 to) (.slice A2 n c2) (.slice B2 m d2)
    replace OW := Lib.hid (own_whole (by decide) OW.out (FR.out.blk 2 _ rfl) hse)
    replace OC := Lib.hid (own_whole (by decide) OC.out (FR.out.blk 2 _ rfl) hse)
    replace FR := F
    clear F hse
    obtain ⟨mw8r, w8r, hw8r, hse, F⟩ := FR.out.put10 3 rfl (b := q + 3) rfl (.int .i64 0) (.int .i64 0) (.int .i64 0) (.int .i64 0) (.int .i64 0) (.int .i64 0) (.bool false) (.bool false) (.int .i64 0) (.bool false)
    replace OW := Lib.hid (own_whole (by decide) OW.out (FR.out.blk 3 _ rfl) hse)
    replace OC := Lib.hid (own_whole (by decide) OC.out (FR.out.blk 3 _ rfl) hse)
    replace FR := F
    clear F hse
    obtain ⟨mw9r, w9r, hw9r, hse, F⟩ := FR.out.put7 4 rfl (b := q + 4) rfl (.bool true) (.bool false) (.bool false) (.int .i64 0) (.int .i64 0) (.int .u64 0) (.slice none 0 0)
    replace OW := Lib.hid (own_whole (by decide) OW.out (FR.out.blk 4 _ rfl) hse)
    replace OC := Lib.hid (own_whole (by decide) OC.out (FR.out.blk 4 _ rfl) hse)
    replace FR := F
    clear F hse
    go_wp2
    refine bodyPost_ret (res_ccc Try.results9 (by rfl) (by rfl) (by rfl) (FR.out.load 2 rfl rfl Try.underlying29 (by kernel_rfl)) (FR.out.load 3 rfl rfl Try.underlying31 (by kernel_rfl)) (FR.out.load 4 rfl rfl Try.underlying38 (by kernel_rfl))) rfl ?_
    rw [HE.out]
    exact ⟨A2, c2, B2, d2, rfl, (by rw [hq]; exact OW.out), (by rw [hq]; exact OC.out), FR.out.out, NW.out, NC.out⟩
  have n1 : (stage == 1) = false := by simp [s1]
  have HE := Lib.hid (show rlockW o0 o4 o5 ⟨op, stage, phase, old, since, left, awoke, starve, need, front⟩ = ((o0, o4, o5), ⟨op, stage, phase, old, since, left, awoke, starve, need, front⟩, noA) from by
    unfold rlockW
    rw [if_neg s1, if_pos s0])
  clear s0 s1
  go_enter Try.func9, Try.ntmps9
  have ac0 := row11 (b := q) (FR.out.at 0 rfl rfl)
  go_wp2_with fail
  refine (CP.out _ (FR.out.es RX.out) (FR.out.es RY.out)).mono ?_
  rintro e w3 ⟨A2, c2, B2, d2, rfl, hown, hown2, hb, hA, hB⟩
  clear ac0
  unfold obV
  have hsz := FR.out.sz
  simp only [List.length_set, List.length_cons, List.length_nil] at hsz
  replace FR := Lib.hid (FR.out.step hb)
  have OW := Lib.hid (own_base hown (show q ≤ _ by omega))
  have OC := Lib.hid (own_base hown2 (show q ≤ _ by omega))
  have NW := Lib.hid hA
  have NC := Lib.hid hB
  clear hown hown2 hb hsz hA hB
  obtain ⟨mw6p, w6p, hw6p, hse, F⟩ := FR.out.put11 0 rfl (b := q) rfl (.int .i64 kd) (.int .i64 o0) (.int .i64 o1) (.int .i64 o2) (.int .i64 o3) (.int .i64 o4) (.int .i64 o5) (.int .u32 wa) (.int .u32 to) (.slice A2 n c2) (.slice B2 m d2)
  replace OW := Lib.hid (own_whole (by decide) OW.out (FR.out.blk 0 _ rfl) hse)
  replace OC := Lib.hid (own_whole (by decide) OC.out (FR.out.blk 0 _ rfl) hse)
  replace FR := F
  clear F hse
  have cc0 := row11 (b := q) (FR.out.at 0 rfl rfl)
  have cc1 := row10 (b := q + 1) (FR.out.at 1 rfl rfl)
  go_wp2
  replace OW := Lib.hid OW.out.drew
  replace OC := Lib.hid OC.out.drew
  have HF0 := Lib.hid FR.out.drew
  obtain ⟨w7r, hw7r⟩ : ∃ W, w6p.drew.setCells (q + 2) 0 [.int .i64 kd, .int .i64 o0, .int .i64 o1, .int .i64 o2, .int .i64 o3, .int .i64 o4, .int .i64 o5, .int .u32 wa, .int .u32 to, .slice A2 n c2, .slice B2 m d2] = W := ⟨_, rfl⟩
  replace OW := Lib.hid (own_whole (by decide) OW.out (HF0.out.blk 2 _ rfl) hw7r)
  replace OC := Lib.hid (own_whole (by decide) OC.out (HF0.out.blk 2 _ rfl) hw7r)
  have HF1 := Lib.hid ((HF0.out.all 2 rfl rfl (by rfl)).eqw hw7r)
  have hh1 := Lib.hid hw7r
  clear hw7r
  obtain ⟨w8r, hw8r⟩ : ∃ W, w7r.setCells (q + 3) 0 [.int .i64 op, .int .i64 stage, .int .i64 phase, .int .i64 old, .int .i64 since, .int .i64 left, .bool awoke, .bool starve, .int .i64 need, .bool front] = W := ⟨_, rfl⟩
  replace OW := Lib.hid (own_whole (by decide) OW.out (HF1.out.blk 3 _ rfl) hw8r)
  replace OC := Lib.hid (own_whole (by decide) OC.out (HF1.out.blk 3 _ rfl) hw8r)
  have HF2 := Lib.hid ((HF1.out.all 3 rfl rfl (by rfl)).eqw hw8r)
  have hh2 := Lib.hid hw8r
  clear hw8r
  obtain ⟨w9r, hw9r⟩ : ∃ W, w8r.setCells (q + 4) 0 [.bool false, .bool false, .bool false, .int .i64 0, .int .i64 0, .int .u64 0, .slice none 0 0] = W := ⟨_, rfl⟩
  replace OW := Lib.hid (own_whole (by decide) OW.out (HF2.out.blk 4 _ rfl) hw9r)
  replace OC := Lib.hid (own_whole (by decide) OC.out (HF2.out.blk 4 _ rfl) hw9r)
  have HF3 := Lib.hid ((HF2.out.all 4 rfl rfl (by rfl)).eqw hw9r)
  have hh3 := Lib.hid hw9r
  clear hw9r
  refine wp_region_noPanic ?_
  refine wp_region_held_drew (S := (fun wv => Hid (wv.heap[q]? = some (.cells #[.int .i64 kd, .int .i64 o0, .int .i64 o1, .int .i64 o2, .int .i64 o3, .int .i64 o4, .int .i64 o5, .int .u32 wa, .int .u32 to, .slice A2 n c2, .slice B2 m d2] 29) ∧ wv.heap[q + 1]? = some (.cells #[.int .i64 op, .int .i64 stage, .int .i64 phase, .int .i64 old, .int .i64 since, .int .i64 left, .bool awoke, .bool starve, .int .i64 need, .bool front] 31)))) (by kernel_rfl) (Lib.hid (And.intro (HF0.out.blk 0 _ rfl) (HF0.out.blk 1 _ rfl))) (fun hS => ?_)
  refine wpAnyH_take (i := 0) (oi := ⟨some 26, .load 29 (.tmp 2), 29, "rw.go:36", #[], none⟩) (v := .agg (([.int .i64 kd, .int .i64 o0, .int .i64 o1, .int .i64 o2, .int .i64 o3, .int .i64 o4, .int .i64 o5, .int .u32 wa, .int .u32 to, .slice A2 n c2, .slice B2 m d2] : List Value)).toArray) rfl (by kernel_rfl) (by kernel_rfl) (by kernel_rfl) (fun _ _ _ h => h) (yieldsIf_load_mid (by rfl) _ _ (by rfl) (q) (0) (by rfl) _ _ (fun wv hS => blk_rngl hS.out.1) Try.underlying29 (by rfl) (by kernel_rfl)) hS ?_
  try simp only [Act.put, List.setIfInBounds_toArray, List.set_cons_zero, List.set_cons_succ]
  refine wpAnyH_take (i := 1) (oi := ⟨some 27, .load 31 (.tmp 3), 31, "rw.go:36", #[⟨3, .gcOnly .lateStores⟩], none⟩) (v := .agg (([.int .i64 op, .int .i64 stage, .int .i64 phase, .int .i64 old, .int .i64 since, .int .i64 left, .bool awoke, .bool starve, .int .i64 need, .bool front] : List Value)).toArray) rfl (by kernel_rfl) (by kernel_rfl) (by kernel_rfl) (fun _ _ _ h => h) (yieldsIf_load_mid (by rfl) _ _ (by rfl) (q + 1) (0) (by rfl) _ _ (fun wv hS => blk_rngl hS.out.2) Try.underlying31 (by rfl) (by kernel_rfl)) hS ?_
  try simp only [Act.put, List.setIfInBounds_toArray, List.set_cons_zero, List.set_cons_succ]
  refine wpAnyH_take (i := 2) (oi := ⟨some 28, .build 38 #[], 38, "rw.go:36", #[⟨4, .gcOnly .lateStores⟩], none⟩) (v := ?_) rfl (by kernel_rfl) (by kernel_rfl) (by kernel_rfl) (fun _ _ _ h => h) (Or.inl ⟨by rfl, ?_⟩) hS ?_
  rotate_left
  · intro wv _; go_simp; try with_reducible rfl
  try simp only [Act.put, List.setIfInBounds_toArray, List.set_cons_zero, List.set_cons_succ]
  refine wpAnyH_ready (rs := [3]) (by kernel_rfl) (by simp) (AllReadyH.cons (o := ⟨none, .store 29 (.tmp 4) (.tmp 26), 0, "rw.go:36", #[⟨0, .data⟩, ⟨0, .phase⟩, ⟨1, .textOnly .lateStores⟩, ⟨2, .textOnly .lateStores⟩], none⟩) rfl (fun K hK => ?_) AllReadyH.nil)
  refine op_storeS (by rfl) rfl rfl rfl (there_blk (HF0.out.blk 2 _ rfl) rfl) (by kernel_rfl) (by simp [Value.oneCell']) hh1.out ?_
  replace hS := Lib.hid (And.intro (HF1.out.blk 0 _ rfl) (HF1.out.blk 1 _ rfl))
  refine Shut.out hK _ _ hS (fun _ => ?_)
  clear hK K
  try simp only [Act.put, List.setIfInBounds_toArray, List.set_cons_zero, List.set_cons_succ]
  refine wpAnyH_ready (rs := [4]) (by kernel_rfl) (by simp) (AllReadyH.cons (o := ⟨none, .store 31 (.tmp 5) (.tmp 27), 0, "rw.go:36", #[⟨1, .data⟩, ⟨3, .chain⟩, ⟨0, .phase⟩, ⟨1, .phase⟩, ⟨2, .textOnly .lateStores⟩, ⟨3, .phase⟩], none⟩) rfl (fun K hK => ?_) AllReadyH.nil)
  refine op_storeS (by rfl) rfl rfl rfl (there_blk (HF1.out.blk 3 _ rfl) rfl) (by kernel_rfl) (by simp [Value.oneCell']) hh2.out ?_
  replace hS := Lib.hid (And.intro (HF2.out.blk 0 _ rfl) (HF2.out.blk 1 _ rfl))
  refine Shut.out hK _ _ hS (fun _ => ?_)
  clear hK K
  try simp only [Act.put, List.setIfInBounds_toArray, List.set_cons_zero, List.set_cons_succ]
  refine wpAnyH_ready (rs := [5]) (by kernel_rfl) (by simp) (AllReadyH.cons (o := ⟨none, .store 38 (.tmp 6) (.tmp 28), 0, "rw.go:36", #[⟨2, .data⟩, ⟨4, .chain⟩, ⟨0, .phase⟩, ⟨1, .phase⟩, ⟨2, .phase⟩, ⟨3, .phase⟩, ⟨4, .phase⟩], none⟩) rfl (fun K hK => ?_) AllReadyH.nil)
  refine op_storeS (by rfl) rfl rfl rfl (there_blk (HF2.out.blk 4 _ rfl) rfl) (by kernel_rfl) (by simp [Value.oneCell']) hh3.out ?_
  replace hS := Lib.hid (And.intro (HF3.out.blk 0 _ rfl) (HF3.out.blk 1 _ rfl))
  refine Shut.out hK _ _ hS (fun _ => ?_)
  clear hK K
  try simp only [Act.put, List.setIfInBounds_toArray, List.set_cons_zero, List.set_cons_succ]
  refine wpAnyH_done (by kernel_rfl) ?_ _
  refine NoPanic.normal ?_
  go_wp2
  refine bodyPost_ret (res_ccc Try.results9 (by rfl) (by rfl) (by rfl) (HF3.out.load 2 rfl rfl Try.underlying29 (by kernel_rfl)) (HF3.out.load 3 rfl rfl Try.underlying31 (by kernel_rfl)) (HF3.out.load 4 rfl rfl Try.underlying38 (by kernel_rfl))) rfl ?_
  replace FR := HF3
  rw [HE.out]
  exact ⟨A2, c2, B2, d2, rfl, (by rw [hq]; exact OW.out), (by rw [hq]; exact OC.out), FR.out.out, NW.out, NC.out⟩
theorem rwRLock_nil (kd o0 o1 o2 o3 o4 o5 wa to : Int) (f : MFr) (hr : IntKind.i64.wrap o0 = o0 ∧ IntKind.i64.wrap o4 = o4 ∧ IntKind.i64.wrap o5 = o5) (w : World) : Calls Try.prog 9 #[obV kd o0 o1 o2 o3 o4 o5 wa to none 0 0 none 0 0, frV f] w (StepR w kd o1 o2 o3 wa to none 0 0 none 0 0 (rlockW o0 o4 o5 f)) := by
  refine (rwRLock_any kd o0 o1 o2 o3 o4 o5 wa to none 0 0 none 0 0 [] [] f w (Es.nil _ _ _ _) (Es.nil _ _ _ _) (by omega) (by omega) hr).mono ?_
  rintro e w' ⟨A2, c2, B2, d2, he, _, _, hb, hA, hB⟩
  obtain ⟨rfl, rfl⟩ := hA rfl
  obtain ⟨rfl, rfl⟩ := hB rfl
  exact ⟨he, hb⟩
set_option maxRecDepth 100000 in
set_option maxHeartbeats 16000000 in
theorem rwRUnlock_any (kd o0 o1 o2 o3 o4 o5 wa to : Int) (A : Option Addr) (n c : Nat) (B : Option Addr) (m d : Nat) (nl : List Wt) (ll : List Cl) (f : MFr) (w : World) (hx : Wts w A n c nl) (hy : Cls w B m d ll) (hn : n ≤ 16384) (hm : m ≤ 16384) (hr : IntKind.i64.wrap o0 = o0 ∧ IntKind.i64.wrap o4 = o4 ∧ IntKind.i64.wrap o5 = o5) : Calls Try.prog 11 #[obV kd o0 o1 o2 o3 o4 o5 wa to A n c B m d, frV f] w (CopR w kd o1 o2 o3 wa to A n B m nl ll (runlockW o0 o4 o5 f)) := by
  have RX := Lib.hid hx; have RY := Lib.hid hy
  have CP := Lib.hid (fun (W : World) (h1 : Wts W A n c nl) (h2 : Cls W B m d ll) => muCopied_any kd o0 o1 o2 o3 o4 o5 wa to A n c B m d nl ll W h1 h2 hn hm)
  clear hx hy hn hm hr
  obtain ⟨op, stage, phase, old, since, left, awoke, starve, need, front⟩ := f
  unfold obV frV frC
  simp only
  obtain ⟨v1, hv1, z1, v2, hv2, z2, v3, hv3, z3, v4, hv4, z4, v5, hv5, z5, F⟩ := boxes5 w (.cells #[.int .i64 kd, .int .i64 o0, .int .i64 o1, .int .i64 o2, .int .i64 o3, .int .i64 o4, .int .i64 o5, .int .u32 wa, .int .u32 to, .slice A n c, .slice B m d] 29) (.cells #[.int .i64 op, .int .i64 stage, .int .i64 phase, .int .i64 old, .int .i64 since, .int .i64 left, .bool awoke, .bool starve, .int .i64 need, .bool front] 31) (.cells #[.int .i64 0, .int .i64 0, .int .i64 0, .int .i64 0, .int .i64 0, .int .i64 0, .int .i64 0, .int .u32 0, .int .u32 0, .slice none 0 0, .slice none 0 0] 29) (.cells #[.int .i64 0, .int .i64 0, .int .i64 0, .int .i64 0, .int .i64 0, .int .i64 0, .bool false, .bool false, .int .i64 0, .bool false] 31) (.cells #[.bool false, .bool false, .bool false, .int .i64 0, .int .i64 0, .int .u64 0, .slice none 0 0] 38)
  generalize hq : w.heap.size = q at *
  have FR := Lib.hid F
  clear F
  by_cases s0 : stage = 0
  · subst s0
    obtain ⟨⟨⟨z0, z4, z5⟩, ⟨gop, gstage, gphase, gold, gsince, gleft, gawoke, gstarve, gneed, gfront⟩, ⟨gdn, ggv, ghd, gft⟩⟩, hr0⟩ : ∃ r, runlockW o0 o4 o5 ⟨op, 0, phase, old, since, left, awoke, starve, need, front⟩ = r := ⟨_, rfl⟩
    have HE := Lib.hid hr0
    have ST := Lib.hid (show ∀ (A9 : Option Addr) (n9 c9 : Nat) (B9 : Option Addr) (m9 d9 : Nat) (W : World), Calls Try.prog 26 #[.agg #[.int .i64 kd, .int .i64 o0, .int .i64 o1, .int .i64 o2, .int .i64 o3, .int .i64 o4, .int .i64 o5, .int .u32 wa, .int .u32 to, .slice A9 n9 c9, .slice B9 m9 d9], .agg #[.int .i64 op, .int .i64 0, .int .i64 phase, .int .i64 old, .int .i64 since, .int .i64 left, .bool awoke, .bool starve, .int .i64 need, .bool front]] W (fun e w' => e = .returned (.tuple #[.agg #[.int .i64 kd, .int .i64 z0, .int .i64 o1, .int .i64 o2, .int .i64 o3, .int .i64 z4, .int .i64 z5, .int .u32 wa, .int .u32 to, .slice A9 n9 c9, .slice B9 m9 d9], .agg #[.int .i64 gop, .int .i64 gstage, .int .i64 gphase, .int .i64 gold, .int .i64 gsince, .int .i64 gleft, .bool gawoke, .bool gstarve, .int .i64 gneed, .bool gfront], .agg #[.bool gdn, .bool false, .bool ghd, .int .i64 ggv, .int .i64 gft, .int .u64 0, .slice none 0 0]]) ∧ Below W.heap.size W w') from fun A9 n9 c9 B9 m9 d9 W => by
      have h := rwLeave_any kd o0 o1 o2 o3 o4 o5 wa to A9 n9 c9 B9 m9 d9 ⟨op, 0, phase, old, since, left, awoke, starve, need, front⟩ rfl W
      rw [hr0] at h
      exact h)
    clear hr0
    go_enter Try.func11, Try.ntmps11
    have ac0 := row11 (b := q) (FR.out.at 0 rfl rfl)
    go_wp2_with fail
    refine (CP.out _ (FR.out.es RX.out) (FR.out.es RY.out)).mono ?_
    rintro e w3 ⟨A2, c2, B2, d2, rfl, hown, hown2, hb, hA, hB⟩
    clear ac0
    unfold obV
    have hsz := FR.out.sz
    simp only [List.length_set, List.length_cons, List.length_nil] at hsz
    replace FR := Lib.hid (FR.out.step hb)
    have OW := Lib.hid (own_base hown (show q ≤ _ by omega))
    have OC := Lib.hid (own_base hown2 (show q ≤ _ by omega))
    have NW := Lib.hid hA
    have NC := Lib.hid hB
    clear hown hown2 hb hsz hA hB
    obtain ⟨mw6p, w6p, hw6p, hse, F⟩ := FR.out.put11 0 rfl (b := q) rfl (.int .i64 kd) (.int .i64 o0) (.int .i64 o1) (.int .i64 o2) (.int .i64 o3) (.int .i64 o4) (.int .i64 o5) (.int .u32 wa) (.int .u32 to) (.slice A2 n c2) (.slice B2 m d2)
    replace OW := Lib.hid (own_whole (by decide) OW.out (FR.out.blk 0 _ rfl) hse)
    replace OC := Lib.hid (own_whole (by decide) OC.out (FR.out.blk 0 _ rfl) hse)
    replace FR := F
    clear F hse
    have cc0 := row11 (b := q) (FR.out.at 0 rfl rfl)
    have cc1 := row10 (b := q + 1) (FR.out.at 1 rfl rfl)
    go_wp2_with fail
    refine (ST.out _ _ _ _ _ _ _).mono ?_
    rintro e w5 ⟨rfl, hb⟩
    clear mw6p cc0 cc1
    clear hw6p
    replace FR := Lib.hid (FR.out.step hb)
    replace OW := Lib.hid (own_below OW.out hb)
    replace OC := Lib.hid (own_below OC.out hb)
    clear hb
    obtain ⟨mw7r, w7r, hw7r, hse, F⟩ := FR.out.put11 2 rfl (b := q + 2) rfl (.int .i64 kd) (.int .i64 z0) (.int .i64 o1) (.int .i64 o2) (.int .i64 o3) (.int .i64 z4) (.int .i64 z5) (.int .u32 wa) (.int .u32 to) (.slice A2 n c2) (.slice B2 m d2)
    replace OW := Lib.hid (own_whole (by decide) OW.out (FR.out.blk 2 _ rfl) hse)
    replace OC := Lib.hid (own_whole (by decide) OC.out (FR.out.blk 2 _ rfl) hse)
    replace FR := F
    clear F hse
    obtain ⟨mw8r, w8r, hw8r, hse, F⟩ := FR.out.put10 3 rfl (b := q + 3) rfl (.int .i64 gop) (.int .i64 gstage) (.int .i64 gphase) (.int .i64 gold) (.int .i64 gsince) (.int .i64 gleft) (.bool gawoke) (.bool gstarve) (.int .i64 gneed) (.bool gfront)
    replace OW := Lib.hid (own_whole (by decide) OW.out (FR.out.blk 3 _ rfl) hse)
    replace OC := Lib.hid (own_whole (by decide) OC.out (FR.out.blk 3 _ rfl) hse)
    replace FR := F
    clear F hse
    obtain ⟨mw9r, w9r, hw9r, hse, F⟩ := FR.out.put7 4 rfl (b := q + 4) rfl (.bool gdn) (.bool false) (.bool ghd) (.int .i64 ggv) (.int .i64 gft) (.int .u64 0) (.slice none 0 0)
    replace OW := Lib.hid (own_whole (by decide) OW.out (FR.out.blk 4 _ rfl) hse)
    replace OC := Lib.hid (own_whole (by decide) OC.out (FR.out.blk 4 _ rfl) hse)
    replace FR := F
    clear F hse
    go_wp2
    refine bodyPost_ret (res_ccc Try.results11 (by rfl) (by rfl) (by rfl) (FR.out.load 2 rfl rfl Try.underlying29 (by kernel_rfl)) (FR.out.load 3 rfl rfl Try.underlying31 (by kernel_rfl)) (FR.out.load 4 rfl rfl Try.underlying38 (by kernel_rfl))) rfl ?_
    rw [HE.out]
    exact ⟨A2, c2, B2, d2, rfl, (by rw [hq]; exact OW.out), (by rw [hq]; exact OC.out), FR.out.out, NW.out, NC.out⟩
  have n0 : (stage == 0) = false := by simp [s0]
  by_cases s1 : stage = 1
  · subst s1
    obtain ⟨⟨⟨z0, z4, z5⟩, ⟨gop, gstage, gphase, gold, gsince, gleft, gawoke, gstarve, gneed, gfront⟩, ⟨gdn, ggv, ghd, gft⟩⟩, hr0⟩ : ∃ r, runlockW o0 o4 o5 ⟨op, 1, phase, old, since, left, awoke, starve, need, front⟩ = r := ⟨_, rfl⟩
    have HE := Lib.hid hr0
    have ST := Lib.hid (show ∀ (A9 : Option Addr) (n9 c9 : Nat) (B9 : Option Addr) (m9 d9 : Nat) (W : World), Calls Try.prog 27 #[.agg #[.int .i64 kd, .int .i64 o0, .int .i64 o1, .int .i64 o2, .int .i64 o3, .int .i64 o4, .int .i64 o5, .int .u32 wa, .int .u32 to, .slice A9 n9 c9, .slice B9 m9 d9], .agg #[.int .i64 op, .int .i64 1, .int .i64 phase, .int .i64 old, .int .i64 since, .int .i64 left, .bool awoke, .bool starve, .int .i64 need, .bool front]] W (fun e w' => e = .returned (.tuple #[.agg #[.int .i64 kd, .int .i64 z0, .int .i64 o1, .int .i64 o2, .int .i64 o3, .int .i64 z4, .int .i64 z5, .int .u32 wa, .int .u32 to, .slice A9 n9 c9, .slice B9 m9 d9], .agg #[.int .i64 gop, .int .i64 gstage, .int .i64 gphase, .int .i64 gold, .int .i64 gsince, .int .i64 gleft, .bool gawoke, .bool gstarve, .int .i64 gneed, .bool gfront], .agg #[.bool gdn, .bool false, .bool ghd, .int .i64 ggv, .int .i64 gft, .int .u64 0, .slice none 0 0]]) ∧ Below W.heap.size W w') from fun A9 n9 c9 B9 m9 d9 W => by
      have h := rwWaited_any kd o0 o1 o2 o3 o4 o5 wa to A9 n9 c9 B9 m9 d9 ⟨op, 1, phase, old, since, left, awoke, starve, need, front⟩ rfl W
      rw [hr0] at h
      exact h)
    clear hr0 s0 n0
    go_enter Try.func11, Try.ntmps11
    have ac0 := row11 (b := q) (FR.out.at 0 rfl rfl)
    go_wp2_with fail
    refine (CP.out _ (FR.out.es RX.out) (FR.out.es RY.out)).mono ?_
    rintro e w3 ⟨A2, c2, B2, d2, rfl, hown, hown2, hb, hA, hB⟩
    clear ac0
    unfold obV
    have hsz := FR.out.sz
    simp only [List.length_set, List.length_cons, List.length_nil] at hsz
    replace FR := Lib.hid (FR.out.step hb)
    have OW := Lib.hid (own_base hown (show q ≤ _ by omega))
    have OC := Lib.hid (own_base hown2 (show q ≤ _ by omega))
    have NW := Lib.hid hA
    have NC := Lib.hid hB
    clear hown hown2 hb hsz hA hB
    obtain ⟨mw6p, w6p, hw6p, hse, F⟩ := FR.out.put11 0 rfl (b := q) rfl (.int .i64 kd) (.int .i64 o0) (.int .i64 o1) (.int .i64 o2) (.int .i64 o3) (.int .i64 o4) (.int .i64 o5) (.int .u32 wa) (.int .u32 to) (.slice A2 n c2) (.slice B2 m d2)
    replace OW := Lib.hid (own_whole (by decide) OW.out (FR.out.blk 0 _ rfl) hse)
    replace OC := Lib.hid (own_whole (by decide) OC.out (FR.out.blk 0 _ rfl) hse)
    replace FR := F
    clear F hse
    have cc0 := row11 (b := q) (FR.out.at 0 rfl rfl)
    have cc1 := row10 (b := q + 1) (FR.out.at 1 rfl rfl)
    go_wp2_with fail
    refine (ST.out _ _ _ _ _ _ _).mono ?_
    rintro e w5 ⟨rfl, hb⟩
    clear mw6p cc0 cc1
    clear hw6p
    replace FR := Lib.hid (FR.out.step hb)
    replace OW := Lib.hid (own_below OW.out hb)
    replace OC := Lib.hid (own_below OC.out hb)
    clear hb
    obtain ⟨mw7r, w7r, hw7r, hse, F⟩ := FR.out.put11 2 rfl (b := q + 2) rfl (.int .i64 kd) (.int .i64 z0) (.int .i64 o1) (.int .i64 o2) (.int .i64 o3) (.int .i64 z4) (.int .i64 z5) (.int .u32 wa) (.int .u32 to) (.slice A2 n c2) (.slice B2 m d2)
    replace OW := Lib.hid (own_whole (by decide) OW.out (FR.out.blk 2 _ rfl) hse)
    replace OC := Lib.hid (own_whole (by decide) OC.out (FR.out.blk 2 _ rfl) hse)
    replace FR := F
    clear F hse
    obtain ⟨mw8r, w8r, hw8r, hse, F⟩ := FR.out.put10 3 rfl (b := q + 3) rfl (.int .i64 gop) (.int .i64 gstage) (.int .i64 gphase) (.int .i64 gold) (.int .i64 gsince) (.int .i64 gleft) (.bool gawoke) (.bool gstarve) (.int .i64 gneed) (.bool gfront)
    replace OW := Lib.hid (own_whole (by decide) OW.out (FR.out.blk 3 _ rfl) hse)
    replace OC := Lib.hid (own_whole (by decide) OC.out (FR.out.blk 3 _ rfl) hse)
    replace FR := F
    clear F hse
    obtain ⟨mw9r, w9r, hw9r, hse, F⟩ := FR.out.put7 4 rfl (b := q + 4) rfl (.bool gdn) (.bool false) (.bool ghd) (.int .i64 ggv) (.int .i64 gft) (.int .u64 0) (.slice none 0 0)
    replace OW := Lib.hid (own_whole (by decide) OW.out (FR.out.blk 4 _ rfl) hse)
    replace OC := Lib.hid (own_whole (by decide) OC.out (FR.out.blk 4 _ rfl) hse)
    replace FR := F
    clear F hse
    go_wp2
    refine bodyPost_ret (res_ccc Try.results11 (by rfl) (by rfl) (by rfl) (FR.out.load 2 rfl rfl Try.underlying29 (by kernel_rfl)) (FR.out.load 3 rfl rfl Try.underlying31 (by kernel_rfl)) (FR.out.load 4 rfl rfl Try.underlying38 (by kernel_rfl))) rfl ?_
    rw [HE.out]
    exact ⟨A2, c2, B2, d2, rfl, (by rw [hq]; exact OW.out), (by rw [hq]; exact OC.out), FR.out.out, NW.out, NC.out⟩
  have n1 : (stage == 1) = false := by simp [s1]
  by_cases s2 : stage = 2
  · subst s2
    have HE := Lib.hid (show runlockW o0 o4 o5 ⟨op, 2, phase, old, since, left, awoke, starve, need, front⟩ = ((o0, o4, o5), noF, ⟨true, 3, false, 0⟩) from by
      unfold runlockW
      rw [if_neg (show ¬ ((2 : Int) = 0) by decide), if_neg (show ¬ ((2 : Int) = 1) by decide), if_pos rfl])
    clear s0 n0 s1 n1
    go_enter Try.func11, Try.ntmps11
    have ac0 := row11 (b := q) (FR.out.at 0 rfl rfl)
    go_wp2_with fail
    refine (CP.out _ (FR.out.es RX.out) (FR.out.es RY.out)).mono ?_
    rintro e w3 ⟨A2, c2, B2, d2, rfl, hown, hown2, hb, hA, hB⟩
    clear ac0
    unfold obV
    have hsz := FR.out.sz
    simp only [List.length_set, List.length_cons, List.length_nil] at hsz
    replace FR := Lib.hid (FR.out.step hb)
    have OW := Lib.hid (own_base hown (show q ≤ _ by omega))
    have OC := Lib.hid (own_base hown2 (show q ≤ _ by omega))
    have NW := Lib.hid hA
    have NC := Lib.hid hB
    clear hown hown2 hb hsz hA hB
    obtain ⟨mw6p, w6p, hw6p, hse, F⟩ := FR.out.put11 0 rfl (b := q) rfl (.int .i64 kd) (.int .i64 o0) (.int .i64 o1) (.int .i64 o2) (.int .i64 o3) (.int .i64 o4) (.int .i64 o5) (.int .u32 wa) (.int .u32 to) (.slice A2 n c2) (.slice B2 m d2)
    replace OW := Lib.hid (own_whole (by decide) OW.out (FR.out.blk 0 _ rfl) hse)
    replace OC := Lib.hid (own_whole (by decide) OC.out (FR.out.blk 0 _ rfl) hse)
    replace FR := F
    clear F hse
    have cc0 := row11 (b := q) (FR.out.at 0 rfl rfl)
    have cc1 := row10 (b := q + 1) (FR.out.at 1 rfl rfl)
    obtain ⟨mw7r, w7r, hw7r, hse, F⟩ := FR.out.put11 2 rfl (b := q + 2) rfl (.int .i64 kd) (.int .i64 o0) (.int .i64 o1) (.int .i64 o2) (.int .i64 o3) (.int .i64 o4) (.int .i64 o5) (.int .u32 wa) (.int .u32 to) (.slice A2 n c2) (.slice B2 m d2)
    replace OW := Lib.hid (own_whole (by decide) OW.out (FR.out.blk 2 _ rfl) hse)
    replace OC := Lib.hid (own_whole (by decide) OC.out (FR.out.blk 2 _ rfl) hse)
    replace FR := F
    clear F hse
    obtain ⟨mw8r, w8r, hw8r, hse, F⟩ := FR.out.put10 3 rfl (b := q + 3) rfl (.int .i64 0) (.int .i64 0) (.int .i64 0) (.int .i64 0) (.int .i64 0) (.int .i64 0) (.bool false) (.bool false) (.int .i64 0) (.bool false)
    replace OW := Lib.hid (own_whole (by decide) OW.out (FR.out.blk 3 _ rfl) hse)
    replace OC := Lib.hid (own_whole (by decide) OC.out (FR.out.blk 3 _ rfl) hse)
    replace FR := F
    clear F hse
    obtain ⟨mw9r, w9r, hw9r, hse, F⟩ := FR.out.put7 4 rfl (b := q + 4) rfl (.bool true) (.bool false) (.bool false) (.int .i64 3) (.int .i64 0) (.int .u64 0) (.slice none 0 0)
    replace OW := Lib.hid (own_whole (by decide) OW.out (FR.out.blk 4 _ rfl) hse)
    replace OC := Lib.hid (own_whole (by decide) OC.out (FR.out.blk 4 _ rfl) hse)
    replace FR := F
    clear F hse
    go_wp2
    refine bodyPost_ret (res_ccc Try.results11 (by rfl) (by rfl) (by rfl) (FR.out.load 2 rfl rfl Try.underlying29 (by kernel_rfl)) (FR.out.load 3 rfl rfl Try.underlying31 (by kernel_rfl)) (FR.out.load 4 rfl rfl Try.underlying38 (by kernel_rfl))) rfl ?_
    rw [HE.out]
    exact ⟨A2, c2, B2, d2, rfl, (by rw [hq]; exact OW.out), (by rw [hq]; exact OC.out), FR.out.out, NW.out, NC.out⟩
  have n2 : (stage == 2) = false := by simp [s2]
  have HE := Lib.hid (show runlockW o0 o4 o5 ⟨op, stage, phase, old, since, left, awoke, starve, need, front⟩ = ((o0, o4, o5), ⟨op, stage, phase, old, since, left, awoke, starve, need, front⟩, noA) from by
    unfold runlockW
    rw [if_neg s0, if_neg s1, if_neg s2])
  clear s0 s1 s2
  go_enter Try.func11, Try.ntmps11
  have ac0 := row11 (b := q) (FR.out.at 0 rfl rfl)
  go_wp2_with fail
  refine (CP.out _ (FR.out.es RX.out) (FR.out.es RY.out)).mono ?_
  rintro e w3 ⟨A2, c2, B2, d2, rfl, hown, hown2, hb, hA, hB⟩
  clear ac0
  unfold obV
  have hsz := FR.out.sz
  simp only [List.length_set, List.length_cons, List.length_nil] at hsz
  replace FR := Lib.hid (FR.out.step hb)
  have OW := Lib.hid (own_base hown (show q ≤ _ by omega))
  have OC := Lib.hid (own_base hown2 (show q ≤ _ by omega))
  have NW := Lib.hid hA
  have NC := Lib.hid hB
  clear hown hown2 hb hsz hA hB
  obtain ⟨mw6p, w6p, hw6p, hse, F⟩ := FR.out.put11 0 rfl (b := q) rfl (.int .i64 kd) (.int .i64 o0) (.int .i64 o1) (.int .i64 o2) (.int .i64 o3) (.int .i64 o4) (.int .i64 o5) (.int .u32 wa) (.int .u32 to) (.slice A2 n c2) (.slice B2 m d2)
  replace OW := Lib.hid (own_whole (by decide) OW.out (FR.out.blk 0 _ rfl) hse)
  replace OC := Lib.hid (own_whole (by decide) OC.out (FR.out.blk 0 _ rfl) hse)
  replace FR := F
  clear F hse
  have cc0 := row11 (b := q) (FR.out.at 0 rfl rfl)
  have cc1 := row10 (b := q + 1) (FR.out.at 1 rfl rfl)
  go_wp2
  replace OW := Lib.hid OW.out.drew
  replace OC := Lib.hid OC.out.drew
  have HF0 := Lib.hid FR.out.drew
  obtain ⟨w7r, hw7r⟩ : ∃ W, w6p.drew.setCells (q + 2) 0 [.int .i64 kd, .int .i64 o0, .int .i64 o1, .int .i64 o2, .int .i64 o3, .int .i64 o4, .int .i64 o5, .int .u32 wa, .int .u32 to, .slice A2 n c2, .slice B2 m d2] = W := ⟨_, rfl⟩
  replace OW := Lib.hid (own_whole (by decide) OW.out (HF0.out.blk 2 _ rfl) hw7r)
  replace OC := Lib.hid (own_whole (by decide) OC.out (HF0.out.blk 2 _ rfl) hw7r)
  have HF1 := Lib.hid ((HF0.out.all 2 rfl rfl (by rfl)).eqw hw7r)
  have hh1 := Lib.hid hw7r
  clear hw7r
  obtain ⟨w8r, hw8r⟩ : ∃ W, w7r.setCells (q + 3) 0 [.int .i64 op, .int .i64 stage, .int .i64 phase, .int .i64 old, .int .i64 since, .int .i64 left, .bool awoke, .bool starve, .int .i64 need, .bool front] = W := ⟨_, rfl⟩
  replace OW := Lib.hid (own_whole (by decide) OW.out (HF1.out.blk 3 _ rfl) hw8r)
  replace OC := Lib.hid (own_whole (by decide) OC.out (HF1.out.blk 3 _ rfl) hw8r)
  have HF2 := Lib.hid ((HF1.out.all 3 rfl rfl (by rfl)).eqw hw8r)
  have hh2 := Lib.hid hw8r
  clear hw8r
  obtain ⟨w9r, hw9r⟩ : ∃ W, w8r.setCells (q + 4) 0 [.bool false, .bool false, .bool false, .int .i64 0, .int .i64 0, .int .u64 0, .slice none 0 0] = W := ⟨_, rfl⟩
  replace OW := Lib.hid (own_whole (by decide) OW.out (HF2.out.blk 4 _ rfl) hw9r)
  replace OC := Lib.hid (own_whole (by decide) OC.out (HF2.out.blk 4 _ rfl) hw9r)
  have HF3 := Lib.hid ((HF2.out.all 4 rfl rfl (by rfl)).eqw hw9r)
  have hh3 := Lib.hid hw9r
  clear hw9r
  refine wp_region_noPanic ?_
  refine wp_region_held_drew (S := (fun wv => Hid (wv.heap[q]? = some (.cells #[.int .i64 kd, .int .i64 o0, .int .i64 o1, .int .i64 o2, .int .i64 o3, .int .i64 o4, .int .i64 o5, .int .u32 wa, .int .u32 to, .slice A2 n c2, .slice B2 m d2] 29) ∧ wv.heap[q + 1]? = some (.cells #[.int .i64 op, .int .i64 stage, .int .i64 phase, .int .i64 old, .int .i64 since, .int .i64 left, .bool awoke, .bool starve, .int .i64 need, .bool front] 31)))) (by kernel_rfl) (Lib.hid (And.intro (HF0.out.blk 0 _ rfl) (HF0.out.blk 1 _ rfl))) (fun hS => ?_)
  refine wpAnyH_take (i := 0) (oi := ⟨some 32, .load 29 (.tmp 2), 29, "rw.go:50", #[], none⟩) (v := .agg (([.int .i64 kd, .int .i64 o0, .int .i64 o1, .int .i64 o2, .int .i64 o3, .int .i64 o4, .int .i64 o5, .int .u32 wa, .int .u32 to, .slice A2 n c2, .slice B2 m d2] : List Value)).toArray) rfl (by kernel_rfl) (by kernel_rfl) (by kernel_rfl) (fun _ _ _ h => h) (yieldsIf_load_mid (by rfl) _ _ (by rfl) (q) (0) (by rfl) _ _ (fun wv hS => blk_rngl hS.out.1) Try.underlying29 (by rfl) (by kernel_rfl)) hS ?_
  try simp only [Act.put, List.setIfInBounds_toArray, List.set_cons_zero, List.set_cons_succ]
  refine wpAnyH_take (i := 1) (oi := ⟨some 33, .load 31 (.tmp 3), 31, "rw.go:50", #[⟨3, .gcOnly .lateStores⟩], none⟩) (v := .agg (([.int .i64 op, .int .i64 stage, .int .i64 phase, .int .i64 old, .int .i64 since, .int .i64 left, .bool awoke, .bool starve, .int .i64 need, .bool front] : List Value)).toArray) rfl (by kernel_rfl) (by kernel_rfl) (by kernel_rfl) (fun _ _ _ h => h) (yieldsIf_load_mid (by rfl) _ _ (by rfl) (q + 1) (0) (by rfl) _ _ (fun wv hS => blk_rngl hS.out.2) Try.underlying31 (by rfl) (by kernel_rfl)) hS ?_
  try simp only [Act.put, List.setIfInBounds_toArray, List.set_cons_zero, List.set_cons_succ]
  refine wpAnyH_take (i := 2) (oi := ⟨some 34, .build 38 #[], 38, "rw.go:50", #[⟨4, .gcOnly .lateStores⟩], none⟩) (v := ?_) rfl (by kernel_rfl) (by kernel_rfl) (by kernel_rfl) (fun _ _ _ h => h) (Or.inl ⟨by rfl, ?_⟩) hS ?_
  rotate_left
  · intro wv _; go_simp; try with_reducible rfl
  try simp only [Act.put, List.setIfInBounds_toArray, List.set_cons_zero, List.set_cons_succ]
  refine wpAnyH_ready (rs := [3]) (by kernel_rfl) (by simp) (AllReadyH.cons (o := ⟨none, .store 29 (.tmp 4) (.tmp 32), 0, "rw.go:50", #[⟨0, .data⟩, ⟨0, .phase⟩, ⟨1, .textOnly .lateStores⟩, ⟨2, .textOnly .lateStores⟩], none⟩) rfl (fun K hK => ?_) AllReadyH.nil)
  refine op_storeS (by rfl) rfl rfl rfl (there_blk (HF0.out.blk 2 _ rfl) rfl) (by kernel_rfl) (by simp [Value.oneCell']) hh1.out ?_
  replace hS := Lib.hid (And.intro (HF1.out.blk 0 _ rfl) (HF1.out.blk 1 _ rfl))
  refine Shut.out hK _ _ hS (fun _ => ?_)
  clear hK K
  try simp only [Act.put, List.setIfInBounds_toArray, List.set_cons_zero, List.set_cons_succ]
  refine wpAnyH_ready (rs := [4]) (by kernel_rfl) (by simp) (AllReadyH.cons (o := ⟨none, .store 31 (.tmp 5) (.tmp 33), 0, "rw.go:50", #[⟨1, .data⟩, ⟨3, .chain⟩, ⟨0, .phase⟩, ⟨1, .phase⟩, ⟨2, .textOnly .lateStores⟩, ⟨3, .phase⟩], none⟩) rfl (fun K hK => ?_) AllReadyH.nil)
  refine op_storeS (by rfl) rfl rfl rfl (there_blk (HF1.out.blk 3 _ rfl) rfl) (by kernel_rfl) (by simp [Value.oneCell']) hh2.out ?_
  replace hS := Lib.hid (And.intro (HF2.out.blk 0 _ rfl) (HF2.out.blk 1 _ rfl))
  refine Shut.out hK _ _ hS (fun _ => ?_)
  clear hK K
  try simp only [Act.put, List.setIfInBounds_toArray, List.set_cons_zero, List.set_cons_succ]
  refine wpAnyH_ready (rs := [5]) (by kernel_rfl) (by simp) (AllReadyH.cons (o := ⟨none, .store 38 (.tmp 6) (.tmp 34), 0, "rw.go:50", #[⟨2, .data⟩, ⟨4, .chain⟩, ⟨0, .phase⟩, ⟨1, .phase⟩, ⟨2, .phase⟩, ⟨3, .phase⟩, ⟨4, .phase⟩], none⟩) rfl (fun K hK => ?_) AllReadyH.nil)
  refine op_storeS (by rfl) rfl rfl rfl (there_blk (HF2.out.blk 4 _ rfl) rfl) (by kernel_rfl) (by simp [Value.oneCell']) hh3.out ?_
  replace hS := Lib.hid (And.intro (HF3.out.blk 0 _ rfl) (HF3.out.blk 1 _ rfl))
  refine Shut.out hK _ _ hS (fun _ => ?_)
  clear hK K
  try simp only [Act.put, List.setIfInBounds_toArray, List.set_cons_zero, List.set_cons_succ]
  refine wpAnyH_done (by kernel_rfl) ?_ _
  refine NoPanic.normal ?_
  go_wp2
  refine bodyPost_ret (res_ccc Try.results11 (by rfl) (by rfl) (by rfl) (HF3.out.load 2 rfl rfl Try.underlying29 (by kernel_rfl)) (HF3.out.load 3 rfl rfl Try.underlying31 (by kernel_rfl)) (HF3.out.load 4 rfl rfl Try.underlying38 (by kernel_rfl))) rfl ?_
  replace FR := HF3
  rw [HE.out]
  exact ⟨A2, c2, B2, d2, rfl, (by rw [hq]; exact OW.out), (by rw [hq]; exact OC.out), FR.out.out, NW.out, NC.out⟩
theorem rwRUnlock_nil (kd o0 o1 o2 o3 o4 o5 wa to : Int) (f : MFr) (hr : IntKind.i64.wrap o0 = o0 ∧ IntKind.i64.wrap o4 = o4 ∧ IntKind.i64.wrap o5 = o5) (w : World) : Calls Try.prog 11 #[obV kd o0 o1 o2 o3 o4 o5 wa to none 0 0 none 0 0, frV f] w (StepR w kd o1 o2 o3 wa to none 0 0 none 0 0 (runlockW o0 o4 o5 f)) := by
  refine (rwRUnlock_any kd o0 o1 o2 o3 o4 o5 wa to none 0 0 none 0 0 [] [] f w (Es.nil _ _ _ _) (Es.nil _ _ _ _) (by omega) (by omega) hr).mono ?_
  rintro e w' ⟨A2, c2, B2, d2, he, _, _, hb, hA, hB⟩
  obtain ⟨rfl, rfl⟩ := hA rfl
  obtain ⟨rfl, rfl⟩ := hB rfl
  exact ⟨he, hb⟩
set_option maxRecDepth 100000 in
set_option maxHeartbeats 16000000 in
theorem rwReaders_any (kd o0 o1 o2 o3 o4 o5 wa to : Int) (A : Option Addr) (n c : Nat) (B : Option Addr) (m d : Nat) (w : World) : Calls Try.prog 13 #[obV kd o0 o1 o2 o3 o4 o5 wa to A n c B m d] w (fun e w' => e = .returned (.tuple #[.int .i64 (if o4 < 0 then IntKind.i64.wrap (o4 + 1048576) else o4), .bool (decide (o4 < 0))]) ∧ Below w.heap.size w w') := by
  unfold obV
  obtain ⟨x, hx⟩ : ∃ x, IntKind.i64.wrap (o4 + 1048576) = x := ⟨_, rfl⟩
  rw [hx]
  obtain ⟨v1, hv1, z1, F⟩ := boxes1 w (.cells #[.int .i64 kd, .int .i64 o0, .int .i64 o1, .int .i64 o2, .int .i64 o3, .int .i64 o4, .int .i64 o5, .int .u32 wa, .int .u32 to, .slice A n c, .slice B m d] 29)
  generalize hq : w.heap.size = q at *
  have FR := Lib.hid F
  clear F
  by_cases h0 : o4 < 0
  · have c0 : decide (o4 < 0) = true := decide_eq_true h0
    rw [if_pos h0, c0]
    clear h0
    go_enter Try.func13, Try.ntmps13
    have ac0 := row11 (b := q) (FR.out.at 0 rfl rfl)
    go_wp2
    refine bodyPost_ret (results_tmp2 Try.results13 _ _ _) rfl ?_
    exact ⟨rfl, FR.out.bel⟩
  · have c0 : decide (o4 < 0) = false := decide_eq_false h0
    rw [if_neg h0, c0]
    clear h0
    go_enter Try.func13, Try.ntmps13
    have ac0 := row11 (b := q) (FR.out.at 0 rfl rfl)
    go_wp2
    refine bodyPost_ret (results_tmp2 Try.results13 _ _ _) rfl ?_
    exact ⟨rfl, FR.out.bel⟩
end Go.Proofs.Ytpkegfochfkkcaa
