/- The walk of RwWrites: it answers true, over any world; a condition: words within 64 bits. -/
import Derived.Test.YtpkegfochfkkcaaRwS
import Derived.Test.YtpkegfochfkkcaaRwC
namespace Go.Proofs.Ytpkegfochfkkcaa
set_option linter.unusedVariables false
set_option linter.unusedSimpArgs false
open Go.RowKit
theorem fr_self16w (op stage phase old since left : Int) (awoke starve : Bool) (need : Int) (front : Bool) (W : World) : (binOp .eql 31 (.agg #[.int .i64 op, .int .i64 stage, .int .i64 phase, .int .i64 old, .int .i64 since, .int .i64 left, .bool awoke, .bool starve, .int .i64 need, .bool front]) (.agg #[.int .i64 op, .int .i64 stage, .int .i64 phase, .int .i64 old, .int .i64 since, .int .i64 left, .bool awoke, .bool starve, .int .i64 need, .bool front])).run Try.prog W = .ok (.bool true) W := by
  go_simp
set_option maxRecDepth 100000 in
set_option maxHeartbeats 16000000 in
theorem writes16_walk (kd o0 o1 o2 o3 o4 o5 wa to : Int) (A : Option Addr) (n c : Nat) (B : Option Addr) (m d : Nat) (nl : List Wt) (ll : List Cl) (op stage phase old since left : Int) (awoke starve : Bool) (need : Int) (front : Bool) (x0 x1 : Int) (hr : IntKind.i64.wrap o0 = o0 ∧ IntKind.i64.wrap o4 = o4 ∧ IntKind.i64.wrap o5 = o5) (w : World) (hx : Wts w A n c nl) (hy : Cls w B m d ll) :
    Calls Try.prog 4 #[obV kd o0 o1 o2 o3 o4 o5 wa to A n c B m d, frV ⟨op, stage, phase, old, since, left, awoke, starve, need, front⟩, .agg #[.int .i64 x0, .int .i64 x1]] w fun e w' => e = .returned (.bool true) ∧ Below w.heap.size w w' := by
  have RX := Lib.hid hx; have RY := Lib.hid hy
  clear hx hy
  unfold obV frV frC
  simp only
  have HB := Lib.hid (And.intro (Below.refl w.heap.size w) (Nat.le_refl w.heap.size))
  have gq := HB.out.2
  obtain ⟨w1, hw1⟩ : ∃ W, (((w.alloc (.cells #[.int .i64 kd, .int .i64 o0, .int .i64 o1, .int .i64 o2, .int .i64 o3, .int .i64 o4, .int .i64 o5, .int .u32 wa, .int .u32 to, .slice A n c, .slice B m d] 29)).alloc (.cells #[.int .i64 op, .int .i64 stage, .int .i64 phase, .int .i64 old, .int .i64 since, .int .i64 left, .bool awoke, .bool starve, .int .i64 need, .bool front] 31)).alloc (.cells #[.int .i64 x0, .int .i64 x1] 46)) = W := ⟨_, rfl⟩
  have hb : Below w.heap.size w w1 := hw1 ▸ ((((Below.refl _ _).alloc (Nat.le_refl _) _).alloc (by first | (simp; done) | (simp; omega)) _).alloc (by first | (simp; done) | (simp; omega)) _)
  have hv0 : w1.heap[w.heap.size]? = some (.cells #[.int .i64 kd, .int .i64 o0, .int .i64 o1, .int .i64 o2, .int .i64 o3, .int .i64 o4, .int .i64 o5, .int .u32 wa, .int .u32 to, .slice A n c, .slice B m d] 29) := by
    have h0 := heap_alloc_new w (.cells #[.int .i64 kd, .int .i64 o0, .int .i64 o1, .int .i64 o2, .int .i64 o3, .int .i64 o4, .int .i64 o5, .int .u32 wa, .int .u32 to, .slice A n c, .slice B m d] 29)
    rw [show w.heap.size = w.heap.size by simp [Nat.add_assoc]] at h0
    rw [← hw1]
    rw [heap_alloc_old _ _ (by simp <;> omega), heap_alloc_old _ _ (by simp <;> omega)]; exact h0
  have hv1 : w1.heap[w.heap.size + 1]? = some (.cells #[.int .i64 op, .int .i64 stage, .int .i64 phase, .int .i64 old, .int .i64 since, .int .i64 left, .bool awoke, .bool starve, .int .i64 need, .bool front] 31) := by
    have h0 := heap_alloc_new (w.alloc (.cells #[.int .i64 kd, .int .i64 o0, .int .i64 o1, .int .i64 o2, .int .i64 o3, .int .i64 o4, .int .i64 o5, .int .u32 wa, .int .u32 to, .slice A n c, .slice B m d] 29)) (.cells #[.int .i64 op, .int .i64 stage, .int .i64 phase, .int .i64 old, .int .i64 since, .int .i64 left, .bool awoke, .bool starve, .int .i64 need, .bool front] 31)
    rw [show (w.alloc (.cells #[.int .i64 kd, .int .i64 o0, .int .i64 o1, .int .i64 o2, .int .i64 o3, .int .i64 o4, .int .i64 o5, .int .u32 wa, .int .u32 to, .slice A n c, .slice B m d] 29)).heap.size = w.heap.size + 1 by simp [Nat.add_assoc]] at h0
    rw [← hw1]
    rw [heap_alloc_old _ _ (by simp <;> omega)]; exact h0
  have hv2 : w1.heap[w.heap.size + 2]? = some (.cells #[.int .i64 x0, .int .i64 x1] 46) := by
    have h0 := heap_alloc_new ((w.alloc (.cells #[.int .i64 kd, .int .i64 o0, .int .i64 o1, .int .i64 o2, .int .i64 o3, .int .i64 o4, .int .i64 o5, .int .u32 wa, .int .u32 to, .slice A n c, .slice B m d] 29)).alloc (.cells #[.int .i64 op, .int .i64 stage, .int .i64 phase, .int .i64 old, .int .i64 since, .int .i64 left, .bool awoke, .bool starve, .int .i64 need, .bool front] 31)) (.cells #[.int .i64 x0, .int .i64 x1] 46)
    rw [show ((w.alloc (.cells #[.int .i64 kd, .int .i64 o0, .int .i64 o1, .int .i64 o2, .int .i64 o3, .int .i64 o4, .int .i64 o5, .int .u32 wa, .int .u32 to, .slice A n c, .slice B m d] 29)).alloc (.cells #[.int .i64 op, .int .i64 stage, .int .i64 phase, .int .i64 old, .int .i64 since, .int .i64 left, .bool awoke, .bool starve, .int .i64 need, .bool front] 31)).heap.size = w.heap.size + 2 by simp [Nat.add_assoc]] at h0
    rw [← hw1]
    exact h0
  replace RX := Lib.hid (Es.below RX.out hb)
  replace RY := Lib.hid (Es.below RY.out hb)
  replace HB := Lib.hid (And.intro (HB.out.1.trans (hb.mono HB.out.2)) (Nat.le_trans HB.out.2 hb.size))
  have Vo := Lib.hid hv0
  have geo := gq
  have Vf := Lib.hid hv1
  have neo_f : w.heap.size ≠ w.heap.size + 1 := by omega
  have gef : _ ≤ w.heap.size + 1 := Nat.le_trans gq (Nat.le_add_right _ 1)
  have Vt := Lib.hid hv2
  have neo_t : w.heap.size ≠ w.heap.size + 2 := by omega
  have nef_t : w.heap.size + 1 ≠ w.heap.size + 2 := by omega
  have get : _ ≤ w.heap.size + 2 := Nat.le_trans gq (Nat.le_add_right _ 2)
  generalize hso : w.heap.size = so at *
  clear hb gq hv0 hv1 hv2
  subst hso
  have AL := Lib.hid alive16
  by_cases h0 : 20 < n ∨ 20 < m
  · have g2 := Lib.hid (fun (W : World) => great15_yes kd o0 o1 o2 o3 o4 o5 wa to A n c B m d W h0)
    clear h0
    go_enter Try.func4, Try.ntmps4
    go_wp2_with fail
    refine (AL.out _).mono ?_
    rintro e w2 ⟨rfl, hb⟩
    replace Vo := Lib.hid (blk_below Vo.out hb (blk_lt Vo.out))
    replace Vf := Lib.hid (blk_below Vf.out hb (blk_lt Vf.out))
    replace Vt := Lib.hid (blk_below Vt.out hb (blk_lt Vt.out))
    replace RX := Lib.hid (Es.below RX.out hb)
    replace RY := Lib.hid (Es.below RY.out hb)
    replace HB := Lib.hid (And.intro (HB.out.1.trans (hb.mono HB.out.2)) (Nat.le_trans HB.out.2 hb.size))
    clear hb
    have co := row11 Vo.out
    go_wp2_with fail
    refine (g2.out _).mono ?_
    rintro e w3 ⟨rfl, hb⟩
    clear co
    replace Vo := Lib.hid (blk_below Vo.out hb (blk_lt Vo.out))
    replace Vf := Lib.hid (blk_below Vf.out hb (blk_lt Vf.out))
    replace Vt := Lib.hid (blk_below Vt.out hb (blk_lt Vt.out))
    replace RX := Lib.hid (Es.below RX.out hb)
    replace RY := Lib.hid (Es.below RY.out hb)
    replace HB := Lib.hid (And.intro (HB.out.1.trans (hb.mono HB.out.2)) (Nat.le_trans HB.out.2 hb.size))
    clear hb
    go_wp2
    go_ret
    exact ⟨rfl, HB.out.1⟩
  · have hn : n ≤ 16384 := by omega
    have hm : m ≤ 16384 := by omega
    have g2 := Lib.hid (fun (W : World) => great15_no kd o0 o1 o2 o3 o4 o5 wa to A n c B m d W h0)
    clear h0
    obtain ⟨WA, wn, wc, hwk⟩ : ∃ (X : Option Addr) (i j : Nat), (Value.slice X i j) = .slice none 0 0 := ⟨_, _, _, rfl⟩
    obtain ⟨⟨⟨z0, z4, z5⟩, ⟨gop, gstage, gphase, gold, gsince, gleft, gawoke, gstarve, gneed, gfront⟩, ⟨gdn, ggv, ghd, gft⟩⟩, hr1⟩ : ∃ r, wlockW o0 o4 o5 ⟨op, stage, phase, old, since, left, awoke, starve, need, front⟩ x0 x1 = r := ⟨_, rfl⟩
    have L1 := Lib.hid (show ∀ (W : World), Wts W A n c nl → Cls W B m d ll → Calls Try.prog 16 #[.agg #[.int .i64 kd, .int .i64 o0, .int .i64 o1, .int .i64 o2, .int .i64 o3, .int .i64 o4, .int .i64 o5, .int .u32 wa, .int .u32 to, .slice A n c, .slice B m d], .agg #[.int .i64 op, .int .i64 stage, .int .i64 phase, .int .i64 old, .int .i64 since, .int .i64 left, .bool awoke, .bool starve, .int .i64 need, .bool front], .int .i64 x0, .int .i64 x1] W (fun e w' => ∃ A2 c2 B2 d2, e = .returned (.tuple #[.agg #[.int .i64 kd, .int .i64 z0, .int .i64 o1, .int .i64 o2, .int .i64 o3, .int .i64 z4, .int .i64 z5, .int .u32 wa, .int .u32 to, .slice A2 n c2, .slice B2 m d2], .agg #[.int .i64 gop, .int .i64 gstage, .int .i64 gphase, .int .i64 gold, .int .i64 gsince, .int .i64 gleft, .bool gawoke, .bool gstarve, .int .i64 gneed, .bool gfront], .agg #[.bool gdn, .bool false, .bool ghd, .int .i64 ggv, .int .i64 gft, .int .u64 0, .slice WA wn wc]]) ∧ w'.ownsRow W.heap.size 67 2 (.slice A2 n c2) n (wtC nl) ∧ w'.ownsRow W.heap.size 62 2 (.slice B2 m d2) m (clC ll) ∧ Below W.heap.size W w') from fun W h1 h2 => by
      have h := rwWLock_any kd o0 o1 o2 o3 o4 o5 wa to A n c B m d nl ll ⟨op, stage, phase, old, since, left, awoke, starve, need, front⟩ x0 x1 W h1 h2 hn hm hr
      rw [hr1] at h
      rw [hwk]
      refine h.mono ?_
      rintro e w' ⟨A2, c2, B2, d2, he, k1, k2, hb, _, _⟩
      exact ⟨A2, c2, B2, d2, he, k1, k2, hb⟩)
    have M1 := Lib.hid (show ∀ W : World, Calls Try.prog 17 #[.agg #[.int .i64 kd, .int .i64 o0, .int .i64 o1, .int .i64 o2, .int .i64 o3, .int .i64 o4, .int .i64 o5, .int .u32 wa, .int .u32 to, .slice A n c, .slice B m d], .agg #[.int .i64 op, .int .i64 stage, .int .i64 phase, .int .i64 old, .int .i64 since, .int .i64 left, .bool awoke, .bool starve, .int .i64 need, .bool front], .int .i64 x0, .int .i64 x1] W (fun e w' => e = .returned (.tuple #[.agg #[.int .i64 kd, .int .i64 z0, .int .i64 o1, .int .i64 o2, .int .i64 o3, .int .i64 z4, .int .i64 z5, .int .u32 wa, .int .u32 to, .slice A n c, .slice B m d], .agg #[.int .i64 gop, .int .i64 gstage, .int .i64 gphase, .int .i64 gold, .int .i64 gsince, .int .i64 gleft, .bool gawoke, .bool gstarve, .int .i64 gneed, .bool gfront], .agg #[.bool gdn, .bool false, .bool ghd, .int .i64 ggv, .int .i64 gft, .int .u64 0, .slice WA wn wc]]) ∧ Below W.heap.size W w') from fun W => by have h := wlock16_any kd o0 o1 o2 o3 o4 o5 wa to A n c B m d ⟨op, stage, phase, old, since, left, awoke, starve, need, front⟩ x0 x1 W; rw [hr1] at h; rw [hwk]; exact h)
    have OE1 := Lib.hid (fun (A2 : Option Addr) (c2 : Nat) (B2 : Option Addr) (d2 : Nat) (W : World) (h1 : Wts W A2 n c2 nl) (h2 : Cls W B2 m d2 ll) (h3 : Wts W A n c nl) (h4 : Cls W B m d ll) => obj15_eq2 kd z0 o1 o2 o3 z4 z5 wa to A2 n c2 B2 m d2 A c B d nl ll W h1 h2 h3 h4 hn hm)
    have AE1 := Lib.hid (show ∀ W : World, Calls Try.prog 15 #[.agg #[.bool gdn, .bool false, .bool ghd, .int .i64 ggv, .int .i64 gft, .int .u64 0, .slice WA wn wc], .agg #[.bool gdn, .bool false, .bool ghd, .int .i64 ggv, .int .i64 gft, .int .u64 0, .slice WA wn wc]] W (YesS W true) from fun W => by rw [hwk]; exact act15_eq gdn false ghd ggv gft 0 W)
    obtain ⟨⟨⟨y0, y4, y5⟩, ⟨hop, hstage, hphase, hold, hsince, hleft, hawoke, hstarve, hneed, hfront⟩, ⟨hdn, hgv, hhd, hft⟩⟩, hr2⟩ : ∃ r, wunlockW o0 o4 o5 ⟨op, stage, phase, old, since, left, awoke, starve, need, front⟩ = r := ⟨_, rfl⟩
    have L2 := Lib.hid (show ∀ (W : World), Wts W A n c nl → Cls W B m d ll → Calls Try.prog 18 #[.agg #[.int .i64 kd, .int .i64 o0, .int .i64 o1, .int .i64 o2, .int .i64 o3, .int .i64 o4, .int .i64 o5, .int .u32 wa, .int .u32 to, .slice A n c, .slice B m d], .agg #[.int .i64 op, .int .i64 stage, .int .i64 phase, .int .i64 old, .int .i64 since, .int .i64 left, .bool awoke, .bool starve, .int .i64 need, .bool front]] W (fun e w' => ∃ A2 c2 B2 d2, e = .returned (.tuple #[.agg #[.int .i64 kd, .int .i64 y0, .int .i64 o1, .int .i64 o2, .int .i64 o3, .int .i64 y4, .int .i64 y5, .int .u32 wa, .int .u32 to, .slice A2 n c2, .slice B2 m d2], .agg #[.int .i64 hop, .int .i64 hstage, .int .i64 hphase, .int .i64 hold, .int .i64 hsince, .int .i64 hleft, .bool hawoke, .bool hstarve, .int .i64 hneed, .bool hfront], .agg #[.bool hdn, .bool false, .bool hhd, .int .i64 hgv, .int .i64 hft, .int .u64 0, .slice WA wn wc]]) ∧ w'.ownsRow W.heap.size 67 2 (.slice A2 n c2) n (wtC nl) ∧ w'.ownsRow W.heap.size 62 2 (.slice B2 m d2) m (clC ll) ∧ Below W.heap.size W w') from fun W h1 h2 => by
      have h := rwWUnlock_any kd o0 o1 o2 o3 o4 o5 wa to A n c B m d nl ll ⟨op, stage, phase, old, since, left, awoke, starve, need, front⟩ W h1 h2 hn hm hr
      rw [hr2] at h
      rw [hwk]
      refine h.mono ?_
      rintro e w' ⟨A2, c2, B2, d2, he, k1, k2, hb, _, _⟩
      exact ⟨A2, c2, B2, d2, he, k1, k2, hb⟩)
    have M2 := Lib.hid (show ∀ W : World, Calls Try.prog 19 #[.agg #[.int .i64 kd, .int .i64 o0, .int .i64 o1, .int .i64 o2, .int .i64 o3, .int .i64 o4, .int .i64 o5, .int .u32 wa, .int .u32 to, .slice A n c, .slice B m d], .agg #[.int .i64 op, .int .i64 stage, .int .i64 phase, .int .i64 old, .int .i64 since, .int .i64 left, .bool awoke, .bool starve, .int .i64 need, .bool front]] W (fun e w' => e = .returned (.tuple #[.agg #[.int .i64 kd, .int .i64 y0, .int .i64 o1, .int .i64 o2, .int .i64 o3, .int .i64 y4, .int .i64 y5, .int .u32 wa, .int .u32 to, .slice A n c, .slice B m d], .agg #[.int .i64 hop, .int .i64 hstage, .int .i64 hphase, .int .i64 hold, .int .i64 hsince, .int .i64 hleft, .bool hawoke, .bool hstarve, .int .i64 hneed, .bool hfront], .agg #[.bool hdn, .bool false, .bool hhd, .int .i64 hgv, .int .i64 hft, .int .u64 0, .slice WA wn wc]]) ∧ Below W.heap.size W w') from fun W => by have h := wunlock16_any kd o0 o1 o2 o3 o4 o5 wa to A n c B m d ⟨op, stage, phase, old, since, left, awoke, starve, need, front⟩ W; rw [hr2] at h; rw [hwk]; exact h)
    have OE2 := Lib.hid (fun (A2 : Option Addr) (c2 : Nat) (B2 : Option Addr) (d2 : Nat) (W : World) (h1 : Wts W A2 n c2 nl) (h2 : Cls W B2 m d2 ll) (h3 : Wts W A n c nl) (h4 : Cls W B m d ll) => obj15_eq2 kd y0 o1 o2 o3 y4 y5 wa to A2 n c2 B2 m d2 A c B d nl ll W h1 h2 h3 h4 hn hm)
    have AE2 := Lib.hid (show ∀ W : World, Calls Try.prog 15 #[.agg #[.bool hdn, .bool false, .bool hhd, .int .i64 hgv, .int .i64 hft, .int .u64 0, .slice WA wn wc], .agg #[.bool hdn, .bool false, .bool hhd, .int .i64 hgv, .int .i64 hft, .int .u64 0, .slice WA wn wc]] W (YesS W true) from fun W => by rw [hwk]; exact act15_eq hdn false hhd hgv hft 0 W)
    clear hr hr1 hr2 hn hm hwk
    go_enter Try.func4, Try.ntmps4
    go_wp2_with fail
    refine (AL.out _).mono ?_
    rintro e w2 ⟨rfl, hb⟩
    replace Vo := Lib.hid (blk_below Vo.out hb (blk_lt Vo.out))
    replace Vf := Lib.hid (blk_below Vf.out hb (blk_lt Vf.out))
    replace Vt := Lib.hid (blk_below Vt.out hb (blk_lt Vt.out))
    replace RX := Lib.hid (Es.below RX.out hb)
    replace RY := Lib.hid (Es.below RY.out hb)
    replace HB := Lib.hid (And.intro (HB.out.1.trans (hb.mono HB.out.2)) (Nat.le_trans HB.out.2 hb.size))
    clear hb
    have co := row11 Vo.out
    go_wp2_with fail
    refine (g2.out _).mono ?_
    rintro e w3 ⟨rfl, hb⟩
    clear co
    replace Vo := Lib.hid (blk_below Vo.out hb (blk_lt Vo.out))
    replace Vf := Lib.hid (blk_below Vf.out hb (blk_lt Vf.out))
    replace Vt := Lib.hid (blk_below Vt.out hb (blk_lt Vt.out))
    replace RX := Lib.hid (Es.below RX.out hb)
    replace RY := Lib.hid (Es.below RY.out hb)
    replace HB := Lib.hid (And.intro (HB.out.1.trans (hb.mono HB.out.2)) (Nat.le_trans HB.out.2 hb.size))
    clear hb
    have co := row11 Vo.out
    have cf := row10 Vf.out
    have ct := row2 Vt.out
    go_wp2_with fail
    refine (L1.out _ RX.out RY.out).mono ?_
    rintro e w4 ⟨A2, c2, B2, d2, rfl, hon, hol, hb⟩
    clear co cf ct
    replace Vo := Lib.hid (blk_below Vo.out hb (blk_lt Vo.out))
    replace Vf := Lib.hid (blk_below Vf.out hb (blk_lt Vf.out))
    replace Vt := Lib.hid (blk_below Vt.out hb (blk_lt Vt.out))
    replace RX := Lib.hid (Es.below RX.out hb)
    replace RY := Lib.hid (Es.below RY.out hb)
    replace HB := Lib.hid (And.intro (HB.out.1.trans (hb.mono HB.out.2)) (Nat.le_trans HB.out.2 hb.size))
    clear hb
    have ON2 := Lib.hid hon; have OL2 := Lib.hid hol
    clear hon hol
    have lto := blk_lt Vo.out
    have ltf := blk_lt Vf.out
    have ltt := blk_lt Vt.out
    have gq := HB.out.2
    obtain ⟨w5, hw5⟩ : ∃ W, (((w4.alloc (.cells #[.int .i64 kd, .int .i64 z0, .int .i64 o1, .int .i64 o2, .int .i64 o3, .int .i64 z4, .int .i64 z5, .int .u32 wa, .int .u32 to, .slice A2 n c2, .slice B2 m d2] 29)).alloc (.cells #[.int .i64 gop, .int .i64 gstage, .int .i64 gphase, .int .i64 gold, .int .i64 gsince, .int .i64 gleft, .bool gawoke, .bool gstarve, .int .i64 gneed, .bool gfront] 31)).alloc (.cells #[.bool gdn, .bool false, .bool ghd, .int .i64 ggv, .int .i64 gft, .int .u64 0, .slice WA wn wc] 38)) = W := ⟨_, rfl⟩
    have hb : Below w4.heap.size w4 w5 := hw5 ▸ ((((Below.refl _ _).alloc (Nat.le_refl _) _).alloc (by first | (simp; done) | (simp; omega)) _).alloc (by first | (simp; done) | (simp; omega)) _)
    have hv0 : w5.heap[w4.heap.size]? = some (.cells #[.int .i64 kd, .int .i64 z0, .int .i64 o1, .int .i64 o2, .int .i64 o3, .int .i64 z4, .int .i64 z5, .int .u32 wa, .int .u32 to, .slice A2 n c2, .slice B2 m d2] 29) := by
      have h0 := heap_alloc_new w4 (.cells #[.int .i64 kd, .int .i64 z0, .int .i64 o1, .int .i64 o2, .int .i64 o3, .int .i64 z4, .int .i64 z5, .int .u32 wa, .int .u32 to, .slice A2 n c2, .slice B2 m d2] 29)
      rw [show w4.heap.size = w4.heap.size by simp [Nat.add_assoc]] at h0
      rw [← hw5]
      rw [heap_alloc_old _ _ (by simp <;> omega), heap_alloc_old _ _ (by simp <;> omega)]; exact h0
    have hv1 : w5.heap[w4.heap.size + 1]? = some (.cells #[.int .i64 gop, .int .i64 gstage, .int .i64 gphase, .int .i64 gold, .int .i64 gsince, .int .i64 gleft, .bool gawoke, .bool gstarve, .int .i64 gneed, .bool gfront] 31) := by
      have h0 := heap_alloc_new (w4.alloc (.cells #[.int .i64 kd, .int .i64 z0, .int .i64 o1, .int .i64 o2, .int .i64 o3, .int .i64 z4, .int .i64 z5, .int .u32 wa, .int .u32 to, .slice A2 n c2, .slice B2 m d2] 29)) (.cells #[.int .i64 gop, .int .i64 gstage, .int .i64 gphase, .int .i64 gold, .int .i64 gsince, .int .i64 gleft, .bool gawoke, .bool gstarve, .int .i64 gneed, .bool gfront] 31)
      rw [show (w4.alloc (.cells #[.int .i64 kd, .int .i64 z0, .int .i64 o1, .int .i64 o2, .int .i64 o3, .int .i64 z4, .int .i64 z5, .int .u32 wa, .int .u32 to, .slice A2 n c2, .slice B2 m d2] 29)).heap.size = w4.heap.size + 1 by simp [Nat.add_assoc]] at h0
      rw [← hw5]
      rw [heap_alloc_old _ _ (by simp <;> omega)]; exact h0
    have hv2 : w5.heap[w4.heap.size + 2]? = some (.cells #[.bool gdn, .bool false, .bool ghd, .int .i64 ggv, .int .i64 gft, .int .u64 0, .slice WA wn wc] 38) := by
      have h0 := heap_alloc_new ((w4.alloc (.cells #[.int .i64 kd, .int .i64 z0, .int .i64 o1, .int .i64 o2, .int .i64 o3, .int .i64 z4, .int .i64 z5, .int .u32 wa, .int .u32 to, .slice A2 n c2, .slice B2 m d2] 29)).alloc (.cells #[.int .i64 gop, .int .i64 gstage, .int .i64 gphase, .int .i64 gold, .int .i64 gsince, .int .i64 gleft, .bool gawoke, .bool gstarve, .int .i64 gneed, .bool gfront] 31)) (.cells #[.bool gdn, .bool false, .bool ghd, .int .i64 ggv, .int .i64 gft, .int .u64 0, .slice WA wn wc] 38)
      rw [show ((w4.alloc (.cells #[.int .i64 kd, .int .i64 z0, .int .i64 o1, .int .i64 o2, .int .i64 o3, .int .i64 z4, .int .i64 z5, .int .u32 wa, .int .u32 to, .slice A2 n c2, .slice B2 m d2] 29)).alloc (.cells #[.int .i64 gop, .int .i64 gstage, .int .i64 gphase, .int .i64 gold, .int .i64 gsince, .int .i64 gleft, .bool gawoke, .bool gstarve, .int .i64 gneed, .bool gfront] 31)).heap.size = w4.heap.size + 2 by simp [Nat.add_assoc]] at h0
      rw [← hw5]
      exact h0
    replace Vo := Lib.hid (blk_below Vo.out hb (blk_lt Vo.out))
    replace Vf := Lib.hid (blk_below Vf.out hb (blk_lt Vf.out))
    replace Vt := Lib.hid (blk_below Vt.out hb (blk_lt Vt.out))
    replace RX := Lib.hid (Es.below RX.out hb)
    replace RY := Lib.hid (Es.below RY.out hb)
    replace ON2 := Lib.hid (own_below ON2.out hb)
    replace OL2 := Lib.hid (own_below OL2.out hb)
    replace HB := Lib.hid (And.intro (HB.out.1.trans (hb.mono HB.out.2)) (Nat.le_trans HB.out.2 hb.size))
    have Vx := Lib.hid hv0
    have neo_x := Nat.ne_of_lt lto
    have nef_x := Nat.ne_of_lt ltf
    have net_x := Nat.ne_of_lt ltt
    have gex := gq
    have Vg := Lib.hid hv1
    have neo_g := Nat.ne_of_lt (Nat.lt_of_lt_of_le lto (Nat.le_add_right w4.heap.size 1))
    have nef_g := Nat.ne_of_lt (Nat.lt_of_lt_of_le ltf (Nat.le_add_right w4.heap.size 1))
    have net_g := Nat.ne_of_lt (Nat.lt_of_lt_of_le ltt (Nat.le_add_right w4.heap.size 1))
    have nex_g : w4.heap.size ≠ w4.heap.size + 1 := by omega
    have geg : _ ≤ w4.heap.size + 1 := Nat.le_trans gq (Nat.le_add_right _ 1)
    have Va := Lib.hid hv2
    have neo_a := Nat.ne_of_lt (Nat.lt_of_lt_of_le lto (Nat.le_add_right w4.heap.size 2))
    have nef_a := Nat.ne_of_lt (Nat.lt_of_lt_of_le ltf (Nat.le_add_right w4.heap.size 2))
    have net_a := Nat.ne_of_lt (Nat.lt_of_lt_of_le ltt (Nat.le_add_right w4.heap.size 2))
    have nex_a : w4.heap.size ≠ w4.heap.size + 2 := by omega
    have neg_a : w4.heap.size + 1 ≠ w4.heap.size + 2 := by omega
    have gea : _ ≤ w4.heap.size + 2 := Nat.le_trans gq (Nat.le_add_right _ 2)
    generalize hsx : w4.heap.size = sx at *
    clear hb gq hv0 hv1 hv2 lto ltf ltt
    have co := row11 Vo.out
    have cf := row10 Vf.out
    have ct := row2 Vt.out
    go_wp2_with fail
    refine (M1.out _).mono ?_
    rintro e w6 ⟨rfl, hb⟩
    clear co cf ct
    replace Vo := Lib.hid (blk_below Vo.out hb (blk_lt Vo.out))
    replace Vf := Lib.hid (blk_below Vf.out hb (blk_lt Vf.out))
    replace Vt := Lib.hid (blk_below Vt.out hb (blk_lt Vt.out))
    replace Vx := Lib.hid (blk_below Vx.out hb (blk_lt Vx.out))
    replace Vg := Lib.hid (blk_below Vg.out hb (blk_lt Vg.out))
    replace Va := Lib.hid (blk_below Va.out hb (blk_lt Va.out))
    replace RX := Lib.hid (Es.below RX.out hb)
    replace RY := Lib.hid (Es.below RY.out hb)
    replace ON2 := Lib.hid (own_below ON2.out hb)
    replace OL2 := Lib.hid (own_below OL2.out hb)
    replace HB := Lib.hid (And.intro (HB.out.1.trans (hb.mono HB.out.2)) (Nat.le_trans HB.out.2 hb.size))
    clear hb
    have lto := blk_lt Vo.out
    have ltf := blk_lt Vf.out
    have ltt := blk_lt Vt.out
    have ltx := blk_lt Vx.out
    have ltg := blk_lt Vg.out
    have lta := blk_lt Va.out
    have gq := HB.out.2
    obtain ⟨w7, hw7⟩ : ∃ W, (((w6.alloc (.cells #[.int .i64 kd, .int .i64 z0, .int .i64 o1, .int .i64 o2, .int .i64 o3, .int .i64 z4, .int .i64 z5, .int .u32 wa, .int .u32 to, .slice A n c, .slice B m d] 29)).alloc (.cells #[.int .i64 gop, .int .i64 gstage, .int .i64 gphase, .int .i64 gold, .int .i64 gsince, .int .i64 gleft, .bool gawoke, .bool gstarve, .int .i64 gneed, .bool gfront] 31)).alloc (.cells #[.bool gdn, .bool false, .bool ghd, .int .i64 ggv, .int .i64 gft, .int .u64 0, .slice WA wn wc] 38)) = W := ⟨_, rfl⟩
    have hb : Below w6.heap.size w6 w7 := hw7 ▸ ((((Below.refl _ _).alloc (Nat.le_refl _) _).alloc (by first | (simp; done) | (simp; omega)) _).alloc (by first | (simp; done) | (simp; omega)) _)
    have hv0 : w7.heap[w6.heap.size]? = some (.cells #[.int .i64 kd, .int .i64 z0, .int .i64 o1, .int .i64 o2, .int .i64 o3, .int .i64 z4, .int .i64 z5, .int .u32 wa, .int .u32 to, .slice A n c, .slice B m d] 29) := by
      have h0 := heap_alloc_new w6 (.cells #[.int .i64 kd, .int .i64 z0, .int .i64 o1, .int .i64 o2, .int .i64 o3, .int .i64 z4, .int .i64 z5, .int .u32 wa, .int .u32 to, .slice A n c, .slice B m d] 29)
      rw [show w6.heap.size = w6.heap.size by simp [Nat.add_assoc]] at h0
      rw [← hw7]
      rw [heap_alloc_old _ _ (by simp <;> omega), heap_alloc_old _ _ (by simp <;> omega)]; exact h0
    have hv1 : w7.heap[w6.heap.size + 1]? = some (.cells #[.int .i64 gop, .int .i64 gstage, .int .i64 gphase, .int .i64 gold, .int .i64 gsince, .int .i64 gleft, .bool gawoke, .bool gstarve, .int .i64 gneed, .bool gfront] 31) := by
      have h0 := heap_alloc_new (w6.alloc (.cells #[.int .i64 kd, .int .i64 z0, .int .i64 o1, .int .i64 o2, .int .i64 o3, .int .i64 z4, .int .i64 z5, .int .u32 wa, .int .u32 to, .slice A n c, .slice B m d] 29)) (.cells #[.int .i64 gop, .int .i64 gstage, .int .i64 gphase, .int .i64 gold, .int .i64 gsince, .int .i64 gleft, .bool gawoke, .bool gstarve, .int .i64 gneed, .bool gfront] 31)
      rw [show (w6.alloc (.cells #[.int .i64 kd, .int .i64 z0, .int .i64 o1, .int .i64 o2, .int .i64 o3, .int .i64 z4, .int .i64 z5, .int .u32 wa, .int .u32 to, .slice A n c, .slice B m d] 29)).heap.size = w6.heap.size + 1 by simp [Nat.add_assoc]] at h0
      rw [← hw7]
      rw [heap_alloc_old _ _ (by simp <;> omega)]; exact h0
    have hv2 : w7.heap[w6.heap.size + 2]? = some (.cells #[.bool gdn, .bool false, .bool ghd, .int .i64 ggv, .int .i64 gft, .int .u64 0, .slice WA wn wc] 38) := by
      have h0 := heap_alloc_new ((w6.alloc (.cells #[.int .i64 kd, .int .i64 z0, .int .i64 o1, .int .i64 o2, .int .i64 o3, .int .i64 z4, .int .i64 z5, .int .u32 wa, .int .u32 to, .slice A n c, .slice B m d] 29)).alloc (.cells #[.int .i64 gop, .int .i64 gstage, .int .i64 gphase, .int .i64 gold, .int .i64 gsince, .int .i64 gleft, .bool gawoke, .bool gstarve, .int .i64 gneed, .bool gfront] 31)) (.cells #[.bool gdn, .bool false, .bool ghd, .int .i64 ggv, .int .i64 gft, .int .u64 0, .slice WA wn wc] 38)
      rw [show ((w6.alloc (.cells #[.int .i64 kd, .int .i64 z0, .int .i64 o1, .int .i64 o2, .int .i64 o3, .int .i64 z4, .int .i64 z5, .int .u32 wa, .int .u32 to, .slice A n c, .slice B m d] 29)).alloc (.cells #[.int .i64 gop, .int .i64 gstage, .int .i64 gphase, .int .i64 gold, .int .i64 gsince, .int .i64 gleft, .bool gawoke, .bool gstarve, .int .i64 gneed, .bool gfront] 31)).heap.size = w6.heap.size + 2 by simp [Nat.add_assoc]] at h0
      rw [← hw7]
      exact h0
    replace Vo := Lib.hid (blk_below Vo.out hb (blk_lt Vo.out))
    replace Vf := Lib.hid (blk_below Vf.out hb (blk_lt Vf.out))
    replace Vt := Lib.hid (blk_below Vt.out hb (blk_lt Vt.out))
    replace Vx := Lib.hid (blk_below Vx.out hb (blk_lt Vx.out))
    replace Vg := Lib.hid (blk_below Vg.out hb (blk_lt Vg.out))
    replace Va := Lib.hid (blk_below Va.out hb (blk_lt Va.out))
    replace RX := Lib.hid (Es.below RX.out hb)
    replace RY := Lib.hid (Es.below RY.out hb)
    replace ON2 := Lib.hid (own_below ON2.out hb)
    replace OL2 := Lib.hid (own_below OL2.out hb)
    replace HB := Lib.hid (And.intro (HB.out.1.trans (hb.mono HB.out.2)) (Nat.le_trans HB.out.2 hb.size))
    have Vy := Lib.hid hv0
    have neo_y := Nat.ne_of_lt lto
    have nef_y := Nat.ne_of_lt ltf
    have net_y := Nat.ne_of_lt ltt
    have nex_y := Nat.ne_of_lt ltx
    have neg_y := Nat.ne_of_lt ltg
    have nea_y := Nat.ne_of_lt lta
    have gey := gq
    have Vh := Lib.hid hv1
    have neo_h := Nat.ne_of_lt (Nat.lt_of_lt_of_le lto (Nat.le_add_right w6.heap.size 1))
    have nef_h := Nat.ne_of_lt (Nat.lt_of_lt_of_le ltf (Nat.le_add_right w6.heap.size 1))
    have net_h := Nat.ne_of_lt (Nat.lt_of_lt_of_le ltt (Nat.le_add_right w6.heap.size 1))
    have nex_h := Nat.ne_of_lt (Nat.lt_of_lt_of_le ltx (Nat.le_add_right w6.heap.size 1))
    have neg_h := Nat.ne_of_lt (Nat.lt_of_lt_of_le ltg (Nat.le_add_right w6.heap.size 1))
    have nea_h := Nat.ne_of_lt (Nat.lt_of_lt_of_le lta (Nat.le_add_right w6.heap.size 1))
    have ney_h : w6.heap.size ≠ w6.heap.size + 1 := by omega
    have geh : _ ≤ w6.heap.size + 1 := Nat.le_trans gq (Nat.le_add_right _ 1)
    have Vb := Lib.hid hv2
    have neo_b := Nat.ne_of_lt (Nat.lt_of_lt_of_le lto (Nat.le_add_right w6.heap.size 2))
    have nef_b := Nat.ne_of_lt (Nat.lt_of_lt_of_le ltf (Nat.le_add_right w6.heap.size 2))
    have net_b := Nat.ne_of_lt (Nat.lt_of_lt_of_le ltt (Nat.le_add_right w6.heap.size 2))
    have nex_b := Nat.ne_of_lt (Nat.lt_of_lt_of_le ltx (Nat.le_add_right w6.heap.size 2))
    have neg_b := Nat.ne_of_lt (Nat.lt_of_lt_of_le ltg (Nat.le_add_right w6.heap.size 2))
    have nea_b := Nat.ne_of_lt (Nat.lt_of_lt_of_le lta (Nat.le_add_right w6.heap.size 2))
    have ney_b : w6.heap.size ≠ w6.heap.size + 2 := by omega
    have neh_b : w6.heap.size + 1 ≠ w6.heap.size + 2 := by omega
    have geb : _ ≤ w6.heap.size + 2 := Nat.le_trans gq (Nat.le_add_right _ 2)
    generalize hsy : w6.heap.size = sy at *
    clear hb gq hv0 hv1 hv2 lto ltf ltt ltx ltg lta
    have co := row11 Vo.out
    have cf := row10 Vf.out
    have ct := row2 Vt.out
    go_wp2_with fail
    refine (L2.out _ RX.out RY.out).mono ?_
    rintro e w8 ⟨A3, c3, B3, d3, rfl, hon, hol, hb⟩
    clear co cf ct
    replace Vo := Lib.hid (blk_below Vo.out hb (blk_lt Vo.out))
    replace Vf := Lib.hid (blk_below Vf.out hb (blk_lt Vf.out))
    replace Vt := Lib.hid (blk_below Vt.out hb (blk_lt Vt.out))
    replace Vx := Lib.hid (blk_below Vx.out hb (blk_lt Vx.out))
    replace Vg := Lib.hid (blk_below Vg.out hb (blk_lt Vg.out))
    replace Va := Lib.hid (blk_below Va.out hb (blk_lt Va.out))
    replace Vy := Lib.hid (blk_below Vy.out hb (blk_lt Vy.out))
    replace Vh := Lib.hid (blk_below Vh.out hb (blk_lt Vh.out))
    replace Vb := Lib.hid (blk_below Vb.out hb (blk_lt Vb.out))
    replace RX := Lib.hid (Es.below RX.out hb)
    replace RY := Lib.hid (Es.below RY.out hb)
    replace ON2 := Lib.hid (own_below ON2.out hb)
    replace OL2 := Lib.hid (own_below OL2.out hb)
    replace HB := Lib.hid (And.intro (HB.out.1.trans (hb.mono HB.out.2)) (Nat.le_trans HB.out.2 hb.size))
    clear hb
    have ON3 := Lib.hid hon; have OL3 := Lib.hid hol
    clear hon hol
    have lto := blk_lt Vo.out
    have ltf := blk_lt Vf.out
    have ltt := blk_lt Vt.out
    have ltx := blk_lt Vx.out
    have ltg := blk_lt Vg.out
    have lta := blk_lt Va.out
    have lty := blk_lt Vy.out
    have lth := blk_lt Vh.out
    have ltb := blk_lt Vb.out
    have gq := HB.out.2
    obtain ⟨w9, hw9⟩ : ∃ W, (((w8.alloc (.cells #[.int .i64 kd, .int .i64 y0, .int .i64 o1, .int .i64 o2, .int .i64 o3, .int .i64 y4, .int .i64 y5, .int .u32 wa, .int .u32 to, .slice A3 n c3, .slice B3 m d3] 29)).alloc (.cells #[.int .i64 hop, .int .i64 hstage, .int .i64 hphase, .int .i64 hold, .int .i64 hsince, .int .i64 hleft, .bool hawoke, .bool hstarve, .int .i64 hneed, .bool hfront] 31)).alloc (.cells #[.bool hdn, .bool false, .bool hhd, .int .i64 hgv, .int .i64 hft, .int .u64 0, .slice WA wn wc] 38)) = W := ⟨_, rfl⟩
    have hb : Below w8.heap.size w8 w9 := hw9 ▸ ((((Below.refl _ _).alloc (Nat.le_refl _) _).alloc (by first | (simp; done) | (simp; omega)) _).alloc (by first | (simp; done) | (simp; omega)) _)
    have hv0 : w9.heap[w8.heap.size]? = some (.cells #[.int .i64 kd, .int .i64 y0, .int .i64 o1, .int .i64 o2, .int .i64 o3, .int .i64 y4, .int .i64 y5, .int .u32 wa, .int .u32 to, .slice A3 n c3, .slice B3 m d3] 29) := by
      have h0 := heap_alloc_new w8 (.cells #[.int .i64 kd, .int .i64 y0, .int .i64 o1, .int .i64 o2, .int .i64 o3, .int .i64 y4, .int .i64 y5, .int .u32 wa, .int .u32 to, .slice A3 n c3, .slice B3 m d3] 29)
      rw [show w8.heap.size = w8.heap.size by simp [Nat.add_assoc]] at h0
      rw [← hw9]
      rw [heap_alloc_old _ _ (by simp <;> omega), heap_alloc_old _ _ (by simp <;> omega)]; exact h0
    have hv1 : w9.heap[w8.heap.size + 1]? = some (.cells #[.int .i64 hop, .int .i64 hstage, .int .i64 hphase, .int .i64 hold, .int .i64 hsince, .int .i64 hleft, .bool hawoke, .bool hstarve, .int .i64 hneed, .bool hfront] 31) := by
      have h0 := heap_alloc_new (w8.alloc (.cells #[.int .i64 kd, .int .i64 y0, .int .i64 o1, .int .i64 o2, .int .i64 o3, .int .i64 y4, .int .i64 y5, .int .u32 wa, .int .u32 to, .slice A3 n c3, .slice B3 m d3] 29)) (.cells #[.int .i64 hop, .int .i64 hstage, .int .i64 hphase, .int .i64 hold, .int .i64 hsince, .int .i64 hleft, .bool hawoke, .bool hstarve, .int .i64 hneed, .bool hfront] 31)
      rw [show (w8.alloc (.cells #[.int .i64 kd, .int .i64 y0, .int .i64 o1, .int .i64 o2, .int .i64 o3, .int .i64 y4, .int .i64 y5, .int .u32 wa, .int .u32 to, .slice A3 n c3, .slice B3 m d3] 29)).heap.size = w8.heap.size + 1 by simp [Nat.add_assoc]] at h0
      rw [← hw9]
      rw [heap_alloc_old _ _ (by simp <;> omega)]; exact h0
    have hv2 : w9.heap[w8.heap.size + 2]? = some (.cells #[.bool hdn, .bool false, .bool hhd, .int .i64 hgv, .int .i64 hft, .int .u64 0, .slice WA wn wc] 38) := by
      have h0 := heap_alloc_new ((w8.alloc (.cells #[.int .i64 kd, .int .i64 y0, .int .i64 o1, .int .i64 o2, .int .i64 o3, .int .i64 y4, .int .i64 y5, .int .u32 wa, .int .u32 to, .slice A3 n c3, .slice B3 m d3] 29)).alloc (.cells #[.int .i64 hop, .int .i64 hstage, .int .i64 hphase, .int .i64 hold, .int .i64 hsince, .int .i64 hleft, .bool hawoke, .bool hstarve, .int .i64 hneed, .bool hfront] 31)) (.cells #[.bool hdn, .bool false, .bool hhd, .int .i64 hgv, .int .i64 hft, .int .u64 0, .slice WA wn wc] 38)
      rw [show ((w8.alloc (.cells #[.int .i64 kd, .int .i64 y0, .int .i64 o1, .int .i64 o2, .int .i64 o3, .int .i64 y4, .int .i64 y5, .int .u32 wa, .int .u32 to, .slice A3 n c3, .slice B3 m d3] 29)).alloc (.cells #[.int .i64 hop, .int .i64 hstage, .int .i64 hphase, .int .i64 hold, .int .i64 hsince, .int .i64 hleft, .bool hawoke, .bool hstarve, .int .i64 hneed, .bool hfront] 31)).heap.size = w8.heap.size + 2 by simp [Nat.add_assoc]] at h0
      rw [← hw9]
      exact h0
    replace Vo := Lib.hid (blk_below Vo.out hb (blk_lt Vo.out))
    replace Vf := Lib.hid (blk_below Vf.out hb (blk_lt Vf.out))
    replace Vt := Lib.hid (blk_below Vt.out hb (blk_lt Vt.out))
    replace Vx := Lib.hid (blk_below Vx.out hb (blk_lt Vx.out))
    replace Vg := Lib.hid (blk_below Vg.out hb (blk_lt Vg.out))
    replace Va := Lib.hid (blk_below Va.out hb (blk_lt Va.out))
    replace Vy := Lib.hid (blk_below Vy.out hb (blk_lt Vy.out))
    replace Vh := Lib.hid (blk_below Vh.out hb (blk_lt Vh.out))
    replace Vb := Lib.hid (blk_below Vb.out hb (blk_lt Vb.out))
    replace RX := Lib.hid (Es.below RX.out hb)
    replace RY := Lib.hid (Es.below RY.out hb)
    replace ON2 := Lib.hid (own_below ON2.out hb)
    replace OL2 := Lib.hid (own_below OL2.out hb)
    replace ON3 := Lib.hid (own_below ON3.out hb)
    replace OL3 := Lib.hid (own_below OL3.out hb)
    replace HB := Lib.hid (And.intro (HB.out.1.trans (hb.mono HB.out.2)) (Nat.le_trans HB.out.2 hb.size))
    have Vp := Lib.hid hv0
    have neo_p := Nat.ne_of_lt lto
    have nef_p := Nat.ne_of_lt ltf
    have net_p := Nat.ne_of_lt ltt
    have nex_p := Nat.ne_of_lt ltx
    have neg_p := Nat.ne_of_lt ltg
    have nea_p := Nat.ne_of_lt lta
    have ney_p := Nat.ne_of_lt lty
    have neh_p := Nat.ne_of_lt lth
    have neb_p := Nat.ne_of_lt ltb
    have gep := gq
    have Vi := Lib.hid hv1
    have neo_i := Nat.ne_of_lt (Nat.lt_of_lt_of_le lto (Nat.le_add_right w8.heap.size 1))
    have nef_i := Nat.ne_of_lt (Nat.lt_of_lt_of_le ltf (Nat.le_add_right w8.heap.size 1))
    have net_i := Nat.ne_of_lt (Nat.lt_of_lt_of_le ltt (Nat.le_add_right w8.heap.size 1))
    have nex_i := Nat.ne_of_lt (Nat.lt_of_lt_of_le ltx (Nat.le_add_right w8.heap.size 1))
    have neg_i := Nat.ne_of_lt (Nat.lt_of_lt_of_le ltg (Nat.le_add_right w8.heap.size 1))
    have nea_i := Nat.ne_of_lt (Nat.lt_of_lt_of_le lta (Nat.le_add_right w8.heap.size 1))
    have ney_i := Nat.ne_of_lt (Nat.lt_of_lt_of_le lty (Nat.le_add_right w8.heap.size 1))
    have neh_i := Nat.ne_of_lt (Nat.lt_of_lt_of_le lth (Nat.le_add_right w8.heap.size 1))
    have neb_i := Nat.ne_of_lt (Nat.lt_of_lt_of_le ltb (Nat.le_add_right w8.heap.size 1))
    have nep_i : w8.heap.size ≠ w8.heap.size + 1 := by omega
    have gei : _ ≤ w8.heap.size + 1 := Nat.le_trans gq (Nat.le_add_right _ 1)
    have Vc := Lib.hid hv2
    have neo_c := Nat.ne_of_lt (Nat.lt_of_lt_of_le lto (Nat.le_add_right w8.heap.size 2))
    have nef_c := Nat.ne_of_lt (Nat.lt_of_lt_of_le ltf (Nat.le_add_right w8.heap.size 2))
    have net_c := Nat.ne_of_lt (Nat.lt_of_lt_of_le ltt (Nat.le_add_right w8.heap.size 2))
    have nex_c := Nat.ne_of_lt (Nat.lt_of_lt_of_le ltx (Nat.le_add_right w8.heap.size 2))
    have neg_c := Nat.ne_of_lt (Nat.lt_of_lt_of_le ltg (Nat.le_add_right w8.heap.size 2))
    have nea_c := Nat.ne_of_lt (Nat.lt_of_lt_of_le lta (Nat.le_add_right w8.heap.size 2))
    have ney_c := Nat.ne_of_lt (Nat.lt_of_lt_of_le lty (Nat.le_add_right w8.heap.size 2))
    have neh_c := Nat.ne_of_lt (Nat.lt_of_lt_of_le lth (Nat.le_add_right w8.heap.size 2))
    have neb_c := Nat.ne_of_lt (Nat.lt_of_lt_of_le ltb (Nat.le_add_right w8.heap.size 2))
    have nep_c : w8.heap.size ≠ w8.heap.size + 2 := by omega
    have nei_c : w8.heap.size + 1 ≠ w8.heap.size + 2 := by omega
    have gec : _ ≤ w8.heap.size + 2 := Nat.le_trans gq (Nat.le_add_right _ 2)
    generalize hsp : w8.heap.size = sp at *
    clear hb gq hv0 hv1 hv2 lto ltf ltt ltx ltg lta lty lth ltb
    have co := row11 Vo.out
    have cf := row10 Vf.out
    have ct := row2 Vt.out
    go_wp2_with fail
    refine (M2.out _).mono ?_
    rintro e w10 ⟨rfl, hb⟩
    clear co cf ct
    replace Vo := Lib.hid (blk_below Vo.out hb (blk_lt Vo.out))
    replace Vf := Lib.hid (blk_below Vf.out hb (blk_lt Vf.out))
    replace Vt := Lib.hid (blk_below Vt.out hb (blk_lt Vt.out))
    replace Vx := Lib.hid (blk_below Vx.out hb (blk_lt Vx.out))
    replace Vg := Lib.hid (blk_below Vg.out hb (blk_lt Vg.out))
    replace Va := Lib.hid (blk_below Va.out hb (blk_lt Va.out))
    replace Vy := Lib.hid (blk_below Vy.out hb (blk_lt Vy.out))
    replace Vh := Lib.hid (blk_below Vh.out hb (blk_lt Vh.out))
    replace Vb := Lib.hid (blk_below Vb.out hb (blk_lt Vb.out))
    replace Vp := Lib.hid (blk_below Vp.out hb (blk_lt Vp.out))
    replace Vi := Lib.hid (blk_below Vi.out hb (blk_lt Vi.out))
    replace Vc := Lib.hid (blk_below Vc.out hb (blk_lt Vc.out))
    replace RX := Lib.hid (Es.below RX.out hb)
    replace RY := Lib.hid (Es.below RY.out hb)
    replace ON2 := Lib.hid (own_below ON2.out hb)
    replace OL2 := Lib.hid (own_below OL2.out hb)
    replace ON3 := Lib.hid (own_below ON3.out hb)
    replace OL3 := Lib.hid (own_below OL3.out hb)
    replace HB := Lib.hid (And.intro (HB.out.1.trans (hb.mono HB.out.2)) (Nat.le_trans HB.out.2 hb.size))
    clear hb
    have lto := blk_lt Vo.out
    have ltf := blk_lt Vf.out
    have ltt := blk_lt Vt.out
    have ltx := blk_lt Vx.out
    have ltg := blk_lt Vg.out
    have lta := blk_lt Va.out
    have lty := blk_lt Vy.out
    have lth := blk_lt Vh.out
    have ltb := blk_lt Vb.out
    have ltp := blk_lt Vp.out
    have lti := blk_lt Vi.out
    have ltc := blk_lt Vc.out
    have gq := HB.out.2
    obtain ⟨w11, hw11⟩ : ∃ W, (((w10.alloc (.cells #[.int .i64 kd, .int .i64 y0, .int .i64 o1, .int .i64 o2, .int .i64 o3, .int .i64 y4, .int .i64 y5, .int .u32 wa, .int .u32 to, .slice A n c, .slice B m d] 29)).alloc (.cells #[.int .i64 hop, .int .i64 hstage, .int .i64 hphase, .int .i64 hold, .int .i64 hsince, .int .i64 hleft, .bool hawoke, .bool hstarve, .int .i64 hneed, .bool hfront] 31)).alloc (.cells #[.bool hdn, .bool false, .bool hhd, .int .i64 hgv, .int .i64 hft, .int .u64 0, .slice WA wn wc] 38)) = W := ⟨_, rfl⟩
    have hb : Below w10.heap.size w10 w11 := hw11 ▸ ((((Below.refl _ _).alloc (Nat.le_refl _) _).alloc (by first | (simp; done) | (simp; omega)) _).alloc (by first | (simp; done) | (simp; omega)) _)
    have hv0 : w11.heap[w10.heap.size]? = some (.cells #[.int .i64 kd, .int .i64 y0, .int .i64 o1, .int .i64 o2, .int .i64 o3, .int .i64 y4, .int .i64 y5, .int .u32 wa, .int .u32 to, .slice A n c, .slice B m d] 29) := by
      have h0 := heap_alloc_new w10 (.cells #[.int .i64 kd, .int .i64 y0, .int .i64 o1, .int .i64 o2, .int .i64 o3, .int .i64 y4, .int .i64 y5, .int .u32 wa, .int .u32 to, .slice A n c, .slice B m d] 29)
      rw [show w10.heap.size = w10.heap.size by simp [Nat.add_assoc]] at h0
      rw [← hw11]
      rw [heap_alloc_old _ _ (by simp <;> omega), heap_alloc_old _ _ (by simp <;> omega)]; exact h0
    have hv1 : w11.heap[w10.heap.size + 1]? = some (.cells #[.int .i64 hop, .int .i64 hstage, .int .i64 hphase, .int .i64 hold, .int .i64 hsince, .int .i64 hleft, .bool hawoke, .bool hstarve, .int .i64 hneed, .bool hfront] 31) := by
      have h0 := heap_alloc_new (w10.alloc (.cells #[.int .i64 kd, .int .i64 y0, .int .i64 o1, .int .i64 o2, .int .i64 o3, .int .i64 y4, .int .i64 y5, .int .u32 wa, .int .u32 to, .slice A n c, .slice B m d] 29)) (.cells #[.int .i64 hop, .int .i64 hstage, .int .i64 hphase, .int .i64 hold, .int .i64 hsince, .int .i64 hleft, .bool hawoke, .bool hstarve, .int .i64 hneed, .bool hfront] 31)
      rw [show (w10.alloc (.cells #[.int .i64 kd, .int .i64 y0, .int .i64 o1, .int .i64 o2, .int .i64 o3, .int .i64 y4, .int .i64 y5, .int .u32 wa, .int .u32 to, .slice A n c, .slice B m d] 29)).heap.size = w10.heap.size + 1 by simp [Nat.add_assoc]] at h0
      rw [← hw11]
      rw [heap_alloc_old _ _ (by simp <;> omega)]; exact h0
    have hv2 : w11.heap[w10.heap.size + 2]? = some (.cells #[.bool hdn, .bool false, .bool hhd, .int .i64 hgv, .int .i64 hft, .int .u64 0, .slice WA wn wc] 38) := by
      have h0 := heap_alloc_new ((w10.alloc (.cells #[.int .i64 kd, .int .i64 y0, .int .i64 o1, .int .i64 o2, .int .i64 o3, .int .i64 y4, .int .i64 y5, .int .u32 wa, .int .u32 to, .slice A n c, .slice B m d] 29)).alloc (.cells #[.int .i64 hop, .int .i64 hstage, .int .i64 hphase, .int .i64 hold, .int .i64 hsince, .int .i64 hleft, .bool hawoke, .bool hstarve, .int .i64 hneed, .bool hfront] 31)) (.cells #[.bool hdn, .bool false, .bool hhd, .int .i64 hgv, .int .i64 hft, .int .u64 0, .slice WA wn wc] 38)
      rw [show ((w10.alloc (.cells #[.int .i64 kd, .int .i64 y0, .int .i64 o1, .int .i64 o2, .int .i64 o3, .int .i64 y4, .int .i64 y5, .int .u32 wa, .int .u32 to, .slice A n c, .slice B m d] 29)).alloc (.cells #[.int .i64 hop, .int .i64 hstage, .int .i64 hphase, .int .i64 hold, .int .i64 hsince, .int .i64 hleft, .bool hawoke, .bool hstarve, .int .i64 hneed, .bool hfront] 31)).heap.size = w10.heap.size + 2 by simp [Nat.add_assoc]] at h0
      rw [← hw11]
      exact h0
    replace Vo := Lib.hid (blk_below Vo.out hb (blk_lt Vo.out))
    replace Vf := Lib.hid (blk_below Vf.out hb (blk_lt Vf.out))
    replace Vt := Lib.hid (blk_below Vt.out hb (blk_lt Vt.out))
    replace Vx := Lib.hid (blk_below Vx.out hb (blk_lt Vx.out))
    replace Vg := Lib.hid (blk_below Vg.out hb (blk_lt Vg.out))
    replace Va := Lib.hid (blk_below Va.out hb (blk_lt Va.out))
    replace Vy := Lib.hid (blk_below Vy.out hb (blk_lt Vy.out))
    replace Vh := Lib.hid (blk_below Vh.out hb (blk_lt Vh.out))
    replace Vb := Lib.hid (blk_below Vb.out hb (blk_lt Vb.out))
    replace Vp := Lib.hid (blk_below Vp.out hb (blk_lt Vp.out))
    replace Vi := Lib.hid (blk_below Vi.out hb (blk_lt Vi.out))
    replace Vc := Lib.hid (blk_below Vc.out hb (blk_lt Vc.out))
    replace RX := Lib.hid (Es.below RX.out hb)
    replace RY := Lib.hid (Es.below RY.out hb)
    replace ON2 := Lib.hid (own_below ON2.out hb)
    replace OL2 := Lib.hid (own_below OL2.out hb)
    replace ON3 := Lib.hid (own_below ON3.out hb)
    replace OL3 := Lib.hid (own_below OL3.out hb)
    replace HB := Lib.hid (And.intro (HB.out.1.trans (hb.mono HB.out.2)) (Nat.le_trans HB.out.2 hb.size))
    have Vq := Lib.hid hv0
    have neo_q := Nat.ne_of_lt lto
    have nef_q := Nat.ne_of_lt ltf
    have net_q := Nat.ne_of_lt ltt
    have nex_q := Nat.ne_of_lt ltx
    have neg_q := Nat.ne_of_lt ltg
    have nea_q := Nat.ne_of_lt lta
    have ney_q := Nat.ne_of_lt lty
    have neh_q := Nat.ne_of_lt lth
    have neb_q := Nat.ne_of_lt ltb
    have nep_q := Nat.ne_of_lt ltp
    have nei_q := Nat.ne_of_lt lti
    have nec_q := Nat.ne_of_lt ltc
    have geq := gq
    have Vj := Lib.hid hv1
    have neo_j := Nat.ne_of_lt (Nat.lt_of_lt_of_le lto (Nat.le_add_right w10.heap.size 1))
    have nef_j := Nat.ne_of_lt (Nat.lt_of_lt_of_le ltf (Nat.le_add_right w10.heap.size 1))
    have net_j := Nat.ne_of_lt (Nat.lt_of_lt_of_le ltt (Nat.le_add_right w10.heap.size 1))
    have nex_j := Nat.ne_of_lt (Nat.lt_of_lt_of_le ltx (Nat.le_add_right w10.heap.size 1))
    have neg_j := Nat.ne_of_lt (Nat.lt_of_lt_of_le ltg (Nat.le_add_right w10.heap.size 1))
    have nea_j := Nat.ne_of_lt (Nat.lt_of_lt_of_le lta (Nat.le_add_right w10.heap.size 1))
    have ney_j := Nat.ne_of_lt (Nat.lt_of_lt_of_le lty (Nat.le_add_right w10.heap.size 1))
    have neh_j := Nat.ne_of_lt (Nat.lt_of_lt_of_le lth (Nat.le_add_right w10.heap.size 1))
    have neb_j := Nat.ne_of_lt (Nat.lt_of_lt_of_le ltb (Nat.le_add_right w10.heap.size 1))
    have nep_j := Nat.ne_of_lt (Nat.lt_of_lt_of_le ltp (Nat.le_add_right w10.heap.size 1))
    have nei_j := Nat.ne_of_lt (Nat.lt_of_lt_of_le lti (Nat.le_add_right w10.heap.size 1))
    have nec_j := Nat.ne_of_lt (Nat.lt_of_lt_of_le ltc (Nat.le_add_right w10.heap.size 1))
    have neq_j : w10.heap.size ≠ w10.heap.size + 1 := by omega
    have gej : _ ≤ w10.heap.size + 1 := Nat.le_trans gq (Nat.le_add_right _ 1)
    have Ve := Lib.hid hv2
    have neo_e := Nat.ne_of_lt (Nat.lt_of_lt_of_le lto (Nat.le_add_right w10.heap.size 2))
    have nef_e := Nat.ne_of_lt (Nat.lt_of_lt_of_le ltf (Nat.le_add_right w10.heap.size 2))
    have net_e := Nat.ne_of_lt (Nat.lt_of_lt_of_le ltt (Nat.le_add_right w10.heap.size 2))
    have nex_e := Nat.ne_of_lt (Nat.lt_of_lt_of_le ltx (Nat.le_add_right w10.heap.size 2))
    have neg_e := Nat.ne_of_lt (Nat.lt_of_lt_of_le ltg (Nat.le_add_right w10.heap.size 2))
    have nea_e := Nat.ne_of_lt (Nat.lt_of_lt_of_le lta (Nat.le_add_right w10.heap.size 2))
    have ney_e := Nat.ne_of_lt (Nat.lt_of_lt_of_le lty (Nat.le_add_right w10.heap.size 2))
    have neh_e := Nat.ne_of_lt (Nat.lt_of_lt_of_le lth (Nat.le_add_right w10.heap.size 2))
    have neb_e := Nat.ne_of_lt (Nat.lt_of_lt_of_le ltb (Nat.le_add_right w10.heap.size 2))
    have nep_e := Nat.ne_of_lt (Nat.lt_of_lt_of_le ltp (Nat.le_add_right w10.heap.size 2))
    have nei_e := Nat.ne_of_lt (Nat.lt_of_lt_of_le lti (Nat.le_add_right w10.heap.size 2))
    have nec_e := Nat.ne_of_lt (Nat.lt_of_lt_of_le ltc (Nat.le_add_right w10.heap.size 2))
    have neq_e : w10.heap.size ≠ w10.heap.size + 2 := by omega
    have nej_e : w10.heap.size + 1 ≠ w10.heap.size + 2 := by omega
    have gee : _ ≤ w10.heap.size + 2 := Nat.le_trans gq (Nat.le_add_right _ 2)
    generalize hsq : w10.heap.size = sq at *
    clear hb gq hv0 hv1 hv2 lto ltf ltt ltx ltg lta lty lth ltb ltp lti ltc
    have hf1 := fr_self16w gop gstage gphase gold gsince gleft gawoke gstarve gneed gfront
    have hf2 := fr_self16w hop hstage hphase hold hsince hleft hawoke hstarve hneed hfront
    have cx := row11 Vx.out
    have cy := row11 Vy.out
    go_wp2_with fail
    refine (OE1.out _ _ _ _ _ (own_wts ON2.out) (own_cls OL2.out) RX.out RY.out).mono ?_
    rintro e w12 ⟨rfl, hb⟩
    clear cx cy
    replace Vo := Lib.hid (blk_below Vo.out hb (blk_lt Vo.out))
    replace Vf := Lib.hid (blk_below Vf.out hb (blk_lt Vf.out))
    replace Vt := Lib.hid (blk_below Vt.out hb (blk_lt Vt.out))
    replace Vx := Lib.hid (blk_below Vx.out hb (blk_lt Vx.out))
    replace Vg := Lib.hid (blk_below Vg.out hb (blk_lt Vg.out))
    replace Va := Lib.hid (blk_below Va.out hb (blk_lt Va.out))
    replace Vy := Lib.hid (blk_below Vy.out hb (blk_lt Vy.out))
    replace Vh := Lib.hid (blk_below Vh.out hb (blk_lt Vh.out))
    replace Vb := Lib.hid (blk_below Vb.out hb (blk_lt Vb.out))
    replace Vp := Lib.hid (blk_below Vp.out hb (blk_lt Vp.out))
    replace Vi := Lib.hid (blk_below Vi.out hb (blk_lt Vi.out))
    replace Vc := Lib.hid (blk_below Vc.out hb (blk_lt Vc.out))
    replace Vq := Lib.hid (blk_below Vq.out hb (blk_lt Vq.out))
    replace Vj := Lib.hid (blk_below Vj.out hb (blk_lt Vj.out))
    replace Ve := Lib.hid (blk_below Ve.out hb (blk_lt Ve.out))
    replace RX := Lib.hid (Es.below RX.out hb)
    replace RY := Lib.hid (Es.below RY.out hb)
    replace ON2 := Lib.hid (own_below ON2.out hb)
    replace OL2 := Lib.hid (own_below OL2.out hb)
    replace ON3 := Lib.hid (own_below ON3.out hb)
    replace OL3 := Lib.hid (own_below OL3.out hb)
    replace HB := Lib.hid (And.intro (HB.out.1.trans (hb.mono HB.out.2)) (Nat.le_trans HB.out.2 hb.size))
    clear hb
    have cg := row10 Vg.out
    have ch := row10 Vh.out
    have ca := row7 Va.out
    have cb := row7 Vb.out
    go_wp2_with fail
    refine (AE1.out _).mono ?_
    rintro e w13 ⟨rfl, hb⟩
    clear cg ch ca cb
    replace Vo := Lib.hid (blk_below Vo.out hb (blk_lt Vo.out))
    replace Vf := Lib.hid (blk_below Vf.out hb (blk_lt Vf.out))
    replace Vt := Lib.hid (blk_below Vt.out hb (blk_lt Vt.out))
    replace Vx := Lib.hid (blk_below Vx.out hb (blk_lt Vx.out))
    replace Vg := Lib.hid (blk_below Vg.out hb (blk_lt Vg.out))
    replace Va := Lib.hid (blk_below Va.out hb (blk_lt Va.out))
    replace Vy := Lib.hid (blk_below Vy.out hb (blk_lt Vy.out))
    replace Vh := Lib.hid (blk_below Vh.out hb (blk_lt Vh.out))
    replace Vb := Lib.hid (blk_below Vb.out hb (blk_lt Vb.out))
    replace Vp := Lib.hid (blk_below Vp.out hb (blk_lt Vp.out))
    replace Vi := Lib.hid (blk_below Vi.out hb (blk_lt Vi.out))
    replace Vc := Lib.hid (blk_below Vc.out hb (blk_lt Vc.out))
    replace Vq := Lib.hid (blk_below Vq.out hb (blk_lt Vq.out))
    replace Vj := Lib.hid (blk_below Vj.out hb (blk_lt Vj.out))
    replace Ve := Lib.hid (blk_below Ve.out hb (blk_lt Ve.out))
    replace RX := Lib.hid (Es.below RX.out hb)
    replace RY := Lib.hid (Es.below RY.out hb)
    replace ON2 := Lib.hid (own_below ON2.out hb)
    replace OL2 := Lib.hid (own_below OL2.out hb)
    replace ON3 := Lib.hid (own_below ON3.out hb)
    replace OL3 := Lib.hid (own_below OL3.out hb)
    replace HB := Lib.hid (And.intro (HB.out.1.trans (hb.mono HB.out.2)) (Nat.le_trans HB.out.2 hb.size))
    clear hb
    have cp := row11 Vp.out
    have cq := row11 Vq.out
    go_wp2_with fail
    refine (OE2.out _ _ _ _ _ (own_wts ON3.out) (own_cls OL3.out) RX.out RY.out).mono ?_
    rintro e w14 ⟨rfl, hb⟩
    clear cp cq
    replace Vo := Lib.hid (blk_below Vo.out hb (blk_lt Vo.out))
    replace Vf := Lib.hid (blk_below Vf.out hb (blk_lt Vf.out))
    replace Vt := Lib.hid (blk_below Vt.out hb (blk_lt Vt.out))
    replace Vx := Lib.hid (blk_below Vx.out hb (blk_lt Vx.out))
    replace Vg := Lib.hid (blk_below Vg.out hb (blk_lt Vg.out))
    replace Va := Lib.hid (blk_below Va.out hb (blk_lt Va.out))
    replace Vy := Lib.hid (blk_below Vy.out hb (blk_lt Vy.out))
    replace Vh := Lib.hid (blk_below Vh.out hb (blk_lt Vh.out))
    replace Vb := Lib.hid (blk_below Vb.out hb (blk_lt Vb.out))
    replace Vp := Lib.hid (blk_below Vp.out hb (blk_lt Vp.out))
    replace Vi := Lib.hid (blk_below Vi.out hb (blk_lt Vi.out))
    replace Vc := Lib.hid (blk_below Vc.out hb (blk_lt Vc.out))
    replace Vq := Lib.hid (blk_below Vq.out hb (blk_lt Vq.out))
    replace Vj := Lib.hid (blk_below Vj.out hb (blk_lt Vj.out))
    replace Ve := Lib.hid (blk_below Ve.out hb (blk_lt Ve.out))
    replace RX := Lib.hid (Es.below RX.out hb)
    replace RY := Lib.hid (Es.below RY.out hb)
    replace ON2 := Lib.hid (own_below ON2.out hb)
    replace OL2 := Lib.hid (own_below OL2.out hb)
    replace ON3 := Lib.hid (own_below ON3.out hb)
    replace OL3 := Lib.hid (own_below OL3.out hb)
    replace HB := Lib.hid (And.intro (HB.out.1.trans (hb.mono HB.out.2)) (Nat.le_trans HB.out.2 hb.size))
    clear hb
    have ci := row10 Vi.out
    have cj := row10 Vj.out
    have cc := row7 Vc.out
    have ce := row7 Ve.out
    go_wp2_with fail
    refine (AE2.out _).mono ?_
    rintro e w15 ⟨rfl, hb⟩
    clear ci cj cc ce
    replace Vo := Lib.hid (blk_below Vo.out hb (blk_lt Vo.out))
    replace Vf := Lib.hid (blk_below Vf.out hb (blk_lt Vf.out))
    replace Vt := Lib.hid (blk_below Vt.out hb (blk_lt Vt.out))
    replace Vx := Lib.hid (blk_below Vx.out hb (blk_lt Vx.out))
    replace Vg := Lib.hid (blk_below Vg.out hb (blk_lt Vg.out))
    replace Va := Lib.hid (blk_below Va.out hb (blk_lt Va.out))
    replace Vy := Lib.hid (blk_below Vy.out hb (blk_lt Vy.out))
    replace Vh := Lib.hid (blk_below Vh.out hb (blk_lt Vh.out))
    replace Vb := Lib.hid (blk_below Vb.out hb (blk_lt Vb.out))
    replace Vp := Lib.hid (blk_below Vp.out hb (blk_lt Vp.out))
    replace Vi := Lib.hid (blk_below Vi.out hb (blk_lt Vi.out))
    replace Vc := Lib.hid (blk_below Vc.out hb (blk_lt Vc.out))
    replace Vq := Lib.hid (blk_below Vq.out hb (blk_lt Vq.out))
    replace Vj := Lib.hid (blk_below Vj.out hb (blk_lt Vj.out))
    replace Ve := Lib.hid (blk_below Ve.out hb (blk_lt Ve.out))
    replace RX := Lib.hid (Es.below RX.out hb)
    replace RY := Lib.hid (Es.below RY.out hb)
    replace ON2 := Lib.hid (own_below ON2.out hb)
    replace OL2 := Lib.hid (own_below OL2.out hb)
    replace ON3 := Lib.hid (own_below ON3.out hb)
    replace OL3 := Lib.hid (own_below OL3.out hb)
    replace HB := Lib.hid (And.intro (HB.out.1.trans (hb.mono HB.out.2)) (Nat.le_trans HB.out.2 hb.size))
    clear hb
    have co := row11 Vo.out
    go_wp2
    go_ret
    exact ⟨rfl, HB.out.1⟩
end Go.Proofs.Ytpkegfochfkkcaa
