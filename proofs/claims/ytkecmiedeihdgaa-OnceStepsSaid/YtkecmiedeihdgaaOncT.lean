/- The walk of OnceSteps: it answers true, over any world; a condition: word 0 is within 64 bits. -/
import Derived.Test.YtkecmiedeihdgaaOncS
namespace Go.Proofs.Ytkecmiedeihdgaa
set_option linter.unusedVariables false
set_option linter.unusedSimpArgs false
open Go.RowKit
theorem fr_self18 (op stage phase old since left : Int) (awoke starve : Bool) (need : Int) (front : Bool) (W : World) : (binOp .eql 31 (.agg #[.int .i64 op, .int .i64 stage, .int .i64 phase, .int .i64 old, .int .i64 since, .int .i64 left, .bool awoke, .bool starve, .int .i64 need, .bool front]) (.agg #[.int .i64 op, .int .i64 stage, .int .i64 phase, .int .i64 old, .int .i64 since, .int .i64 left, .bool awoke, .bool starve, .int .i64 need, .bool front])).run Try.prog W = .ok (.bool true) W := by
  go_simp
set_option maxRecDepth 100000 in
set_option maxHeartbeats 16000000 in
theorem steps18_walk (kd o0 o1 o2 o3 o4 o5 wa to : Int) (A : Option Addr) (n c : Nat) (B : Option Addr) (m d : Nat) (nl : List Wt) (ll : List Cl) (op stage phase old since left : Int) (awoke starve : Bool) (need : Int) (front : Bool) (x0 x1 : Int) (hr : IntKind.i64.wrap o0 = o0) (w : World) (hx : Wts w A n c nl) (hy : Cls w B m d ll) :
    Calls Try.prog 3 #[obV kd o0 o1 o2 o3 o4 o5 wa to A n c B m d, frV ⟨op, stage, phase, old, since, left, awoke, starve, need, front⟩, .agg #[.int .i64 x0, .int .i64 x1]] w fun e w' => e = .returned (.bool true) ∧ Below w.heap.size w w' := by
  have RX := Lib.hid hx; have RY := Lib.hid hy
  clear hx hy
  unfold obV frV frC
  simp only
  have HB := Lib.hid (And.intro (Below.refl w.heap.size w) (Nat.le_refl w.heap.size))
  have gq := HB.out.2
  obtain ⟨w1, hw1⟩ : ∃ W, (((w.alloc (.cells #[.int .i64 kd, .int .i64 o0, .int .i64 o1, .int .i64 o2, .int .i64 o3, .int .i64 o4, .int .i64 o5, .int .u32 wa, .int .u32 to, .slice A n c, .slice B m d] 29)).alloc (.cells #[.int .i64 op, .int .i64 stage, .int .i64 phase, .int .i64 old, .int .i64 since, .int .i64 left, .bool awoke, .bool starve, .int .i64 need, .bool front] 31)).alloc (.cells #[.int .i64 x0, .int .i64 x1] 32)) = W := ⟨_, rfl⟩
  have hb : Below w.heap.size w w1 := hw1 ▸ ((((Below.refl _ _).alloc (Nat.le_refl _) _).alloc (by first | (simp; done) | (simp; omega)) _).alloc (by first | (simp; done) | (simp; omega)) _)
  have hv0 : w1.heap[w.heap.size]? = some (.cells #[.int .i64 kd, .int .i64 o0, .int .i64 o1, .int .i64 o2, .int .i64 o3, .int .i64 o4, .int .i64 o5, .int .u32 wa, .int .u32 to, .slice A n c, .slice B m d] 29) := by
    have h0 := heap_alloc_new w (.cells #[.int .i64 kd, .int .i64 o0, .int .i64 o1, .int .i64 o2, .int .i64 o3, .int .i64 o4, .int .i64 o5, .int .u32 wa, .int .u32 to, .slice A n c, .slice B m d] 29)
    rw [show w.heap.size = w.heap.size by simp [Nat.add_assoc]] at h0
    rw [← hw1]
    rw [heap_alloc_old _ _ (by simp <;> omega), heap_alloc_old _ _ (by simp <;> omega)]; exact h0
  have hv1 : w1.heap[w.heap.size + 1]? = some (.cells #[.int .i64 op, .int .i64 stage, .int .i64 phase, .int .i64 old, .int .i64 since, .int .i64 left, .bool awoke, .bool starve, .int .i64 need, .bool front] 31) := by
    have h0 := heap_alloc_new (w.alloc (.cells #[.int .i64 kd, .int .i64 o0, .int .i64 o1, .int .i64 o2, .int .i64 o3, .int .i64 o4, .int .i64 o5, .int .u32 wa, .int .u32 to, .slice A n c, .slice B m d] 29)) (.cells #[.int .i64 op, .int .i64 stage, .int .i64 phase, .int .i64 old, .int .i64 since, .int .i64 left, .bool awoke, .bool starve, .int .i64 need, .bool front] 31)
    rw [show (w.alloc (.cells #[.int .i64 kd, .int .i64 o0, .int .i64 o1, .int .i64 o2, .int .i64 o3, .int .i64 o4, .int .i64 o5, .int .u32 wa, .int .u32 to, .slice A n c, .slice B m d] 29)).heap.size = w.heap.size + 1 by simp [Nat.add_assoc]] at h0
    rw [← hw1]
    rw [heap_alloc_old _ _ (by simp <;> omega)]; exact h0
  have hv2 : w1.heap[w.heap.size + 2]? = some (.cells #[.int .i64 x0, .int .i64 x1] 32) := by
    have h0 := heap_alloc_new ((w.alloc (.cells #[.int .i64 kd, .int .i64 o0, .int .i64 o1, .int .i64 o2, .int .i64 o3, .int .i64 o4, .int .i64 o5, .int .u32 wa, .int .u32 to, .slice A n c, .slice B m d] 29)).alloc (.cells #[.int .i64 op, .int .i64 stage, .int .i64 phase, .int .i64 old, .int .i64 since, .int .i64 left, .bool awoke, .bool starve, .int .i64 need, .bool front] 31)) (.cells #[.int .i64 x0, .int .i64 x1] 32)
    rw [show ((w.alloc (.cells #[.int .i64 kd, .int .i64 o0, .int .i64 o1, .int .i64 o2, .int .i64 o3, .int .i64 o4, .int .i64 o5, .int .u32 wa, .int .u32 to, .slice A n c, .slice B m d] 29)).alloc (.cells #[.int .i64 op, .int .i64 stage, .int .i64 phase, .int .i64 old, .int .i64 since, .int .i64 left, .bool awoke, .bool starve, .int .i64 need, .bool front] 31)).heap.size = w.heap.size + 2 by simp [Nat.add_assoc]] at h0
    rw [← hw1]
    exact h0
  replace RX := Lib.hid (Es.below RX.out hb)
  replace RY := Lib.hid (Es.below RY.out hb)
  replace HB := Lib.hid (And.intro (HB.out.1.trans (hb.mono HB.out.2)) (Nat.le_trans HB.out.2 hb.size))
  have Vo := Lib.hid hv0
  have geo := gq
  have Vf := Lib.hid hv1
  have neo_f : w.heap.size ≠ w.heap.size + 1 := by omega
  have gef : _ ≤ w.heap.size + 1 := Nat.le_trans gq (Nat.le_add_right _ 1)
  have Vt := Lib.hid hv2
  have neo_t : w.heap.size ≠ w.heap.size + 2 := by omega
  have nef_t : w.heap.size + 1 ≠ w.heap.size + 2 := by omega
  have get : _ ≤ w.heap.size + 2 := Nat.le_trans gq (Nat.le_add_right _ 2)
  generalize hso : w.heap.size = so at *
  clear hb gq hv0 hv1 hv2
  subst hso
  have AL := Lib.hid alive18
  by_cases h0 : 20 < n ∨ 20 < m
  · have g2 := Lib.hid (fun (W : World) => great15_yes kd o0 o1 o2 o3 o4 o5 wa to A n c B m d W h0)
    clear h0
    go_enter Try.func3, Try.ntmps3
    go_wp2_with fail
    refine (AL.out _).mono ?_
    rintro e w2 ⟨rfl, hb⟩
    replace Vo := Lib.hid (blk_below Vo.out hb (blk_lt Vo.out))
    replace Vf := Lib.hid (blk_below Vf.out hb (blk_lt Vf.out))
    replace Vt := Lib.hid (blk_below Vt.out hb (blk_lt Vt.out))
    replace RX := Lib.hid (Es.below RX.out hb)
    replace RY := Lib.hid (Es.below RY.out hb)
    replace HB := Lib.hid (And.intro (HB.out.1.trans (hb.mono HB.out.2)) (Nat.le_trans HB.out.2 hb.size))
    clear hb
    have co := row11 Vo.out
    go_wp2_with fail
    refine (g2.out _).mono ?_
    rintro e w3 ⟨rfl, hb⟩
    clear co
    replace Vo := Lib.hid (blk_below Vo.out hb (blk_lt Vo.out))
    replace Vf := Lib.hid (blk_below Vf.out hb (blk_lt Vf.out))
    replace Vt := Lib.hid (blk_below Vt.out hb (blk_lt Vt.out))
    replace RX := Lib.hid (Es.below RX.out hb)
    replace RY := Lib.hid (Es.below RY.out hb)
    replace HB := Lib.hid (And.intro (HB.out.1.trans (hb.mono HB.out.2)) (Nat.le_trans HB.out.2 hb.size))
    clear hb
    go_wp2
    go_ret
    exact ⟨rfl, HB.out.1⟩
  · have hn : n ≤ 16384 := by omega
    have hm : m ≤ 16384 := by omega
    have g2 := Lib.hid (fun (W : World) => great15_no kd o0 o1 o2 o3 o4 o5 wa to A n c B m d W h0)
    clear h0
    obtain ⟨WA, wn, wc, hwk⟩ : ∃ (X : Option Addr) (i j : Nat), (Value.slice X i j) = .slice none 0 0 := ⟨_, _, _, rfl⟩
    obtain ⟨⟨⟨z0, z2⟩, ⟨gop, gstage, gphase, gold, gsince, gleft, gawoke, gstarve, gneed, gfront⟩, ⟨gdn, ggv, ghd, gft⟩, gvl⟩, hr1⟩ : ∃ r, onceW o0 o2 ⟨op, stage, phase, old, since, left, awoke, starve, need, front⟩ x0 x1 = r := ⟨_, rfl⟩
    have L1 := Lib.hid (show ∀ (W : World), Wts W A n c nl → Cls W B m d ll → Calls Try.prog 7 #[.agg #[.int .i64 kd, .int .i64 o0, .int .i64 o1, .int .i64 o2, .int .i64 o3, .int .i64 o4, .int .i64 o5, .int .u32 wa, .int .u32 to, .slice A n c, .slice B m d], .agg #[.int .i64 op, .int .i64 stage, .int .i64 phase, .int .i64 old, .int .i64 since, .int .i64 left, .bool awoke, .bool starve, .int .i64 need, .bool front], .int .i64 x0, .int .i64 x1] W (fun e w' => ∃ A2 c2 B2 d2, e = .returned (.tuple #[.agg #[.int .i64 kd, .int .i64 z0, .int .i64 o1, .int .i64 z2, .int .i64 o3, .int .i64 o4, .int .i64 o5, .int .u32 wa, .int .u32 to, .slice A2 n c2, .slice B2 m d2], .agg #[.int .i64 gop, .int .i64 gstage, .int .i64 gphase, .int .i64 gold, .int .i64 gsince, .int .i64 gleft, .bool gawoke, .bool gstarve, .int .i64 gneed, .bool gfront], .agg #[.bool gdn, .bool false, .bool ghd, .int .i64 ggv, .int .i64 gft, .int .u64 gvl, .slice WA wn wc]]) ∧ w'.ownsRow W.heap.size 60 2 (.slice A2 n c2) n (wtC nl) ∧ w'.ownsRow W.heap.size 56 2 (.slice B2 m d2) m (clC ll) ∧ Below W.heap.size W w') from fun W h1 h2 => by
      have h := onOnce_any kd o0 o1 o2 o3 o4 o5 wa to A n c B m d nl ll ⟨op, stage, phase, old, since, left, awoke, starve, need, front⟩ x0 x1 W h1 h2 hn hm hr
      rw [hr1] at h
      rw [hwk]
      refine h.mono ?_
      rintro e w' ⟨A2, c2, B2, d2, he, k1, k2, hb, _, _⟩
      exact ⟨A2, c2, B2, d2, he, k1, k2, hb⟩)
    have M1 := Lib.hid (show ∀ W : World, Calls Try.prog 8 #[.agg #[.int .i64 kd, .int .i64 o0, .int .i64 o1, .int .i64 o2, .int .i64 o3, .int .i64 o4, .int .i64 o5, .int .u32 wa, .int .u32 to, .slice A n c, .slice B m d], .agg #[.int .i64 op, .int .i64 stage, .int .i64 phase, .int .i64 old, .int .i64 since, .int .i64 left, .bool awoke, .bool starve, .int .i64 need, .bool front], .int .i64 x0, .int .i64 x1] W (fun e w' => e = .returned (.tuple #[.agg #[.int .i64 kd, .int .i64 z0, .int .i64 o1, .int .i64 z2, .int .i64 o3, .int .i64 o4, .int .i64 o5, .int .u32 wa, .int .u32 to, .slice A n c, .slice B m d], .agg #[.int .i64 gop, .int .i64 gstage, .int .i64 gphase, .int .i64 gold, .int .i64 gsince, .int .i64 gleft, .bool gawoke, .bool gstarve, .int .i64 gneed, .bool gfront], .agg #[.bool gdn, .bool false, .bool ghd, .int .i64 ggv, .int .i64 gft, .int .u64 gvl, .slice WA wn wc]]) ∧ Below W.heap.size W w') from fun W => by have h := once18_any kd o0 o1 o2 o3 o4 o5 wa to A n c B m d ⟨op, stage, phase, old, since, left, awoke, starve, need, front⟩ x0 x1 W; rw [hr1] at h; rw [hwk]; exact h)
    have OE1 := Lib.hid (fun (A2 : Option Addr) (c2 : Nat) (B2 : Option Addr) (d2 : Nat) (W : World) (h1 : Wts W A2 n c2 nl) (h2 : Cls W B2 m d2 ll) (h3 : Wts W A n c nl) (h4 : Cls W B m d ll) => obj15_eq2 kd z0 o1 z2 o3 o4 o5 wa to A2 n c2 B2 m d2 A c B d nl ll W h1 h2 h3 h4 hn hm)
    have AE1 := Lib.hid (show ∀ W : World, Calls Try.prog 12 #[.agg #[.bool gdn, .bool false, .bool ghd, .int .i64 ggv, .int .i64 gft, .int .u64 gvl, .slice WA wn wc], .agg #[.bool gdn, .bool false, .bool ghd, .int .i64 ggv, .int .i64 gft, .int .u64 gvl, .slice WA wn wc]] W (YesS W true) from fun W => by rw [hwk]; exact act15_eq gdn false ghd ggv gft gvl W)
    obtain ⟨⟨⟨y0, y2⟩, ⟨hop, hstage, hphase, hold, hsince, hleft, hawoke, hstarve, hneed, hfront⟩, ⟨hdn, hgv, hhd, hft⟩, hvl⟩, hr2⟩ : ∃ r, endW o0 o2 ⟨op, stage, phase, old, since, left, awoke, starve, need, front⟩ = r := ⟨_, rfl⟩
    have L2 := Lib.hid (show ∀ (W : World), Wts W A n c nl → Cls W B m d ll → Calls Try.prog 9 #[.agg #[.int .i64 kd, .int .i64 o0, .int .i64 o1, .int .i64 o2, .int .i64 o3, .int .i64 o4, .int .i64 o5, .int .u32 wa, .int .u32 to, .slice A n c, .slice B m d], .agg #[.int .i64 op, .int .i64 stage, .int .i64 phase, .int .i64 old, .int .i64 since, .int .i64 left, .bool awoke, .bool starve, .int .i64 need, .bool front]] W (fun e w' => ∃ A2 c2 B2 d2, e = .returned (.tuple #[.agg #[.int .i64 kd, .int .i64 y0, .int .i64 o1, .int .i64 y2, .int .i64 o3, .int .i64 o4, .int .i64 o5, .int .u32 wa, .int .u32 to, .slice A2 n c2, .slice B2 m d2], .agg #[.int .i64 hop, .int .i64 hstage, .int .i64 hphase, .int .i64 hold, .int .i64 hsince, .int .i64 hleft, .bool hawoke, .bool hstarve, .int .i64 hneed, .bool hfront], .agg #[.bool hdn, .bool false, .bool hhd, .int .i64 hgv, .int .i64 hft, .int .u64 hvl, .slice WA wn wc]]) ∧ w'.ownsRow W.heap.size 60 2 (.slice A2 n c2) n (wtC nl) ∧ w'.ownsRow W.heap.size 56 2 (.slice B2 m d2) m (clC ll) ∧ Below W.heap.size W w') from fun W h1 h2 => by
      have h := onEnd_any kd o0 o1 o2 o3 o4 o5 wa to A n c B m d nl ll ⟨op, stage, phase, old, since, left, awoke, starve, need, front⟩ W h1 h2 hn hm hr
      rw [hr2] at h
      rw [hwk]
      refine h.mono ?_
      rintro e w' ⟨A2, c2, B2, d2, he, k1, k2, hb, _, _⟩
      exact ⟨A2, c2, B2, d2, he, k1, k2, hb⟩)
    have M2 := Lib.hid (show ∀ W : World, Calls Try.prog 10 #[.agg #[.int .i64 kd, .int .i64 o0, .int .i64 o1, .int .i64 o2, .int .i64 o3, .int .i64 o4, .int .i64 o5, .int .u32 wa, .int .u32 to, .slice A n c, .slice B m d], .agg #[.int .i64 op, .int .i64 stage, .int .i64 phase, .int .i64 old, .int .i64 since, .int .i64 left, .bool awoke, .bool starve, .int .i64 need, .bool front]] W (fun e w' => e = .returned (.tuple #[.agg #[.int .i64 kd, .int .i64 y0, .int .i64 o1, .int .i64 y2, .int .i64 o3, .int .i64 o4, .int .i64 o5, .int .u32 wa, .int .u32 to, .slice A n c, .slice B m d], .agg #[.int .i64 hop, .int .i64 hstage, .int .i64 hphase, .int .i64 hold, .int .i64 hsince, .int .i64 hleft, .bool hawoke, .bool hstarve, .int .i64 hneed, .bool hfront], .agg #[.bool hdn, .bool false, .bool hhd, .int .i64 hgv, .int .i64 hft, .int .u64 hvl, .slice WA wn wc]]) ∧ Below W.heap.size W w') from fun W => by have h := end18_any kd o0 o1 o2 o3 o4 o5 wa to A n c B m d ⟨op, stage, phase, old, since, left, awoke, starve, need, front⟩ W; rw [hr2] at h; rw [hwk]; exact h)
    have OE2 := Lib.hid (fun (A2 : Option Addr) (c2 : Nat) (B2 : Option Addr) (d2 : Nat) (W : World) (h1 : Wts W A2 n c2 nl) (h2 : Cls W B2 m d2 ll) (h3 : Wts W A n c nl) (h4 : Cls W B m d ll) => obj15_eq2 kd y0 o1 y2 o3 o4 o5 wa to A2 n c2 B2 m d2 A c B d nl ll W h1 h2 h3 h4 hn hm)
    have AE2 := Lib.hid (show ∀ W : World, Calls Try.prog 12 #[.agg #[.bool hdn, .bool false, .bool hhd, .int .i64 hgv, .int .i64 hft, .int .u64 hvl, .slice WA wn wc], .agg #[.bool hdn, .bool false, .bool hhd, .int .i64 hgv, .int .i64 hft, .int .u64 hvl, .slice WA wn wc]] W (YesS W true) from fun W => by rw [hwk]; exact act15_eq hdn false hhd hgv hft hvl W)
    obtain ⟨ov, hov⟩ : ∃ b, (o2 == 1) = b := ⟨_, rfl⟩
    have OV := Lib.hid (fun (W : World) => onOver_any kd o0 o1 o2 o3 o4 o5 wa to A n c B m d ov hov W)
    have hvv : (ov == ov) = true := by simp
    clear hr hr1 hr2 hn hm hwk
    go_enter Try.func3, Try.ntmps3
    go_wp2_with fail
    refine (AL.out _).mono ?_
    rintro e w2 ⟨rfl, hb⟩
    replace Vo := Lib.hid (blk_below Vo.out hb (blk_lt Vo.out))
    replace Vf := Lib.hid (blk_below Vf.out hb (blk_lt Vf.out))
    replace Vt := Lib.hid (blk_below Vt.out hb (blk_lt Vt.out))
    replace RX := Lib.hid (Es.below RX.out hb)
    replace RY := Lib.hid (Es.below RY.out hb)
    replace HB := Lib.hid (And.intro (HB.out.1.trans (hb.mono HB.out.2)) (Nat.le_trans HB.out.2 hb.size))
    clear hb
    have co := row11 Vo.out
    go_wp2_with fail
    refine (g2.out _).mono ?_
    rintro e w3 ⟨rfl, hb⟩
    clear co
    replace Vo := Lib.hid (blk_below Vo.out hb (blk_lt Vo.out))
    replace Vf := Lib.hid (blk_below Vf.out hb (blk_lt Vf.out))
    replace Vt := Lib.hid (blk_below Vt.out hb (blk_lt Vt.out))
    replace RX := Lib.hid (Es.below RX.out hb)
    replace RY := Lib.hid (Es.below RY.out hb)
    replace HB := Lib.hid (And.intro (HB.out.1.trans (hb.mono HB.out.2)) (Nat.le_trans HB.out.2 hb.size))
    clear hb
    have co := row11 Vo.out
    have cf := row10 Vf.out
    have ct := row2 Vt.out
    go_wp2_with fail
    refine (L1.out _ RX.out RY.out).mono ?_
    rintro e w4 ⟨A2, c2, B2, d2, rfl, hon, hol, hb⟩
    clear co cf ct
    replace Vo := Lib.hid (blk_below Vo.out hb (blk_lt Vo.out))
    replace Vf := Lib.hid (blk_below Vf.out hb (blk_lt Vf.out))
    replace Vt := Lib.hid (blk_below Vt.out hb (blk_lt Vt.out))
    replace RX := Lib.hid (Es.below RX.out hb)
    replace RY := Lib.hid (Es.below RY.out hb)
    replace HB := Lib.hid (And.intro (HB.out.1.trans (hb.mono HB.out.2)) (Nat.le_trans HB.out.2 hb.size))
    clear hb
    have ON2 := Lib.hid hon; have OL2 := Lib.hid hol
    clear hon hol
    have lto := blk_lt Vo.out
    have ltf := blk_lt Vf.out
    have ltt := blk_lt Vt.out
    have gq := HB.out.2
    obtain ⟨w5, hw5⟩ : ∃ W, (((w4.alloc (.cells #[.int .i64 kd, .int .i64 z0, .int .i64 o1, .int .i64 z2, .int .i64 o3, .int .i64 o4, .int .i64 o5, .int .u32 wa, .int .u32 to, .slice A2 n c2, .slice B2 m d2] 29)).alloc (.cells #[.int .i64 gop, .int .i64 gstage, .int .i64 gphase, .int .i64 gold, .int .i64 gsince, .int .i64 gleft, .bool gawoke, .bool gstarve, .int .i64 gneed, .bool gfront] 31)).alloc (.cells #[.bool gdn, .bool false, .bool ghd, .int .i64 ggv, .int .i64 gft, .int .u64 gvl, .slice WA wn wc] 39)) = W := ⟨_, rfl⟩
    have hb : Below w4.heap.size w4 w5 := hw5 ▸ ((((Below.refl _ _).alloc (Nat.le_refl _) _).alloc (by first | (simp; done) | (simp; omega)) _).alloc (by first | (simp; done) | (simp; omega)) _)
    have hv0 : w5.heap[w4.heap.size]? = some (.cells #[.int .i64 kd, .int .i64 z0, .int .i64 o1, .int .i64 z2, .int .i64 o3, .int .i64 o4, .int .i64 o5, .int .u32 wa, .int .u32 to, .slice A2 n c2, .slice B2 m d2] 29) := by
      have h0 := heap_alloc_new w4 (.cells #[.int .i64 kd, .int .i64 z0, .int .i64 o1, .int .i64 z2, .int .i64 o3, .int .i64 o4, .int .i64 o5, .int .u32 wa, .int .u32 to, .slice A2 n c2, .slice B2 m d2] 29)
      rw [show w4.heap.size = w4.heap.size by simp [Nat.add_assoc]] at h0
      rw [← hw5]
      rw [heap_alloc_old _ _ (by simp <;> omega), heap_alloc_old _ _ (by simp <;> omega)]; exact h0
    have hv1 : w5.heap[w4.heap.size + 1]? = some (.cells #[.int .i64 gop, .int .i64 gstage, .int .i64 gphase, .int .i64 gold, .int .i64 gsince, .int .i64 gleft, .bool gawoke, .bool gstarve, .int .i64 gneed, .bool gfront] 31) := by
      have h0 := heap_alloc_new (w4.alloc (.cells #[.int .i64 kd, .int .i64 z0, .int .i64 o1, .int .i64 z2, .int .i64 o3, .int .i64 o4, .int .i64 o5, .int .u32 wa, .int .u32 to, .slice A2 n c2, .slice B2 m d2] 29)) (.cells #[.int .i64 gop, .int .i64 gstage, .int .i64 gphase, .int .i64 gold, .int .i64 gsince, .int .i64 gleft, .bool gawoke, .bool gstarve, .int .i64 gneed, .bool gfront] 31)
      rw [show (w4.alloc (.cells #[.int .i64 kd, .int .i64 z0, .int .i64 o1, .int .i64 z2, .int .i64 o3, .int .i64 o4, .int .i64 o5, .int .u32 wa, .int .u32 to, .slice A2 n c2, .slice B2 m d2] 29)).heap.size = w4.heap.size + 1 by simp [Nat.add_assoc]] at h0
      rw [← hw5]
      rw [heap_alloc_old _ _ (by simp <;> omega)]; exact h0
    have hv2 : w5.heap[w4.heap.size + 2]? = some (.cells #[.bool gdn, .bool false, .bool ghd, .int .i64 ggv, .int .i64 gft, .int .u64 gvl, .slice WA wn wc] 39) := by
      have h0 := heap_alloc_new ((w4.alloc (.cells #[.int .i64 kd, .int .i64 z0, .int .i64 o1, .int .i64 z2, .int .i64 o3, .int .i64 o4, .int .i64 o5, .int .u32 wa, .int .u32 to, .slice A2 n c2, .slice B2 m d2] 29)).alloc (.cells #[.int .i64 gop, .int .i64 gstage, .int .i64 gphase, .int .i64 gold, .int .i64 gsince, .int .i64 gleft, .bool gawoke, .bool gstarve, .int .i64 gneed, .bool gfront] 31)) (.cells #[.bool gdn, .bool false, .bool ghd, .int .i64 ggv, .int .i64 gft, .int .u64 gvl, .slice WA wn wc] 39)
      rw [show ((w4.alloc (.cells #[.int .i64 kd, .int .i64 z0, .int .i64 o1, .int .i64 z2, .int .i64 o3, .int .i64 o4, .int .i64 o5, .int .u32 wa, .int .u32 to, .slice A2 n c2, .slice B2 m d2] 29)).alloc (.cells #[.int .i64 gop, .int .i64 gstage, .int .i64 gphase, .int .i64 gold, .int .i64 gsince, .int .i64 gleft, .bool gawoke, .bool gstarve, .int .i64 gneed, .bool gfront] 31)).heap.size = w4.heap.size + 2 by simp [Nat.add_assoc]] at h0
      rw [← hw5]
      exact h0
    replace Vo := Lib.hid (blk_below Vo.out hb (blk_lt Vo.out))
    replace Vf := Lib.hid (blk_below Vf.out hb (blk_lt Vf.out))
    replace Vt := Lib.hid (blk_below Vt.out hb (blk_lt Vt.out))
    replace RX := Lib.hid (Es.below RX.out hb)
    replace RY := Lib.hid (Es.below RY.out hb)
    replace ON2 := Lib.hid (own_below ON2.out hb)
    replace OL2 := Lib.hid (own_below OL2.out hb)
    replace HB := Lib.hid (And.intro (HB.out.1.trans (hb.mono HB.out.2)) (Nat.le_trans HB.out.2 hb.size))
    have Vx := Lib.hid hv0
    have neo_x := Nat.ne_of_lt lto
    have nef_x := Nat.ne_of_lt ltf
    have net_x := Nat.ne_of_lt ltt
    have gex := gq
    have Vg := Lib.hid hv1
    have neo_g := Nat.ne_of_lt (Nat.lt_of_lt_of_le lto (Nat.le_add_right w4.heap.size 1))
    have nef_g := Nat.ne_of_lt (Nat.lt_of_lt_of_le ltf (Nat.le_add_right w4.heap.size 1))
    have net_g := Nat.ne_of_lt (Nat.lt_of_lt_of_le ltt (Nat.le_add_right w4.heap.size 1))
    have nex_g : w4.heap.size ≠ w4.heap.size + 1 := by omega
    have geg : _ ≤ w4.heap.size + 1 := Nat.le_trans gq (Nat.le_add_right _ 1)
    have Va := Lib.hid hv2
    have neo_a := Nat.ne_of_lt (Nat.lt_of_lt_of_le lto (Nat.le_add_right w4.heap.size 2))
    have nef_a := Nat.ne_of_lt (Nat.lt_of_lt_of_le ltf (Nat.le_add_right w4.heap.size 2))
    have net_a := Nat.ne_of_lt (Nat.lt_of_lt_of_le ltt (Nat.le_add_right w4.heap.size 2))
    have nex_a : w4.heap.size ≠ w4.heap.size + 2 := by omega
    have neg_a : w4.heap.size + 1 ≠ w4.heap.size + 2 := by omega
    have gea : _ ≤ w4.heap.size + 2 := Nat.le_trans gq (Nat.le_add_right _ 2)
    generalize hsx : w4.heap.size = sx at *
    clear hb gq hv0 hv1 hv2 lto ltf ltt
    have co := row11 Vo.out
    have cf := row10 Vf.out
    have ct := row2 Vt.out
    go_wp2_with fail
    refine (M1.out _).mono ?_
    rintro e w6 ⟨rfl, hb⟩
    clear co cf ct
    replace Vo := Lib.hid (blk_below Vo.out hb (blk_lt Vo.out))
    replace Vf := Lib.hid (blk_below Vf.out hb (blk_lt Vf.out))
    replace Vt := Lib.hid (blk_below Vt.out hb (blk_lt Vt.out))
    replace Vx := Lib.hid (blk_below Vx.out hb (blk_lt Vx.out))
    replace Vg := Lib.hid (blk_below Vg.out hb (blk_lt Vg.out))
    replace Va := Lib.hid (blk_below Va.out hb (blk_lt Va.out))
    replace RX := Lib.hid (Es.below RX.out hb)
    replace RY := Lib.hid (Es.below RY.out hb)
    replace ON2 := Lib.hid (own_below ON2.out hb)
    replace OL2 := Lib.hid (own_below OL2.out hb)
    replace HB := Lib.hid (And.intro (HB.out.1.trans (hb.mono HB.out.2)) (Nat.le_trans HB.out.2 hb.size))
    clear hb
    have lto := blk_lt Vo.out
    have ltf := blk_lt Vf.out
    have ltt := blk_lt Vt.out
    have ltx := blk_lt Vx.out
    have ltg := blk_lt Vg.out
    have lta := blk_lt Va.out
    have gq := HB.out.2
    obtain ⟨w7, hw7⟩ : ∃ W, (((w6.alloc (.cells #[.int .i64 kd, .int .i64 z0, .int .i64 o1, .int .i64 z2, .int .i64 o3, .int .i64 o4, .int .i64 o5, .int .u32 wa, .int .u32 to, .slice A n c, .slice B m d] 29)).alloc (.cells #[.int .i64 gop, .int .i64 gstage, .int .i64 gphase, .int .i64 gold, .int .i64 gsince, .int .i64 gleft, .bool gawoke, .bool gstarve, .int .i64 gneed, .bool gfront] 31)).alloc (.cells #[.bool gdn, .bool false, .bool ghd, .int .i64 ggv, .int .i64 gft, .int .u64 gvl, .slice WA wn wc] 39)) = W := ⟨_, rfl⟩
    have hb : Below w6.heap.size w6 w7 := hw7 ▸ ((((Below.refl _ _).alloc (Nat.le_refl _) _).alloc (by first | (simp; done) | (simp; omega)) _).alloc (by first | (simp; done) | (simp; omega)) _)
    have hv0 : w7.heap[w6.heap.size]? = some (.cells #[.int .i64 kd, .int .i64 z0, .int .i64 o1, .int .i64 z2, .int .i64 o3, .int .i64 o4, .int .i64 o5, .int .u32 wa, .int .u32 to, .slice A n c, .slice B m d] 29) := by
      have h0 := heap_alloc_new w6 (.cells #[.int .i64 kd, .int .i64 z0, .int .i64 o1, .int .i64 z2, .int .i64 o3, .int .i64 o4, .int .i64 o5, .int .u32 wa, .int .u32 to, .slice A n c, .slice B m d] 29)
      rw [show w6.heap.size = w6.heap.size by simp [Nat.add_assoc]] at h0
      rw [← hw7]
      rw [heap_alloc_old _ _ (by simp <;> omega), heap_alloc_old _ _ (by simp <;> omega)]; exact h0
    have hv1 : w7.heap[w6.heap.size + 1]? = some (.cells #[.int .i64 gop, .int .i64 gstage, .int .i64 gphase, .int .i64 gold, .int .i64 gsince, .int .i64 gleft, .bool gawoke, .bool gstarve, .int .i64 gneed, .bool gfront] 31) := by
      have h0 := heap_alloc_new (w6.alloc (.cells #[.int .i64 kd, .int .i64 z0, .int .i64 o1, .int .i64 z2, .int .i64 o3, .int .i64 o4, .int .i64 o5, .int .u32 wa, .int .u32 to, .slice A n c, .slice B m d] 29)) (.cells #[.int .i64 gop, .int .i64 gstage, .int .i64 gphase, .int .i64 gold, .int .i64 gsince, .int .i64 gleft, .bool gawoke, .bool gstarve, .int .i64 gneed, .bool gfront] 31)
      rw [show (w6.alloc (.cells #[.int .i64 kd, .int .i64 z0, .int .i64 o1, .int .i64 z2, .int .i64 o3, .int .i64 o4, .int .i64 o5, .int .u32 wa, .int .u32 to, .slice A n c, .slice B m d] 29)).heap.size = w6.heap.size + 1 by simp [Nat.add_assoc]] at h0
      rw [← hw7]
      rw [heap_alloc_old _ _ (by simp <;> omega)]; exact h0
    have hv2 : w7.heap[w6.heap.size + 2]? = some (.cells #[.bool gdn, .bool false, .bool ghd, .int .i64 ggv, .int .i64 gft, .int .u64 gvl, .slice WA wn wc] 39) := by
      have h0 := heap_alloc_new ((w6.alloc (.cells #[.int .i64 kd, .int .i64 z0, .int .i64 o1, .int .i64 z2, .int .i64 o3, .int .i64 o4, .int .i64 o5, .int .u32 wa, .int .u32 to, .slice A n c, .slice B m d] 29)).alloc (.cells #[.int .i64 gop, .int .i64 gstage, .int .i64 gphase, .int .i64 gold, .int .i64 gsince, .int .i64 gleft, .bool gawoke, .bool gstarve, .int .i64 gneed, .bool gfront] 31)) (.cells #[.bool gdn, .bool false, .bool ghd, .int .i64 ggv, .int .i64 gft, .int .u64 gvl, .slice WA wn wc] 39)
      rw [show ((w6.alloc (.cells #[.int .i64 kd, .int .i64 z0, .int .i64 o1, .int .i64 z2, .int .i64 o3, .int .i64 o4, .int .i64 o5, .int .u32 wa, .int .u32 to, .slice A n c, .slice B m d] 29)).alloc (.cells #[.int .i64 gop, .int .i64 gstage, .int .i64 gphase, .int .i64 gold, .int .i64 gsince, .int .i64 gleft, .bool gawoke, .bool gstarve, .int .i64 gneed, .bool gfront] 31)).heap.size = w6.heap.size + 2 by simp [Nat.add_assoc]] at h0
      rw [← hw7]
      exact h0
    replace Vo := Lib.hid (blk_below Vo.out hb (blk_lt Vo.out))
    replace Vf := Lib.hid (blk_below Vf.out hb (blk_lt Vf.out))
    replace Vt := Lib.hid (blk_below Vt.out hb (blk_lt Vt.out))
    replace Vx := Lib.hid (blk_below Vx.out hb (blk_lt Vx.out))
    replace Vg := Lib.hid (blk_below Vg.out hb (blk_lt Vg.out))
    replace Va := Lib.hid (blk_below Va.out hb (blk_lt Va.out))
    replace RX := Lib.hid (Es.below RX.out hb)
    replace RY := Lib.hid (Es.below RY.out hb)
    replace ON2 := Lib.hid (own_below ON2.out hb)
    replace OL2 := Lib.hid (own_below OL2.out hb)
    replace HB := Lib.hid (And.intro (HB.out.1.trans (hb.mono HB.out.2)) (Nat.le_trans HB.out.2 hb.size))
    have Vy := Lib.hid hv0
    have neo_y := Nat.ne_of_lt lto
    have nef_y := Nat.ne_of_lt ltf
    have net_y := Nat.ne_of_lt ltt
    have nex_y := Nat.ne_of_lt ltx
    have neg_y := Nat.ne_of_lt ltg
    have nea_y := Nat.ne_of_lt lta
    have gey := gq
    have Vh := Lib.hid hv1
    have neo_h := Nat.ne_of_lt (Nat.lt_of_lt_of_le lto (Nat.le_add_right w6.heap.size 1))
    have nef_h := Nat.ne_of_lt (Nat.lt_of_lt_of_le ltf (Nat.le_add_right w6.heap.size 1))
    have net_h := Nat.ne_of_lt (Nat.lt_of_lt_of_le ltt (Nat.le_add_right w6.heap.size 1))
    have nex_h := Nat.ne_of_lt (Nat.lt_of_lt_of_le ltx (Nat.le_add_right w6.heap.size 1))
    have neg_h := Nat.ne_of_lt (Nat.lt_of_lt_of_le ltg (Nat.le_add_right w6.heap.size 1))
    have nea_h := Nat.ne_of_lt (Nat.lt_of_lt_of_le lta (Nat.le_add_right w6.heap.size 1))
    have ney_h : w6.heap.size ≠ w6.heap.size + 1 := by omega
    have geh : _ ≤ w6.heap.size + 1 := Nat.le_trans gq (Nat.le_add_right _ 1)
    have Vb := Lib.hid hv2
    have neo_b := Nat.ne_of_lt (Nat.lt_of_lt_of_le lto (Nat.le_add_right w6.heap.size 2))
    have nef_b := Nat.ne_of_lt (Nat.lt_of_lt_of_le ltf (Nat.le_add_right w6.heap.size 2))
    have net_b := Nat.ne_of_lt (Nat.lt_of_lt_of_le ltt (Nat.le_add_right w6.heap.size 2))
    have nex_b := Nat.ne_of_lt (Nat.lt_of_lt_of_le ltx (Nat.le_add_right w6.heap.size 2))
    have neg_b := Nat.ne_of_lt (Nat.lt_of_lt_of_le ltg (Nat.le_add_right w6.heap.size 2))
    have nea_b := Nat.ne_of_lt (Nat.lt_of_lt_of_le lta (Nat.le_add_right w6.heap.size 2))
    have ney_b : w6.heap.size ≠ w6.heap.size + 2 := by omega
    have neh_b : w6.heap.size + 1 ≠ w6.heap.size + 2 := by omega
    have geb : _ ≤ w6.heap.size + 2 := Nat.le_trans gq (Nat.le_add_right _ 2)
    generalize hsy : w6.heap.size = sy at *
    clear hb gq hv0 hv1 hv2 lto ltf ltt ltx ltg lta
    have co := row11 Vo.out
    have cf := row10 Vf.out
    have ct := row2 Vt.out
    go_wp2_with fail
    refine (L2.out _ RX.out RY.out).mono ?_
    rintro e w8 ⟨A3, c3, B3, d3, rfl, hon, hol, hb⟩
    clear co cf ct
    replace Vo := Lib.hid (blk_below Vo.out hb (blk_lt Vo.out))
    replace Vf := Lib.hid (blk_below Vf.out hb (blk_lt Vf.out))
    replace Vt := Lib.hid (blk_below Vt.out hb (blk_lt Vt.out))
    replace Vx := Lib.hid (blk_below Vx.out hb (blk_lt Vx.out))
    replace Vg := Lib.hid (blk_below Vg.out hb (blk_lt Vg.out))
    replace Va := Lib.hid (blk_below Va.out hb (blk_lt Va.out))
    replace Vy := Lib.hid (blk_below Vy.out hb (blk_lt Vy.out))
    replace Vh := Lib.hid (blk_below Vh.out hb (blk_lt Vh.out))
    replace Vb := Lib.hid (blk_below Vb.out hb (blk_lt Vb.out))
    replace RX := Lib.hid (Es.below RX.out hb)
    replace RY := Lib.hid (Es.below RY.out hb)
    replace ON2 := Lib.hid (own_below ON2.out hb)
    replace OL2 := Lib.hid (own_below OL2.out hb)
    replace HB := Lib.hid (And.intro (HB.out.1.trans (hb.mono HB.out.2)) (Nat.le_trans HB.out.2 hb.size))
    clear hb
    have ON3 := Lib.hid hon; have OL3 := Lib.hid hol
    clear hon hol
    have lto := blk_lt Vo.out
    have ltf := blk_lt Vf.out
    have ltt := blk_lt Vt.out
    have ltx := blk_lt Vx.out
    have ltg := blk_lt Vg.out
    have lta := blk_lt Va.out
    have lty := blk_lt Vy.out
    have lth := blk_lt Vh.out
    have ltb := blk_lt Vb.out
    have gq := HB.out.2
    obtain ⟨w9, hw9⟩ : ∃ W, (((w8.alloc (.cells #[.int .i64 kd, .int .i64 y0, .int .i64 o1, .int .i64 y2, .int .i64 o3, .int .i64 o4, .int .i64 o5, .int .u32 wa, .int .u32 to, .slice A3 n c3, .slice B3 m d3] 29)).alloc (.cells #[.int .i64 hop, .int .i64 hstage, .int .i64 hphase, .int .i64 hold, .int .i64 hsince, .int .i64 hleft, .bool hawoke, .bool hstarve, .int .i64 hneed, .bool hfront] 31)).alloc (.cells #[.bool hdn, .bool false, .bool hhd, .int .i64 hgv, .int .i64 hft, .int .u64 hvl, .slice WA wn wc] 39)) = W := ⟨_, rfl⟩
    have hb : Below w8.heap.size w8 w9 := hw9 ▸ ((((Below.refl _ _).alloc (Nat.le_refl _) _).alloc (by first | (simp; done) | (simp; omega)) _).alloc (by first | (simp; done) | (simp; omega)) _)
    have hv0 : w9.heap[w8.heap.size]? = some (.cells #[.int .i64 kd, .int .i64 y0, .int .i64 o1, .int .i64 y2, .int .i64 o3, .int .i64 o4, .int .i64 o5, .int .u32 wa, .int .u32 to, .slice A3 n c3, .slice B3 m d3] 29) := by
      have h0 := heap_alloc_new w8 (.cells #[.int .i64 kd, .int .i64 y0, .int .i64 o1, .int .i64 y2, .int .i64 o3, .int .i64 o4, .int .i64 o5, .int .u32 wa, .int .u32 to, .slice A3 n c3, .slice B3 m d3] 29)
      rw [show w8.heap.size = w8.heap.size by simp [Nat.add_assoc]] at h0
      rw [← hw9]
      rw [heap_alloc_old _ _ (by simp <;> omega), heap_alloc_old _ _ (by simp <;> omega)]; exact h0
    have hv1 : w9.heap[w8.heap.size + 1]? = some (.cells #[.int .i64 hop, .int .i64 hstage, .int .i64 hphase, .int .i64 hold, .int .i64 hsince, .int .i64 hleft, .bool hawoke, .bool hstarve, .int .i64 hneed, .bool hfront] 31) := by
      have h0 := heap_alloc_new (w8.alloc (.cells #[.int .i64 kd, .int .i64 y0, .int .i64 o1, .int .i64 y2, .int .i64 o3, .int .i64 o4, .int .i64 o5, .int .u32 wa, .int .u32 to, .slice A3 n c3, .slice B3 m d3] 29)) (.cells #[.int .i64 hop, .int .i64 hstage, .int .i64 hphase, .int .i64 hold, .int .i64 hsince, .int .i64 hleft, .bool hawoke, .bool hstarve, .int .i64 hneed, .bool hfront] 31)
      rw [show (w8.alloc (.cells #[.int .i64 kd, .int .i64 y0, .int .i64 o1, .int .i64 y2, .int .i64 o3, .int .i64 o4, .int .i64 o5, .int .u32 wa, .int .u32 to, .slice A3 n c3, .slice B3 m d3] 29)).heap.size = w8.heap.size + 1 by simp [Nat.add_assoc]] at h0
      rw [← hw9]
      rw [heap_alloc_old _ _ (by simp <;> omega)]; exact h0
    have hv2 : w9.heap[w8.heap.size + 2]? = some (.cells #[.bool hdn, .bool false, .bool hhd, .int .i64 hgv, .int .i64 hft, .int .u64 hvl, .slice WA wn wc] 39) := by
      have h0 := heap_alloc_new ((w8.alloc (.cells #[.int .i64 kd, .int .i64 y0, .int .i64 o1, .int .i64 y2, .int .i64 o3, .int .i64 o4, .int .i64 o5, .int .u32 wa, .int .u32 to, .slice A3 n c3, .slice B3 m d3] 29)).alloc (.cells #[.int .i64 hop, .int .i64 hstage, .int .i64 hphase, .int .i64 hold, .int .i64 hsince, .int .i64 hleft, .bool hawoke, .bool hstarve, .int .i64 hneed, .bool hfront] 31)) (.cells #[.bool hdn, .bool false, .bool hhd, .int .i64 hgv, .int .i64 hft, .int .u64 hvl, .slice WA wn wc] 39)
      rw [show ((w8.alloc (.cells #[.int .i64 kd, .int .i64 y0, .int .i64 o1, .int .i64 y2, .int .i64 o3, .int .i64 o4, .int .i64 o5, .int .u32 wa, .int .u32 to, .slice A3 n c3, .slice B3 m d3] 29)).alloc (.cells #[.int .i64 hop, .int .i64 hstage, .int .i64 hphase, .int .i64 hold, .int .i64 hsince, .int .i64 hleft, .bool hawoke, .bool hstarve, .int .i64 hneed, .bool hfront] 31)).heap.size = w8.heap.size + 2 by simp [Nat.add_assoc]] at h0
      rw [← hw9]
      exact h0
    replace Vo := Lib.hid (blk_below Vo.out hb (blk_lt Vo.out))
    replace Vf := Lib.hid (blk_below Vf.out hb (blk_lt Vf.out))
    replace Vt := Lib.hid (blk_below Vt.out hb (blk_lt Vt.out))
    replace Vx := Lib.hid (blk_below Vx.out hb (blk_lt Vx.out))
    replace Vg := Lib.hid (blk_below Vg.out hb (blk_lt Vg.out))
    replace Va := Lib.hid (blk_below Va.out hb (blk_lt Va.out))
    replace Vy := Lib.hid (blk_below Vy.out hb (blk_lt Vy.out))
    replace Vh := Lib.hid (blk_below Vh.out hb (blk_lt Vh.out))
    replace Vb := Lib.hid (blk_below Vb.out hb (blk_lt Vb.out))
    replace RX := Lib.hid (Es.below RX.out hb)
    replace RY := Lib.hid (Es.below RY.out hb)
    replace ON2 := Lib.hid (own_below ON2.out hb)
    replace OL2 := Lib.hid (own_below OL2.out hb)
    replace ON3 := Lib.hid (own_below ON3.out hb)
    replace OL3 := Lib.hid (own_below OL3.out hb)
    replace HB := Lib.hid (And.intro (HB.out.1.trans (hb.mono HB.out.2)) (Nat.le_trans HB.out.2 hb.size))
    have Vp := Lib.hid hv0
    have neo_p := Nat.ne_of_lt lto
    have nef_p := Nat.ne_of_lt ltf
    have net_p := Nat.ne_of_lt ltt
    have nex_p := Nat.ne_of_lt ltx
    have neg_p := Nat.ne_of_lt ltg
    have nea_p := Nat.ne_of_lt lta
    have ney_p := Nat.ne_of_lt lty
    have neh_p := Nat.ne_of_lt lth
    have neb_p := Nat.ne_of_lt ltb
    have gep := gq
    have Vi := Lib.hid hv1
    have neo_i := Nat.ne_of_lt (Nat.lt_of_lt_of_le lto (Nat.le_add_right w8.heap.size 1))
    have nef_i := Nat.ne_of_lt (Nat.lt_of_lt_of_le ltf (Nat.le_add_right w8.heap.size 1))
    have net_i := Nat.ne_of_lt (Nat.lt_of_lt_of_le ltt (Nat.le_add_right w8.heap.size 1))
    have nex_i := Nat.ne_of_lt (Nat.lt_of_lt_of_le ltx (Nat.le_add_right w8.heap.size 1))
    have neg_i := Nat.ne_of_lt (Nat.lt_of_lt_of_le ltg (Nat.le_add_right w8.heap.size 1))
    have nea_i := Nat.ne_of_lt (Nat.lt_of_lt_of_le lta (Nat.le_add_right w8.heap.size 1))
    have ney_i := Nat.ne_of_lt (Nat.lt_of_lt_of_le lty (Nat.le_add_right w8.heap.size 1))
    have neh_i := Nat.ne_of_lt (Nat.lt_of_lt_of_le lth (Nat.le_add_right w8.heap.size 1))
    have neb_i := Nat.ne_of_lt (Nat.lt_of_lt_of_le ltb (Nat.le_add_right w8.heap.size 1))
    have nep_i : w8.heap.size ≠ w8.heap.size + 1 := by omega
    have gei : _ ≤ w8.heap.size + 1 := Nat.le_trans gq (Nat.le_add_right _ 1)
    have Vc := Lib.hid hv2
    have neo_c := Nat.ne_of_lt (Nat.lt_of_lt_of_le lto (Nat.le_add_right w8.heap.size 2))
    have nef_c := Nat.ne_of_lt (Nat.lt_of_lt_of_le ltf (Nat.le_add_right w8.heap.size 2))
    have net_c := Nat.ne_of_lt (Nat.lt_of_lt_of_le ltt (Nat.le_add_right w8.heap.size 2))
    have nex_c := Nat.ne_of_lt (Nat.lt_of_lt_of_le ltx (Nat.le_add_right w8.heap.size 2))
    have neg_c := Nat.ne_of_lt (Nat.lt_of_lt_of_le ltg (Nat.le_add_right w8.heap.size 2))
    have nea_c := Nat.ne_of_lt (Nat.lt_of_lt_of_le lta (Nat.le_add_right w8.heap.size 2))
    have ney_c := Nat.ne_of_lt (Nat.lt_of_lt_of_le lty (Nat.le_add_right w8.heap.size 2))
    have neh_c := Nat.ne_of_lt (Nat.lt_of_lt_of_le lth (Nat.le_add_right w8.heap.size 2))
    have neb_c := Nat.ne_of_lt (Nat.lt_of_lt_of_le ltb (Nat.le_add_right w8.heap.size 2))
    have nep_c : w8.heap.size ≠ w8.heap.size + 2 := by omega
    have nei_c : w8.heap.size + 1 ≠ w8.heap.size + 2 := by omega
    have gec : _ ≤ w8.heap.size + 2 := Nat.le_trans gq (Nat.le_add_right _ 2)
    generalize hsp : w8.heap.size = sp at *
    clear hb gq hv0 hv1 hv2 lto ltf ltt ltx ltg lta lty lth ltb
    have co := row11 Vo.out
    have cf := row10 Vf.out
    have ct := row2 Vt.out
    go_wp2_with fail
    refine (M2.out _).mono ?_
    rintro e w10 ⟨rfl, hb⟩
    clear co cf ct
    replace Vo := Lib.hid (blk_below Vo.out hb (blk_lt Vo.out))
    replace Vf := Lib.hid (blk_below Vf.out hb (blk_lt Vf.out))
    replace Vt := Lib.hid (blk_below Vt.out hb (blk_lt Vt.out))
    replace Vx := Lib.hid (blk_below Vx.out hb (blk_lt Vx.out))
    replace Vg := Lib.hid (blk_below Vg.out hb (blk_lt Vg.out))
    replace Va := Lib.hid (blk_below Va.out hb (blk_lt Va.out))
    replace Vy := Lib.hid (blk_below Vy.out hb (blk_lt Vy.out))
    replace Vh := Lib.hid (blk_below Vh.out hb (blk_lt Vh.out))
    replace Vb := Lib.hid (blk_below Vb.out hb (blk_lt Vb.out))
    replace Vp := Lib.hid (blk_below Vp.out hb (blk_lt Vp.out))
    replace Vi := Lib.hid (blk_below Vi.out hb (blk_lt Vi.out))
    replace Vc := Lib.hid (blk_below Vc.out hb (blk_lt Vc.out))
    replace RX := Lib.hid (Es.below RX.out hb)
    replace RY := Lib.hid (Es.below RY.out hb)
    replace ON2 := Lib.hid (own_below ON2.out hb)
    replace OL2 := Lib.hid (own_below OL2.out hb)
    replace ON3 := Lib.hid (own_below ON3.out hb)
    replace OL3 := Lib.hid (own_below OL3.out hb)
    replace HB := Lib.hid (And.intro (HB.out.1.trans (hb.mono HB.out.2)) (Nat.le_trans HB.out.2 hb.size))
    clear hb
    have lto := blk_lt Vo.out
    have ltf := blk_lt Vf.out
    have ltt := blk_lt Vt.out
    have ltx := blk_lt Vx.out
    have ltg := blk_lt Vg.out
    have lta := blk_lt Va.out
    have lty := blk_lt Vy.out
    have lth := blk_lt Vh.out
    have ltb := blk_lt Vb.out
    have ltp := blk_lt Vp.out
    have lti := blk_lt Vi.out
    have ltc := blk_lt Vc.out
    have gq := HB.out.2
    obtain ⟨w11, hw11⟩ : ∃ W, (((w10.alloc (.cells #[.int .i64 kd, .int .i64 y0, .int .i64 o1, .int .i64 y2, .int .i64 o3, .int .i64 o4, .int .i64 o5, .int .u32 wa, .int .u32 to, .slice A n c, .slice B m d] 29)).alloc (.cells #[.int .i64 hop, .int .i64 hstage, .int .i64 hphase, .int .i64 hold, .int .i64 hsince, .int .i64 hleft, .bool hawoke, .bool hstarve, .int .i64 hneed, .bool hfront] 31)).alloc (.cells #[.bool hdn, .bool false, .bool hhd, .int .i64 hgv, .int .i64 hft, .int .u64 hvl, .slice WA wn wc] 39)) = W := ⟨_, rfl⟩
    have hb : Below w10.heap.size w10 w11 := hw11 ▸ ((((Below.refl _ _).alloc (Nat.le_refl _) _).alloc (by first | (simp; done) | (simp; omega)) _).alloc (by first | (simp; done) | (simp; omega)) _)
    have hv0 : w11.heap[w10.heap.size]? = some (.cells #[.int .i64 kd, .int .i64 y0, .int .i64 o1, .int .i64 y2, .int .i64 o3, .int .i64 o4, .int .i64 o5, .int .u32 wa, .int .u32 to, .slice A n c, .slice B m d] 29) := by
      have h0 := heap_alloc_new w10 (.cells #[.int .i64 kd, .int .i64 y0, .int .i64 o1, .int .i64 y2, .int .i64 o3, .int .i64 o4, .int .i64 o5, .int .u32 wa, .int .u32 to, .slice A n c, .slice B m d] 29)
      rw [show w10.heap.size = w10.heap.size by simp [Nat.add_assoc]] at h0
      rw [← hw11]
      rw [heap_alloc_old _ _ (by simp <;> omega), heap_alloc_old _ _ (by simp <;> omega)]; exact h0
    have hv1 : w11.heap[w10.heap.size + 1]? = some (.cells #[.int .i64 hop, .int .i64 hstage, .int .i64 hphase, .int .i64 hold, .int .i64 hsince, .int .i64 hleft, .bool hawoke, .bool hstarve, .int .i64 hneed, .bool hfront] 31) := by
      have h0 := heap_alloc_new (w10.alloc (.cells #[.int .i64 kd, .int .i64 y0, .int .i64 o1, .int .i64 y2, .int .i64 o3, .int .i64 o4, .int .i64 o5, .int .u32 wa, .int .u32 to, .slice A n c, .slice B m d] 29)) (.cells #[.int .i64 hop, .int .i64 hstage, .int .i64 hphase, .int .i64 hold, .int .i64 hsince, .int .i64 hleft, .bool hawoke, .bool hstarve, .int .i64 hneed, .bool hfront] 31)
      rw [show (w10.alloc (.cells #[.int .i64 kd, .int .i64 y0, .int .i64 o1, .int .i64 y2, .int .i64 o3, .int .i64 o4, .int .i64 o5, .int .u32 wa, .int .u32 to, .slice A n c, .slice B m d] 29)).heap.size = w10.heap.size + 1 by simp [Nat.add_assoc]] at h0
      rw [← hw11]
      rw [heap_alloc_old _ _ (by simp <;> omega)]; exact h0
    have hv2 : w11.heap[w10.heap.size + 2]? = some (.cells #[.bool hdn, .bool false, .bool hhd, .int .i64 hgv, .int .i64 hft, .int .u64 hvl, .slice WA wn wc] 39) := by
      have h0 := heap_alloc_new ((w10.alloc (.cells #[.int .i64 kd, .int .i64 y0, .int .i64 o1, .int .i64 y2, .int .i64 o3, .int .i64 o4, .int .i64 o5, .int .u32 wa, .int .u32 to, .slice A n c, .slice B m d] 29)).alloc (.cells #[.int .i64 hop, .int .i64 hstage, .int .i64 hphase, .int .i64 hold, .int .i64 hsince, .int .i64 hleft, .bool hawoke, .bool hstarve, .int .i64 hneed, .bool hfront] 31)) (.cells #[.bool hdn, .bool false, .bool hhd, .int .i64 hgv, .int .i64 hft, .int .u64 hvl, .slice WA wn wc] 39)
      rw [show ((w10.alloc (.cells #[.int .i64 kd, .int .i64 y0, .int .i64 o1, .int .i64 y2, .int .i64 o3, .int .i64 o4, .int .i64 o5, .int .u32 wa, .int .u32 to, .slice A n c, .slice B m d] 29)).alloc (.cells #[.int .i64 hop, .int .i64 hstage, .int .i64 hphase, .int .i64 hold, .int .i64 hsince, .int .i64 hleft, .bool hawoke, .bool hstarve, .int .i64 hneed, .bool hfront] 31)).heap.size = w10.heap.size + 2 by simp [Nat.add_assoc]] at h0
      rw [← hw11]
      exact h0
    replace Vo := Lib.hid (blk_below Vo.out hb (blk_lt Vo.out))
    replace Vf := Lib.hid (blk_below Vf.out hb (blk_lt Vf.out))
    replace Vt := Lib.hid (blk_below Vt.out hb (blk_lt Vt.out))
    replace Vx := Lib.hid (blk_below Vx.out hb (blk_lt Vx.out))
    replace Vg := Lib.hid (blk_below Vg.out hb (blk_lt Vg.out))
    replace Va := Lib.hid (blk_below Va.out hb (blk_lt Va.out))
    replace Vy := Lib.hid (blk_below Vy.out hb (blk_lt Vy.out))
    replace Vh := Lib.hid (blk_below Vh.out hb (blk_lt Vh.out))
    replace Vb := Lib.hid (blk_below Vb.out hb (blk_lt Vb.out))
    replace Vp := Lib.hid (blk_below Vp.out hb (blk_lt Vp.out))
    replace Vi := Lib.hid (blk_below Vi.out hb (blk_lt Vi.out))
    replace Vc := Lib.hid (blk_below Vc.out hb (blk_lt Vc.out))
    replace RX := Lib.hid (Es.below RX.out hb)
    replace RY := Lib.hid (Es.below RY.out hb)
    replace ON2 := Lib.hid (own_below ON2.out hb)
    replace OL2 := Lib.hid (own_below OL2.out hb)
    replace ON3 := Lib.hid (own_below ON3.out hb)
    replace OL3 := Lib.hid (own_below OL3.out hb)
    replace HB := Lib.hid (And.intro (HB.out.1.trans (hb.mono HB.out.2)) (Nat.le_trans HB.out.2 hb.size))
    have Vq := Lib.hid hv0
    have neo_q := Nat.ne_of_lt lto
    have nef_q := Nat.ne_of_lt ltf
    have net_q := Nat.ne_of_lt ltt
    have nex_q := Nat.ne_of_lt ltx
    have neg_q := Nat.ne_of_lt ltg
    have nea_q := Nat.ne_of_lt lta
    have ney_q := Nat.ne_of_lt lty
    have neh_q := Nat.ne_of_lt lth
    have neb_q := Nat.ne_of_lt ltb
    have nep_q := Nat.ne_of_lt ltp
    have nei_q := Nat.ne_of_lt lti
    have nec_q := Nat.ne_of_lt ltc
    have geq := gq
    have Vj := Lib.hid hv1
    have neo_j := Nat.ne_of_lt (Nat.lt_of_lt_of_le lto (Nat.le_add_right w10.heap.size 1))
    have nef_j := Nat.ne_of_lt (Nat.lt_of_lt_of_le ltf (Nat.le_add_right w10.heap.size 1))
    have net_j := Nat.ne_of_lt (Nat.lt_of_lt_of_le ltt (Nat.le_add_right w10.heap.size 1))
    have nex_j := Nat.ne_of_lt (Nat.lt_of_lt_of_le ltx (Nat.le_add_right w10.heap.size 1))
    have neg_j := Nat.ne_of_lt (Nat.lt_of_lt_of_le ltg (Nat.le_add_right w10.heap.size 1))
    have nea_j := Nat.ne_of_lt (Nat.lt_of_lt_of_le lta (Nat.le_add_right w10.heap.size 1))
    have ney_j := Nat.ne_of_lt (Nat.lt_of_lt_of_le lty (Nat.le_add_right w10.heap.size 1))
    have neh_j := Nat.ne_of_lt (Nat.lt_of_lt_of_le lth (Nat.le_add_right w10.heap.size 1))
    have neb_j := Nat.ne_of_lt (Nat.lt_of_lt_of_le ltb (Nat.le_add_right w10.heap.size 1))
    have nep_j := Nat.ne_of_lt (Nat.lt_of_lt_of_le ltp (Nat.le_add_right w10.heap.size 1))
    have nei_j := Nat.ne_of_lt (Nat.lt_of_lt_of_le lti (Nat.le_add_right w10.heap.size 1))
    have nec_j := Nat.ne_of_lt (Nat.lt_of_lt_of_le ltc (Nat.le_add_right w10.heap.size 1))
    have neq_j : w10.heap.size ≠ w10.heap.size + 1 := by omega
    have gej : _ ≤ w10.heap.size + 1 := Nat.le_trans gq (Nat.le_add_right _ 1)
    have Ve := Lib.hid hv2
    have neo_e := Nat.ne_of_lt (Nat.lt_of_lt_of_le lto (Nat.le_add_right w10.heap.size 2))
    have nef_e := Nat.ne_of_lt (Nat.lt_of_lt_of_le ltf (Nat.le_add_right w10.heap.size 2))
    have net_e := Nat.ne_of_lt (Nat.lt_of_lt_of_le ltt (Nat.le_add_right w10.heap.size 2))
    have nex_e := Nat.ne_of_lt (Nat.lt_of_lt_of_le ltx (Nat.le_add_right w10.heap.size 2))
    have neg_e := Nat.ne_of_lt (Nat.lt_of_lt_of_le ltg (Nat.le_add_right w10.heap.size 2))
    have nea_e := Nat.ne_of_lt (Nat.lt_of_lt_of_le lta (Nat.le_add_right w10.heap.size 2))
    have ney_e := Nat.ne_of_lt (Nat.lt_of_lt_of_le lty (Nat.le_add_right w10.heap.size 2))
    have neh_e := Nat.ne_of_lt (Nat.lt_of_lt_of_le lth (Nat.le_add_right w10.heap.size 2))
    have neb_e := Nat.ne_of_lt (Nat.lt_of_lt_of_le ltb (Nat.le_add_right w10.heap.size 2))
    have nep_e := Nat.ne_of_lt (Nat.lt_of_lt_of_le ltp (Nat.le_add_right w10.heap.size 2))
    have nei_e := Nat.ne_of_lt (Nat.lt_of_lt_of_le lti (Nat.le_add_right w10.heap.size 2))
    have nec_e := Nat.ne_of_lt (Nat.lt_of_lt_of_le ltc (Nat.le_add_right w10.heap.size 2))
    have neq_e : w10.heap.size ≠ w10.heap.size + 2 := by omega
    have nej_e : w10.heap.size + 1 ≠ w10.heap.size + 2 := by omega
    have gee : _ ≤ w10.heap.size + 2 := Nat.le_trans gq (Nat.le_add_right _ 2)
    generalize hsq : w10.heap.size = sq at *
    clear hb gq hv0 hv1 hv2 lto ltf ltt ltx ltg lta lty lth ltb ltp lti ltc
    have hf1 := fr_self18 gop gstage gphase gold gsince gleft gawoke gstarve gneed gfront
    have hf2 := fr_self18 hop hstage hphase hold hsince hleft hawoke hstarve hneed hfront
    go_wp2
    refine wp_region_noPanic ?_
    refine wp_region_held_drew (S := (fun wv => Below w11.heap.size w11 wv)) (by kernel_rfl) ((Below.refl w11.heap.size w11).drew) (fun hS => ?_)
    refine wpAnyH_take (i := 0) (oi := ⟨some 59, .load 29 (.tmp 7), 29, "law.go:46", #[], none⟩) (v := .agg (([.int .i64 kd, .int .i64 z0, .int .i64 o1, .int .i64 z2, .int .i64 o3, .int .i64 o4, .int .i64 o5, .int .u32 wa, .int .u32 to, .slice A2 n c2, .slice B2 m d2] : List Value)).toArray) rfl (by kernel_rfl) (by kernel_rfl) (by kernel_rfl) (fun _ _ _ h => h) (yieldsIf_load_mid (by rfl) _ _ (by rfl) (sx) (0) (by rfl) _ _ (fun wv hS => blk_rngl (blk_below Vx.out hS (blk_lt Vx.out))) Try.underlying29 (by rfl) (by kernel_rfl)) hS ?_
    try simp only [Act.put, List.setIfInBounds_toArray, List.set_cons_zero, List.set_cons_succ]
    refine wpAnyH_take (i := 1) (oi := ⟨some 60, .load 29 (.tmp 10), 29, "law.go:46", #[], none⟩) (v := .agg (([.int .i64 kd, .int .i64 z0, .int .i64 o1, .int .i64 z2, .int .i64 o3, .int .i64 o4, .int .i64 o5, .int .u32 wa, .int .u32 to, .slice A n c, .slice B m d] : List Value)).toArray) rfl (by kernel_rfl) (by kernel_rfl) (by kernel_rfl) (fun _ _ _ h => h) (yieldsIf_load_mid (by rfl) _ _ (by rfl) (sy) (0) (by rfl) _ _ (fun wv hS => blk_rngl (blk_below Vy.out hS (blk_lt Vy.out))) Try.underlying29 (by rfl) (by kernel_rfl)) hS ?_
    try simp only [Act.put, List.setIfInBounds_toArray, List.set_cons_zero, List.set_cons_succ]
    refine wpAnyH_ready (rs := [2]) (by kernel_rfl) (by simp) (AllReadyH.cons (o := ⟨some 61, .call { callee := .value (.func 11), args := #[.tmp 59, .tmp 60], argTypes := #[29, 29] }, 4, "law.go:46", #[⟨0, .data⟩, ⟨1, .data⟩], none⟩) rfl (fun K hK => ?_) AllReadyH.nil)
    go_simp
    refine (OE1.out _ _ _ _ _ (own_wts (own_below ON2.out hS)) (own_cls (own_below OL2.out hS)) (Es.below RX.out hS) (Es.below RY.out hS)).mono ?_; rintro e u2 ⟨rfl, hb⟩
    replace hS := hS.trans (hb.mono hS.size)
    clear hb
    go_wp2_with fail
    refine Shut.out hK _ _ hS (fun _ => ?_)
    clear hK K
    try simp only [Act.put, List.setIfInBounds_toArray, List.set_cons_zero, List.set_cons_succ]
    refine wpAnyH_take (i := 3) (oi := ⟨some 62, .move (.tmp 61), 4, "law.go:46", #[⟨2, .data⟩, ⟨2, .chain⟩], none⟩) (v := ?_) rfl (by kernel_rfl) (by kernel_rfl) (by kernel_rfl) (fun _ _ _ h => h) (Or.inl ⟨by rfl, ?_⟩) hS ?_
    rotate_left
    · intro wv _; go_simp; try with_reducible rfl
    try simp only [Act.put, List.setIfInBounds_toArray, List.set_cons_zero, List.set_cons_succ]
    refine wpAnyH_take (i := 4) (oi := ⟨some 63, .load 31 (.tmp 8), 31, "law.go:46", #[⟨3, .guard⟩], some (3, true)⟩) (v := .agg (([.int .i64 gop, .int .i64 gstage, .int .i64 gphase, .int .i64 gold, .int .i64 gsince, .int .i64 gleft, .bool gawoke, .bool gstarve, .int .i64 gneed, .bool gfront] : List Value)).toArray) rfl (by kernel_rfl) (by kernel_rfl) (by kernel_rfl) (fun _ _ _ h => h) (yieldsIf_load_mid (by rfl) _ _ (by rfl) (sx + 1) (0) (by rfl) _ _ (fun wv hS => blk_rngl (blk_below Vg.out hS (blk_lt Vg.out))) Try.underlying31 (by rfl) (by kernel_rfl)) hS ?_
    try simp only [Act.put, List.setIfInBounds_toArray, List.set_cons_zero, List.set_cons_succ]
    refine wpAnyH_take (i := 5) (oi := ⟨some 64, .load 31 (.tmp 11), 31, "law.go:46", #[⟨3, .guard⟩], some (3, true)⟩) (v := .agg (([.int .i64 gop, .int .i64 gstage, .int .i64 gphase, .int .i64 gold, .int .i64 gsince, .int .i64 gleft, .bool gawoke, .bool gstarve, .int .i64 gneed, .bool gfront] : List Value)).toArray) rfl (by kernel_rfl) (by kernel_rfl) (by kernel_rfl) (fun _ _ _ h => h) (yieldsIf_load_mid (by rfl) _ _ (by rfl) (sy + 1) (0) (by rfl) _ _ (fun wv hS => blk_rngl (blk_below Vh.out hS (blk_lt Vh.out))) Try.underlying31 (by rfl) (by kernel_rfl)) hS ?_
    try simp only [Act.put, List.setIfInBounds_toArray, List.set_cons_zero, List.set_cons_succ]
    refine wpAnyH_take (i := 6) (oi := ⟨some 65, .binOp .eql 31 (.tmp 63) (.tmp 64) 31, 4, "law.go:46", #[⟨4, .data⟩, ⟨5, .data⟩, ⟨3, .guard⟩], some (3, true)⟩) (v := ?_) rfl (by kernel_rfl) (by kernel_rfl) (by kernel_rfl) (fun _ _ _ h => h) (Or.inl ⟨by rfl, ?_⟩) hS ?_
    rotate_left
    · intro wv hS; have hrun := (hf1 wv); go_simp; try with_reducible rfl
    try simp only [Act.put, List.setIfInBounds_toArray, List.set_cons_zero, List.set_cons_succ]
    refine wpAnyH_take (i := 7) (oi := ⟨some 66, .pick (.tmp 62) (.tmp 65) (.const (Value.bool false)), 4, "law.go:46", #[⟨3, .data⟩, ⟨6, .data⟩], none⟩) (v := ?_) rfl (by kernel_rfl) (by kernel_rfl) (by kernel_rfl) (fun _ _ _ h => h) (Or.inl ⟨by rfl, ?_⟩) hS ?_
    rotate_left
    · intro wv _; go_simp; try with_reducible rfl
    try simp only [Act.put, List.setIfInBounds_toArray, List.set_cons_zero, List.set_cons_succ]
    refine wpAnyH_take (i := 8) (oi := ⟨some 67, .move (.tmp 66), 4, "law.go:46", #[⟨7, .data⟩, ⟨3, .chain⟩], none⟩) (v := ?_) rfl (by kernel_rfl) (by kernel_rfl) (by kernel_rfl) (fun _ _ _ h => h) (Or.inl ⟨by rfl, ?_⟩) hS ?_
    rotate_left
    · intro wv _; go_simp; try with_reducible rfl
    try simp only [Act.put, List.setIfInBounds_toArray, List.set_cons_zero, List.set_cons_succ]
    refine wpAnyH_take (i := 9) (oi := ⟨some 68, .load 39 (.tmp 9), 39, "law.go:46", #[⟨8, .guard⟩], some (8, true)⟩) (v := .agg (([.bool gdn, .bool false, .bool ghd, .int .i64 ggv, .int .i64 gft, .int .u64 gvl, .slice WA wn wc] : List Value)).toArray) rfl (by kernel_rfl) (by kernel_rfl) (by kernel_rfl) (fun _ _ _ h => h) (yieldsIf_load_mid (by rfl) _ _ (by rfl) (sx + 2) (0) (by rfl) _ _ (fun wv hS => blk_rngl (blk_below Va.out hS (blk_lt Va.out))) Try.underlying39 (by rfl) (by kernel_rfl)) hS ?_
    try simp only [Act.put, List.setIfInBounds_toArray, List.set_cons_zero, List.set_cons_succ]
    refine wpAnyH_take (i := 10) (oi := ⟨some 69, .load 39 (.tmp 12), 39, "law.go:46", #[⟨8, .guard⟩], some (8, true)⟩) (v := .agg (([.bool gdn, .bool false, .bool ghd, .int .i64 ggv, .int .i64 gft, .int .u64 gvl, .slice WA wn wc] : List Value)).toArray) rfl (by kernel_rfl) (by kernel_rfl) (by kernel_rfl) (fun _ _ _ h => h) (yieldsIf_load_mid (by rfl) _ _ (by rfl) (sy + 2) (0) (by rfl) _ _ (fun wv hS => blk_rngl (blk_below Vb.out hS (blk_lt Vb.out))) Try.underlying39 (by rfl) (by kernel_rfl)) hS ?_
    try simp only [Act.put, List.setIfInBounds_toArray, List.set_cons_zero, List.set_cons_succ]
    refine wpAnyH_ready (rs := [11]) (by kernel_rfl) (by simp) (AllReadyH.cons (o := ⟨some 70, .call { callee := .value (.func 12), args := #[.tmp 68, .tmp 69], argTypes := #[39, 39] }, 4, "law.go:46", #[⟨9, .data⟩, ⟨10, .data⟩, ⟨8, .chain⟩, ⟨8, .guard⟩], some (8, true)⟩) rfl (fun K hK => ?_) AllReadyH.nil)
    go_simp
    refine (AE1.out _).mono ?_; rintro e u11 ⟨rfl, hb⟩
    replace hS := hS.trans (hb.mono hS.size)
    clear hb
    go_wp2_with fail
    refine Shut.out hK _ _ hS (fun _ => ?_)
    clear hK K
    try simp only [Act.put, List.setIfInBounds_toArray, List.set_cons_zero, List.set_cons_succ]
    refine wpAnyH_take (i := 12) (oi := ⟨some 71, .pick (.tmp 67) (.tmp 70) (.const (Value.bool false)), 4, "law.go:46", #[⟨8, .data⟩, ⟨11, .data⟩], none⟩) (v := ?_) rfl (by kernel_rfl) (by kernel_rfl) (by kernel_rfl) (fun _ _ _ h => h) (Or.inl ⟨by rfl, ?_⟩) hS ?_
    rotate_left
    · intro wv _; go_simp; try with_reducible rfl
    try simp only [Act.put, List.setIfInBounds_toArray, List.set_cons_zero, List.set_cons_succ]
    refine wpAnyH_take (i := 13) (oi := ⟨some 72, .move (.tmp 71), 4, "law.go:46", #[⟨12, .data⟩, ⟨11, .chain⟩], none⟩) (v := ?_) rfl (by kernel_rfl) (by kernel_rfl) (by kernel_rfl) (fun _ _ _ h => h) (Or.inl ⟨by rfl, ?_⟩) hS ?_
    rotate_left
    · intro wv _; go_simp; try with_reducible rfl
    try simp only [Act.put, List.setIfInBounds_toArray, List.set_cons_zero, List.set_cons_succ]
    refine wpAnyH_take (i := 14) (oi := ⟨some 73, .load 29 (.tmp 13), 29, "law.go:46", #[⟨13, .guard⟩], some (13, true)⟩) (v := .agg (([.int .i64 kd, .int .i64 y0, .int .i64 o1, .int .i64 y2, .int .i64 o3, .int .i64 o4, .int .i64 o5, .int .u32 wa, .int .u32 to, .slice A3 n c3, .slice B3 m d3] : List Value)).toArray) rfl (by kernel_rfl) (by kernel_rfl) (by kernel_rfl) (fun _ _ _ h => h) (yieldsIf_load_mid (by rfl) _ _ (by rfl) (sp) (0) (by rfl) _ _ (fun wv hS => blk_rngl (blk_below Vp.out hS (blk_lt Vp.out))) Try.underlying29 (by rfl) (by kernel_rfl)) hS ?_
    try simp only [Act.put, List.setIfInBounds_toArray, List.set_cons_zero, List.set_cons_succ]
    refine wpAnyH_take (i := 15) (oi := ⟨some 74, .load 29 (.tmp 16), 29, "law.go:46", #[⟨13, .guard⟩], some (13, true)⟩) (v := .agg (([.int .i64 kd, .int .i64 y0, .int .i64 o1, .int .i64 y2, .int .i64 o3, .int .i64 o4, .int .i64 o5, .int .u32 wa, .int .u32 to, .slice A n c, .slice B m d] : List Value)).toArray) rfl (by kernel_rfl) (by kernel_rfl) (by kernel_rfl) (fun _ _ _ h => h) (yieldsIf_load_mid (by rfl) _ _ (by rfl) (sq) (0) (by rfl) _ _ (fun wv hS => blk_rngl (blk_below Vq.out hS (blk_lt Vq.out))) Try.underlying29 (by rfl) (by kernel_rfl)) hS ?_
    try simp only [Act.put, List.setIfInBounds_toArray, List.set_cons_zero, List.set_cons_succ]
    refine wpAnyH_ready (rs := [16]) (by kernel_rfl) (by simp) (AllReadyH.cons (o := ⟨some 75, .call { callee := .value (.func 11), args := #[.tmp 73, .tmp 74], argTypes := #[29, 29] }, 4, "law.go:46", #[⟨14, .data⟩, ⟨15, .data⟩, ⟨13, .chain⟩, ⟨13, .guard⟩], some (13, true)⟩) rfl (fun K hK => ?_) AllReadyH.nil)
    go_simp
    refine (OE2.out _ _ _ _ _ (own_wts (own_below ON3.out hS)) (own_cls (own_below OL3.out hS)) (Es.below RX.out hS) (Es.below RY.out hS)).mono ?_; rintro e u16 ⟨rfl, hb⟩
    replace hS := hS.trans (hb.mono hS.size)
    clear hb
    go_wp2_with fail
    refine Shut.out hK _ _ hS (fun _ => ?_)
    clear hK K
    try simp only [Act.put, List.setIfInBounds_toArray, List.set_cons_zero, List.set_cons_succ]
    refine wpAnyH_take (i := 17) (oi := ⟨some 76, .pick (.tmp 72) (.tmp 75) (.const (Value.bool false)), 4, "law.go:46", #[⟨13, .data⟩, ⟨16, .data⟩], none⟩) (v := ?_) rfl (by kernel_rfl) (by kernel_rfl) (by kernel_rfl) (fun _ _ _ h => h) (Or.inl ⟨by rfl, ?_⟩) hS ?_
    rotate_left
    · intro wv _; go_simp; try with_reducible rfl
    try simp only [Act.put, List.setIfInBounds_toArray, List.set_cons_zero, List.set_cons_succ]
    refine wpAnyH_take (i := 18) (oi := ⟨some 77, .move (.tmp 76), 4, "law.go:46", #[⟨17, .data⟩, ⟨16, .chain⟩], none⟩) (v := ?_) rfl (by kernel_rfl) (by kernel_rfl) (by kernel_rfl) (fun _ _ _ h => h) (Or.inl ⟨by rfl, ?_⟩) hS ?_
    rotate_left
    · intro wv _; go_simp; try with_reducible rfl
    try simp only [Act.put, List.setIfInBounds_toArray, List.set_cons_zero, List.set_cons_succ]
    refine wpAnyH_take (i := 19) (oi := ⟨some 78, .load 31 (.tmp 14), 31, "law.go:46", #[⟨18, .guard⟩], some (18, true)⟩) (v := .agg (([.int .i64 hop, .int .i64 hstage, .int .i64 hphase, .int .i64 hold, .int .i64 hsince, .int .i64 hleft, .bool hawoke, .bool hstarve, .int .i64 hneed, .bool hfront] : List Value)).toArray) rfl (by kernel_rfl) (by kernel_rfl) (by kernel_rfl) (fun _ _ _ h => h) (yieldsIf_load_mid (by rfl) _ _ (by rfl) (sp + 1) (0) (by rfl) _ _ (fun wv hS => blk_rngl (blk_below Vi.out hS (blk_lt Vi.out))) Try.underlying31 (by rfl) (by kernel_rfl)) hS ?_
    try simp only [Act.put, List.setIfInBounds_toArray, List.set_cons_zero, List.set_cons_succ]
    refine wpAnyH_take (i := 20) (oi := ⟨some 79, .load 31 (.tmp 17), 31, "law.go:46", #[⟨18, .guard⟩], some (18, true)⟩) (v := .agg (([.int .i64 hop, .int .i64 hstage, .int .i64 hphase, .int .i64 hold, .int .i64 hsince, .int .i64 hleft, .bool hawoke, .bool hstarve, .int .i64 hneed, .bool hfront] : List Value)).toArray) rfl (by kernel_rfl) (by kernel_rfl) (by kernel_rfl) (fun _ _ _ h => h) (yieldsIf_load_mid (by rfl) _ _ (by rfl) (sq + 1) (0) (by rfl) _ _ (fun wv hS => blk_rngl (blk_below Vj.out hS (blk_lt Vj.out))) Try.underlying31 (by rfl) (by kernel_rfl)) hS ?_
    try simp only [Act.put, List.setIfInBounds_toArray, List.set_cons_zero, List.set_cons_succ]
    refine wpAnyH_take (i := 21) (oi := ⟨some 80, .binOp .eql 31 (.tmp 78) (.tmp 79) 31, 4, "law.go:46", #[⟨19, .data⟩, ⟨20, .data⟩, ⟨18, .guard⟩], some (18, true)⟩) (v := ?_) rfl (by kernel_rfl) (by kernel_rfl) (by kernel_rfl) (fun _ _ _ h => h) (Or.inl ⟨by rfl, ?_⟩) hS ?_
    rotate_left
    · intro wv hS; have hrun := (hf2 wv); go_simp; try with_reducible rfl
    try simp only [Act.put, List.setIfInBounds_toArray, List.set_cons_zero, List.set_cons_succ]
    refine wpAnyH_take (i := 22) (oi := ⟨some 81, .pick (.tmp 77) (.tmp 80) (.const (Value.bool false)), 4, "law.go:46", #[⟨18, .data⟩, ⟨21, .data⟩], none⟩) (v := ?_) rfl (by kernel_rfl) (by kernel_rfl) (by kernel_rfl) (fun _ _ _ h => h) (Or.inl ⟨by rfl, ?_⟩) hS ?_
    rotate_left
    · intro wv _; go_simp; try with_reducible rfl
    try simp only [Act.put, List.setIfInBounds_toArray, List.set_cons_zero, List.set_cons_succ]
    refine wpAnyH_take (i := 23) (oi := ⟨some 82, .move (.tmp 81), 4, "law.go:46", #[⟨22, .data⟩, ⟨18, .chain⟩], none⟩) (v := ?_) rfl (by kernel_rfl) (by kernel_rfl) (by kernel_rfl) (fun _ _ _ h => h) (Or.inl ⟨by rfl, ?_⟩) hS ?_
    rotate_left
    · intro wv _; go_simp; try with_reducible rfl
    try simp only [Act.put, List.setIfInBounds_toArray, List.set_cons_zero, List.set_cons_succ]
    refine wpAnyH_take (i := 24) (oi := ⟨some 83, .load 39 (.tmp 15), 39, "law.go:46", #[⟨23, .guard⟩], some (23, true)⟩) (v := .agg (([.bool hdn, .bool false, .bool hhd, .int .i64 hgv, .int .i64 hft, .int .u64 hvl, .slice WA wn wc] : List Value)).toArray) rfl (by kernel_rfl) (by kernel_rfl) (by kernel_rfl) (fun _ _ _ h => h) (yieldsIf_load_mid (by rfl) _ _ (by rfl) (sp + 2) (0) (by rfl) _ _ (fun wv hS => blk_rngl (blk_below Vc.out hS (blk_lt Vc.out))) Try.underlying39 (by rfl) (by kernel_rfl)) hS ?_
    try simp only [Act.put, List.setIfInBounds_toArray, List.set_cons_zero, List.set_cons_succ]
    refine wpAnyH_take (i := 25) (oi := ⟨some 84, .load 39 (.tmp 18), 39, "law.go:46", #[⟨23, .guard⟩], some (23, true)⟩) (v := .agg (([.bool hdn, .bool false, .bool hhd, .int .i64 hgv, .int .i64 hft, .int .u64 hvl, .slice WA wn wc] : List Value)).toArray) rfl (by kernel_rfl) (by kernel_rfl) (by kernel_rfl) (fun _ _ _ h => h) (yieldsIf_load_mid (by rfl) _ _ (by rfl) (sq + 2) (0) (by rfl) _ _ (fun wv hS => blk_rngl (blk_below Ve.out hS (blk_lt Ve.out))) Try.underlying39 (by rfl) (by kernel_rfl)) hS ?_
    try simp only [Act.put, List.setIfInBounds_toArray, List.set_cons_zero, List.set_cons_succ]
    refine wpAnyH_ready (rs := [26]) (by kernel_rfl) (by simp) (AllReadyH.cons (o := ⟨some 85, .call { callee := .value (.func 12), args := #[.tmp 83, .tmp 84], argTypes := #[39, 39] }, 4, "law.go:46", #[⟨24, .data⟩, ⟨25, .data⟩, ⟨23, .chain⟩, ⟨23, .guard⟩], some (23, true)⟩) rfl (fun K hK => ?_) AllReadyH.nil)
    go_simp
    refine (AE2.out _).mono ?_; rintro e u26 ⟨rfl, hb⟩
    replace hS := hS.trans (hb.mono hS.size)
    clear hb
    go_wp2_with fail
    refine Shut.out hK _ _ hS (fun _ => ?_)
    clear hK K
    try simp only [Act.put, List.setIfInBounds_toArray, List.set_cons_zero, List.set_cons_succ]
    refine wpAnyH_take (i := 27) (oi := ⟨some 86, .pick (.tmp 82) (.tmp 85) (.const (Value.bool false)), 4, "law.go:46", #[⟨23, .data⟩, ⟨26, .data⟩], none⟩) (v := ?_) rfl (by kernel_rfl) (by kernel_rfl) (by kernel_rfl) (fun _ _ _ h => h) (Or.inl ⟨by rfl, ?_⟩) hS ?_
    rotate_left
    · intro wv _; go_simp; try with_reducible rfl
    try simp only [Act.put, List.setIfInBounds_toArray, List.set_cons_zero, List.set_cons_succ]
    refine wpAnyH_take (i := 28) (oi := ⟨some 87, .move (.tmp 86), 4, "law.go:46", #[⟨27, .data⟩, ⟨26, .chain⟩], none⟩) (v := ?_) rfl (by kernel_rfl) (by kernel_rfl) (by kernel_rfl) (fun _ _ _ h => h) (Or.inl ⟨by rfl, ?_⟩) hS ?_
    rotate_left
    · intro wv _; go_simp; try with_reducible rfl
    try simp only [Act.put, List.setIfInBounds_toArray, List.set_cons_zero, List.set_cons_succ]
    refine wpAnyH_take (i := 29) (oi := ⟨some 88, .load 29 (.tmp 3), 29, "law.go:46", #[⟨28, .guard⟩], some (28, true)⟩) (v := .agg (([.int .i64 kd, .int .i64 o0, .int .i64 o1, .int .i64 o2, .int .i64 o3, .int .i64 o4, .int .i64 o5, .int .u32 wa, .int .u32 to, .slice A n c, .slice B m d] : List Value)).toArray) rfl (by kernel_rfl) (by kernel_rfl) (by kernel_rfl) (fun _ _ _ h => h) (yieldsIf_load_mid (by rfl) _ _ (by rfl) (w.heap.size) (0) (by rfl) _ _ (fun wv hS => blk_rngl (blk_below Vo.out hS (blk_lt Vo.out))) Try.underlying29 (by rfl) (by kernel_rfl)) hS ?_
    try simp only [Act.put, List.setIfInBounds_toArray, List.set_cons_zero, List.set_cons_succ]
    refine wpAnyH_take (i := 31) (oi := ⟨some 90, .fieldAddr 29 (.tmp 3) 1, 0, "law.go:46", #[⟨28, .guard⟩], some (28, true)⟩) (v := ?_) rfl (by kernel_rfl) (by kernel_rfl) (by kernel_rfl) (fun _ _ _ h => h) (Or.inl ⟨by rfl, ?_⟩) hS ?_
    rotate_left
    · intro wv _; go_simp; try with_reducible rfl
    try simp only [Act.put, List.setIfInBounds_toArray, List.set_cons_zero, List.set_cons_succ]
    refine wpAnyH_take (i := 32) (oi := ⟨some 91, .indexAddr 22 (.tmp 90) (.const (Value.int IntKind.i64 2)), 0, "law.go:46", #[⟨31, .data⟩, ⟨28, .guard⟩], some (28, true)⟩) (v := ?_) rfl (by kernel_rfl) (by kernel_rfl) (by kernel_rfl) (fun _ _ _ h => h) (Or.inl ⟨by rfl, ?_⟩) hS ?_
    rotate_left
    · intro wv _; go_simp; try with_reducible rfl
    try simp only [Act.put, List.setIfInBounds_toArray, List.set_cons_zero, List.set_cons_succ]
    refine wpAnyH_take (i := 33) (oi := ⟨some 92, .load 2 (.tmp 91), 2, "law.go:46", #[⟨32, .data⟩, ⟨28, .guard⟩], some (28, true)⟩) (v := ?_) rfl (by kernel_rfl) (by kernel_rfl) (by kernel_rfl) (fun _ _ _ h => h) (Or.inl ⟨by rfl, ?_⟩) hS ?_
    rotate_left
    · intro wv hS; have hrun := (show wv.cell? ⟨w.heap.size, 3, none⟩ = some (.int .i64 o2) from (blk_cell (blk_below Vo.out hS (blk_lt Vo.out)) 3).trans rfl); go_simp; try with_reducible rfl
    try simp only [Act.put, List.setIfInBounds_toArray, List.set_cons_zero, List.set_cons_succ]
    refine wpAnyH_take (i := 34) (oi := ⟨some 93, .binOp .eql 2 (.tmp 92) (.const (Value.int IntKind.i64 1)) 2, 4, "law.go:46", #[⟨33, .data⟩, ⟨28, .guard⟩], some (28, true)⟩) (v := ?_) rfl (by kernel_rfl) (by kernel_rfl) (by kernel_rfl) (fun _ _ _ h => h) (Or.inl ⟨by rfl, ?_⟩) hS ?_
    rotate_left
    · intro wv _; go_simp; try with_reducible rfl
    try simp only [Act.put, List.setIfInBounds_toArray, List.set_cons_zero, List.set_cons_succ]
    refine wpAnyH_ready (rs := [30]) (by kernel_rfl) (by simp) (AllReadyH.cons (o := ⟨some 89, .call { callee := .value (.func 13), args := #[.tmp 88], argTypes := #[29] }, 4, "law.go:46", #[⟨29, .data⟩, ⟨28, .chain⟩, ⟨28, .guard⟩], some (28, true)⟩) rfl (fun K hK => ?_) AllReadyH.nil)
    go_simp
    refine (OV.out _).mono ?_; rintro e u30 ⟨rfl, hb⟩
    replace hS := hS.trans (hb.mono hS.size)
    clear hb
    go_wp2_with fail
    refine Shut.out hK _ _ hS (fun _ => ?_)
    clear hK K
    try simp only [Act.put, List.setIfInBounds_toArray, List.set_cons_zero, List.set_cons_succ]
    refine wpAnyH_take (i := 35) (oi := ⟨some 94, .binOp .eql 4 (.tmp 89) (.tmp 93) 4, 4, "law.go:46", #[⟨30, .data⟩, ⟨34, .data⟩, ⟨28, .guard⟩], some (28, true)⟩) (v := ?_) rfl (by kernel_rfl) (by kernel_rfl) (by kernel_rfl) (fun _ _ _ h => h) (Or.inl ⟨by rfl, ?_⟩) hS ?_
    rotate_left
    · intro wv _; go_simp; try with_reducible rfl
    try simp only [Act.put, List.setIfInBounds_toArray, List.set_cons_zero, List.set_cons_succ]
    refine wpAnyH_take (i := 36) (oi := ⟨some 95, .pick (.tmp 87) (.tmp 94) (.const (Value.bool false)), 4, "law.go:46", #[⟨28, .data⟩, ⟨35, .data⟩], none⟩) (v := ?_) rfl (by kernel_rfl) (by kernel_rfl) (by kernel_rfl) (fun _ _ _ h => h) (Or.inl ⟨by rfl, ?_⟩) hS ?_
    rotate_left
    · intro wv _; go_simp; try with_reducible rfl
    try simp only [Act.put, List.setIfInBounds_toArray, List.set_cons_zero, List.set_cons_succ]
    refine wpAnyH_take (i := 37) (oi := ⟨some 6, .assign (.tmp 95), 4, "law.go:46", #[⟨36, .data⟩, ⟨30, .chain⟩, ⟨0, .phase⟩, ⟨1, .phase⟩, ⟨2, .phase⟩, ⟨3, .phase⟩, ⟨4, .phase⟩, ⟨5, .phase⟩, ⟨6, .phase⟩, ⟨7, .phase⟩, ⟨8, .phase⟩, ⟨9, .phase⟩, ⟨10, .phase⟩, ⟨11, .phase⟩, ⟨12, .phase⟩, ⟨13, .phase⟩, ⟨14, .phase⟩, ⟨15, .phase⟩, ⟨16, .phase⟩, ⟨17, .phase⟩, ⟨18, .phase⟩, ⟨19, .phase⟩, ⟨20, .phase⟩, ⟨21, .phase⟩, ⟨22, .phase⟩, ⟨23, .phase⟩, ⟨24, .phase⟩, ⟨25, .phase⟩, ⟨26, .phase⟩, ⟨27, .phase⟩, ⟨28, .phase⟩, ⟨29, .phase⟩, ⟨30, .phase⟩, ⟨31, .phase⟩, ⟨32, .phase⟩, ⟨33, .phase⟩, ⟨34, .phase⟩, ⟨35, .phase⟩, ⟨36, .phase⟩], none⟩) (v := ?_) rfl (by kernel_rfl) (by kernel_rfl) (by kernel_rfl) (fun _ _ _ h => h) (Or.inl ⟨by rfl, ?_⟩) hS ?_
    rotate_left
    · intro wv _; go_simp; try with_reducible rfl
    try simp only [Act.put, List.setIfInBounds_toArray, List.set_cons_zero, List.set_cons_succ]
    refine wpAnyH_done (by kernel_rfl) ?_ _
    refine NoPanic.normal ?_
    go_wp2
    go_ret
    exact ⟨rfl, HB.out.1.trans (hS.mono HB.out.2)⟩
end Go.Proofs.Ytkecmiedeihdgaa
