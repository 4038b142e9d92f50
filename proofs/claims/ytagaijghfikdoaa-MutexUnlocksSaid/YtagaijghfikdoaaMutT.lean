/- The walks of MutexLocks and MutexUnlocks: each answers true, over any world; no condition. -/
import Derived.Test.YtagaijghfikdoaaMutS
import Derived.Test.YtagaijghfikdoaaMutE
namespace Go.Proofs.Ytagaijghfikdoaa
set_option linter.unusedVariables false
set_option linter.unusedSimpArgs false
open Go.RowKit
theorem fr_self (op stage phase old since left : Int) (awoke starve : Bool) (need : Int) (front : Bool) (W : World) : (binOp .eql 31 (.agg #[.int .i64 op, .int .i64 stage, .int .i64 phase, .int .i64 old, .int .i64 since, .int .i64 left, .bool awoke, .bool starve, .int .i64 need, .bool front]) (.agg #[.int .i64 op, .int .i64 stage, .int .i64 phase, .int .i64 old, .int .i64 since, .int .i64 left, .bool awoke, .bool starve, .int .i64 need, .bool front])).run Try.prog W = .ok (.bool true) W := by
  go_simp
set_option maxRecDepth 100000 in
set_option maxHeartbeats 16000000 in
theorem locks15_walk (kd o0 o1 o2 o3 o4 o5 wa to : Int) (A : Option Addr) (n c : Nat) (B : Option Addr) (m d : Nat) (nl : List Wt) (ll : List Cl) (op stage phase old since left : Int) (awoke starve : Bool) (need : Int) (front : Bool) (x0 x1 : Int) (w : World) (hx : Wts w A n c nl) (hy : Cls w B m d ll) :
    Calls Try.prog 3 #[obV kd o0 o1 o2 o3 o4 o5 wa to A n c B m d, frV ⟨op, stage, phase, old, since, left, awoke, starve, need, front⟩, .agg #[.int .i64 x0, .int .i64 x1]] w fun e w' => e = .returned (.bool true) ∧ Below w.heap.size w w' := by
  have RX := Lib.hid hx; have RY := Lib.hid hy
  clear hx hy
  unfold obV frV frC
  simp only
  have HB := Lib.hid (And.intro (Below.refl w.heap.size w) (Nat.le_refl w.heap.size))
  have gq := HB.out.2
  obtain ⟨w1, hw1⟩ : ∃ W, (((w.alloc (.cells #[.int .i64 kd, .int .i64 o0, .int .i64 o1, .int .i64 o2, .int .i64 o3, .int .i64 o4, .int .i64 o5, .int .u32 wa, .int .u32 to, .slice A n c, .slice B m d] 29)).alloc (.cells #[.int .i64 op, .int .i64 stage, .int .i64 phase, .int .i64 old, .int .i64 since, .int .i64 left, .bool awoke, .bool starve, .int .i64 need, .bool front] 31)).alloc (.cells #[.int .i64 x0, .int .i64 x1] 32)) = W := ⟨_, rfl⟩
  have hb : Below w.heap.size w w1 := hw1 ▸ ((((Below.refl _ _).alloc (Nat.le_refl _) _).alloc (by first | (simp; done) | (simp; omega)) _).alloc (by first | (simp; done) | (simp; omega)) _)
  have hv0 : w1.heap[w.heap.size]? = some (.cells #[.int .i64 kd, .int .i64 o0, .int .i64 o1, .int .i64 o2, .int .i64 o3, .int .i64 o4, .int .i64 o5, .int .u32 wa, .int .u32 to, .slice A n c, .slice B m d] 29) := by
    have h0 := heap_alloc_new w (.cells #[.int .i64 kd, .int .i64 o0, .int .i64 o1, .int .i64 o2, .int .i64 o3, .int .i64 o4, .int .i64 o5, .int .u32 wa, .int .u32 to, .slice A n c, .slice B m d] 29)
    rw [show w.heap.size = w.heap.size by simp [Nat.add_assoc]] at h0
    rw [← hw1]
    rw [heap_alloc_old _ _ (by simp <;> omega), heap_alloc_old _ _ (by simp <;> omega)]; exact h0
  have hv1 : w1.heap[w.heap.size + 1]? = some (.cells #[.int .i64 op, .int .i64 stage, .int .i64 phase, .int .i64 old, .int .i64 since, .int .i64 left, .bool awoke, .bool starve, .int .i64 need, .bool front] 31) := by
    have h0 := heap_alloc_new (w.alloc (.cells #[.int .i64 kd, .int .i64 o0, .int .i64 o1, .int .i64 o2, .int .i64 o3, .int .i64 o4, .int .i64 o5, .int .u32 wa, .int .u32 to, .slice A n c, .slice B m d] 29)) (.cells #[.int .i64 op, .int .i64 stage, .int .i64 phase, .int .i64 old, .int .i64 since, .int .i64 left, .bool awoke, .bool starve, .int .i64 need, .bool front] 31)
    rw [show (w.alloc (.cells #[.int .i64 kd, .int .i64 o0, .int .i64 o1, .int .i64 o2, .int .i64 o3, .int .i64 o4, .int .i64 o5, .int .u32 wa, .int .u32 to, .slice A n c, .slice B m d] 29)).heap.size = w.heap.size + 1 by simp [Nat.add_assoc]] at h0
    rw [← hw1]
    rw [heap_alloc_old _ _ (by simp <;> omega)]; exact h0
  have hv2 : w1.heap[w.heap.size + 2]? = some (.cells #[.int .i64 x0, .int .i64 x1] 32) := by
    have h0 := heap_alloc_new ((w.alloc (.cells #[.int .i64 kd, .int .i64 o0, .int .i64 o1, .int .i64 o2, .int .i64 o3, .int .i64 o4, .int .i64 o5, .int .u32 wa, .int .u32 to, .slice A n c, .slice B m d] 29)).alloc (.cells #[.int .i64 op, .int .i64 stage, .int .i64 phase, .int .i64 old, .int .i64 since, .int .i64 left, .bool awoke, .bool starve, .int .i64 need, .bool front] 31)) (.cells #[.int .i64 x0, .int .i64 x1] 32)
    rw [show ((w.alloc (.cells #[.int .i64 kd, .int .i64 o0, .int .i64 o1, .int .i64 o2, .int .i64 o3, .int .i64 o4, .int .i64 o5, .int .u32 wa, .int .u32 to, .slice A n c, .slice B m d] 29)).alloc (.cells #[.int .i64 op, .int .i64 stage, .int .i64 phase, .int .i64 old, .int .i64 since, .int .i64 left, .bool awoke, .bool starve, .int .i64 need, .bool front] 31)).heap.size = w.heap.size + 2 by simp [Nat.add_assoc]] at h0
    rw [← hw1]
    exact h0
  replace RX := Lib.hid (Es.below RX.out hb)
  replace RY := Lib.hid (Es.below RY.out hb)
  replace HB := Lib.hid (And.intro (HB.out.1.trans (hb.mono HB.out.2)) (Nat.le_trans HB.out.2 hb.size))
  have Vo := Lib.hid hv0
  have geo := gq
  have Vf := Lib.hid hv1
  have neo_f : w.heap.size ≠ w.heap.size + 1 := by omega
  have gef : _ ≤ w.heap.size + 1 := Nat.le_trans gq (Nat.le_add_right _ 1)
  have Vt := Lib.hid hv2
  have neo_t : w.heap.size ≠ w.heap.size + 2 := by omega
  have nef_t : w.heap.size + 1 ≠ w.heap.size + 2 := by omega
  have get : _ ≤ w.heap.size + 2 := Nat.le_trans gq (Nat.le_add_right _ 2)
  generalize hso : w.heap.size = so at *
  clear hb gq hv0 hv1 hv2
  subst hso
  have AL := Lib.hid alive15
  have g1 := fun (W : World) => great15_any kd o0 o1 o2 o3 o4 o5 wa to A n c B m d W
  skip
  by_cases h0 : 20 < n ∨ 20 < m
  · have g2 := Lib.hid (fun (W : World) => great15_yes kd o0 o1 o2 o3 o4 o5 wa to A n c B m d W h0)
    clear g1 h0
    go_enter Try.func3, Try.ntmps3
    go_wp2_with fail
    refine (AL.out _).mono ?_
    rintro e w2 ⟨rfl, hb⟩
    replace Vo := Lib.hid (blk_below Vo.out hb (blk_lt Vo.out))
    replace Vf := Lib.hid (blk_below Vf.out hb (blk_lt Vf.out))
    replace Vt := Lib.hid (blk_below Vt.out hb (blk_lt Vt.out))
    replace RX := Lib.hid (Es.below RX.out hb)
    replace RY := Lib.hid (Es.below RY.out hb)
    replace HB := Lib.hid (And.intro (HB.out.1.trans (hb.mono HB.out.2)) (Nat.le_trans HB.out.2 hb.size))
    clear hb
    obtain ⟨co0, co1, co2, co3, co4, co5, co6, co7, co8, co9, co10⟩ := row11 Vo.out
    go_wp2_with fail
    refine (g2.out _).mono ?_
    rintro e w3 ⟨rfl, hb⟩
    clear co0 co1 co2 co3 co4 co5 co6 co7 co8 co9 co10
    replace Vo := Lib.hid (blk_below Vo.out hb (blk_lt Vo.out))
    replace Vf := Lib.hid (blk_below Vf.out hb (blk_lt Vf.out))
    replace Vt := Lib.hid (blk_below Vt.out hb (blk_lt Vt.out))
    replace RX := Lib.hid (Es.below RX.out hb)
    replace RY := Lib.hid (Es.below RY.out hb)
    replace HB := Lib.hid (And.intro (HB.out.1.trans (hb.mono HB.out.2)) (Nat.le_trans HB.out.2 hb.size))
    clear hb
    go_wp2
    go_ret
    exact ⟨rfl, HB.out.1⟩
  · have hn : n ≤ 16384 := by omega
    have hm : m ≤ 16384 := by omega
    have g2 := Lib.hid (fun (W : World) => great15_no kd o0 o1 o2 o3 o4 o5 wa to A n c B m d W h0)
    clear g1 h0
    obtain ⟨⟨z, ⟨gop, gstage, gphase, gold, gsince, gleft, gawoke, gstarve, gneed, gfront⟩, ⟨gdn, ggv, ghd, gft⟩⟩, hr⟩ : ∃ r, lockM o0 ⟨op, stage, phase, old, since, left, awoke, starve, need, front⟩ x0 x1 = r := ⟨_, rfl⟩
    obtain ⟨WA, wn, wc, hwk⟩ : ∃ (X : Option Addr) (i j : Nat), (Value.slice X i j) = .slice none 0 0 := ⟨_, _, _, rfl⟩
    have L1 := Lib.hid (show ∀ (W : World), Wts W A n c nl → Cls W B m d ll → Calls Try.prog 10 #[.agg #[.int .i64 kd, .int .i64 o0, .int .i64 o1, .int .i64 o2, .int .i64 o3, .int .i64 o4, .int .i64 o5, .int .u32 wa, .int .u32 to, .slice A n c, .slice B m d], .agg #[.int .i64 op, .int .i64 stage, .int .i64 phase, .int .i64 old, .int .i64 since, .int .i64 left, .bool awoke, .bool starve, .int .i64 need, .bool front], .int .i64 x0, .int .i64 x1] W (fun e w' => ∃ A2 c2 B2 d2, e = .returned (.tuple #[.agg #[.int .i64 kd, .int .i64 z, .int .i64 o1, .int .i64 o2, .int .i64 o3, .int .i64 o4, .int .i64 o5, .int .u32 wa, .int .u32 to, .slice A2 n c2, .slice B2 m d2], .agg #[.int .i64 gop, .int .i64 gstage, .int .i64 gphase, .int .i64 gold, .int .i64 gsince, .int .i64 gleft, .bool gawoke, .bool gstarve, .int .i64 gneed, .bool gfront], .agg #[.bool gdn, .bool false, .bool ghd, .int .i64 ggv, .int .i64 gft, .int .u64 0, .slice WA wn wc]]) ∧ w'.ownsRow W.heap.size 69 2 (.slice A2 n c2) n (wtC nl) ∧ w'.ownsRow W.heap.size 64 2 (.slice B2 m d2) m (clC ll) ∧ Below W.heap.size W w') from fun W h1 h2 => by
      have h := muLock_any kd o0 o1 o2 o3 o4 o5 wa to A n c B m d nl ll ⟨op, stage, phase, old, since, left, awoke, starve, need, front⟩ x0 x1 W h1 h2 hn hm
      rw [hr] at h
      rw [hwk]
      refine h.mono ?_
      rintro e w' ⟨A2, c2, B2, d2, he, k1, k2, hb, _, _⟩
      exact ⟨A2, c2, B2, d2, he, k1, k2, hb⟩)
    have L2 := Lib.hid (show ∀ W : World, Calls Try.prog 11 #[.agg #[.int .i64 kd, .int .i64 o0, .int .i64 o1, .int .i64 o2, .int .i64 o3, .int .i64 o4, .int .i64 o5, .int .u32 wa, .int .u32 to, .slice A n c, .slice B m d], .agg #[.int .i64 op, .int .i64 stage, .int .i64 phase, .int .i64 old, .int .i64 since, .int .i64 left, .bool awoke, .bool starve, .int .i64 need, .bool front], .int .i64 x0, .int .i64 x1] W (fun e w' => e = .returned (.tuple #[.agg #[.int .i64 kd, .int .i64 z, .int .i64 o1, .int .i64 o2, .int .i64 o3, .int .i64 o4, .int .i64 o5, .int .u32 wa, .int .u32 to, .slice A n c, .slice B m d], .agg #[.int .i64 gop, .int .i64 gstage, .int .i64 gphase, .int .i64 gold, .int .i64 gsince, .int .i64 gleft, .bool gawoke, .bool gstarve, .int .i64 gneed, .bool gfront], .agg #[.bool gdn, .bool false, .bool ghd, .int .i64 ggv, .int .i64 gft, .int .u64 0, .slice WA wn wc]]) ∧ Below W.heap.size W w') from fun W => by have h := lock15_any kd o0 o1 o2 o3 o4 o5 wa to A n c B m d ⟨op, stage, phase, old, since, left, awoke, starve, need, front⟩ x0 x1 W; rw [hr] at h; rw [hwk]; exact h)
    obtain ⟨bb, hbb0⟩ : ∃ b, decide (hasBit o0 0) = b := ⟨_, rfl⟩
    have OE := Lib.hid (fun (A2 : Option Addr) (c2 : Nat) (B2 : Option Addr) (d2 : Nat) (W : World) (h1 : Wts W A2 n c2 nl) (h2 : Cls W B2 m d2 ll) (h3 : Wts W A n c nl) (h4 : Cls W B m d ll) => obj15_eq2 kd z o1 o2 o3 o4 o5 wa to A2 n c2 B2 m d2 A c B d nl ll W h1 h2 h3 h4 hn hm)
    have AE := Lib.hid (show ∀ W : World, Calls Try.prog 13 #[.agg #[.bool gdn, .bool false, .bool ghd, .int .i64 ggv, .int .i64 gft, .int .u64 0, .slice WA wn wc], .agg #[.bool gdn, .bool false, .bool ghd, .int .i64 ggv, .int .i64 gft, .int .u64 0, .slice WA wn wc]] W (YesS W true) from fun W => by rw [hwk]; exact act15_eq gdn false ghd ggv gft 0 W)
    have LK := fun (W : World) => muLocked_any kd o0 o1 o2 o3 o4 o5 wa to A n c B m d W
    have BT := fun (W : World) => bit15_any o0 0 (by omega) W
    rw [hbb0] at LK BT
    replace LK := Lib.hid LK; replace BT := Lib.hid BT
    have bbb : (bb == bb) = true := by simp
    clear hr hn hm hwk hbb0
    go_enter Try.func3, Try.ntmps3
    go_wp2_with fail
    refine (AL.out _).mono ?_
    rintro e w2 ⟨rfl, hb⟩
    replace Vo := Lib.hid (blk_below Vo.out hb (blk_lt Vo.out))
    replace Vf := Lib.hid (blk_below Vf.out hb (blk_lt Vf.out))
    replace Vt := Lib.hid (blk_below Vt.out hb (blk_lt Vt.out))
    replace RX := Lib.hid (Es.below RX.out hb)
    replace RY := Lib.hid (Es.below RY.out hb)
    replace HB := Lib.hid (And.intro (HB.out.1.trans (hb.mono HB.out.2)) (Nat.le_trans HB.out.2 hb.size))
    clear hb
    obtain ⟨co0, co1, co2, co3, co4, co5, co6, co7, co8, co9, co10⟩ := row11 Vo.out
    go_wp2_with fail
    refine (g2.out _).mono ?_
    rintro e w3 ⟨rfl, hb⟩
    clear co0 co1 co2 co3 co4 co5 co6 co7 co8 co9 co10
    replace Vo := Lib.hid (blk_below Vo.out hb (blk_lt Vo.out))
    replace Vf := Lib.hid (blk_below Vf.out hb (blk_lt Vf.out))
    replace Vt := Lib.hid (blk_below Vt.out hb (blk_lt Vt.out))
    replace RX := Lib.hid (Es.below RX.out hb)
    replace RY := Lib.hid (Es.below RY.out hb)
    replace HB := Lib.hid (And.intro (HB.out.1.trans (hb.mono HB.out.2)) (Nat.le_trans HB.out.2 hb.size))
    clear hb
    obtain ⟨co0, co1, co2, co3, co4, co5, co6, co7, co8, co9, co10⟩ := row11 Vo.out
    obtain ⟨cf0, cf1, cf2, cf3, cf4, cf5, cf6, cf7, cf8, cf9⟩ := row10 Vf.out
    obtain ⟨ct0, ct1⟩ := row2 Vt.out
    go_wp2_with fail
    refine (L1.out _ RX.out RY.out).mono ?_
    rintro e w4 ⟨A2, c2, B2, d2, rfl, hon, hol, hb⟩
    clear co0 co1 co2 co3 co4 co5 co6 co7 co8 co9 co10 cf0 cf1 cf2 cf3 cf4 cf5 cf6 cf7 cf8 cf9 ct0 ct1
    replace Vo := Lib.hid (blk_below Vo.out hb (blk_lt Vo.out))
    replace Vf := Lib.hid (blk_below Vf.out hb (blk_lt Vf.out))
    replace Vt := Lib.hid (blk_below Vt.out hb (blk_lt Vt.out))
    replace RX := Lib.hid (Es.below RX.out hb)
    replace RY := Lib.hid (Es.below RY.out hb)
    replace HB := Lib.hid (And.intro (HB.out.1.trans (hb.mono HB.out.2)) (Nat.le_trans HB.out.2 hb.size))
    clear hb
    have ON2 := Lib.hid hon; have OL2 := Lib.hid hol
    clear hon hol
    have lto := blk_lt Vo.out
    have ltf := blk_lt Vf.out
    have ltt := blk_lt Vt.out
    have gq := HB.out.2
    obtain ⟨w5, hw5⟩ : ∃ W, (((w4.alloc (.cells #[.int .i64 kd, .int .i64 z, .int .i64 o1, .int .i64 o2, .int .i64 o3, .int .i64 o4, .int .i64 o5, .int .u32 wa, .int .u32 to, .slice A2 n c2, .slice B2 m d2] 29)).alloc (.cells #[.int .i64 gop, .int .i64 gstage, .int .i64 gphase, .int .i64 gold, .int .i64 gsince, .int .i64 gleft, .bool gawoke, .bool gstarve, .int .i64 gneed, .bool gfront] 31)).alloc (.cells #[.bool gdn, .bool false, .bool ghd, .int .i64 ggv, .int .i64 gft, .int .u64 0, .slice WA wn wc] 39)) = W := ⟨_, rfl⟩
    have hb : Below w4.heap.size w4 w5 := hw5 ▸ ((((Below.refl _ _).alloc (Nat.le_refl _) _).alloc (by first | (simp; done) | (simp; omega)) _).alloc (by first | (simp; done) | (simp; omega)) _)
    have hv0 : w5.heap[w4.heap.size]? = some (.cells #[.int .i64 kd, .int .i64 z, .int .i64 o1, .int .i64 o2, .int .i64 o3, .int .i64 o4, .int .i64 o5, .int .u32 wa, .int .u32 to, .slice A2 n c2, .slice B2 m d2] 29) := by
      have h0 := heap_alloc_new w4 (.cells #[.int .i64 kd, .int .i64 z, .int .i64 o1, .int .i64 o2, .int .i64 o3, .int .i64 o4, .int .i64 o5, .int .u32 wa, .int .u32 to, .slice A2 n c2, .slice B2 m d2] 29)
      rw [show w4.heap.size = w4.heap.size by simp [Nat.add_assoc]] at h0
      rw [← hw5]
      rw [heap_alloc_old _ _ (by simp <;> omega), heap_alloc_old _ _ (by simp <;> omega)]; exact h0
    have hv1 : w5.heap[w4.heap.size + 1]? = some (.cells #[.int .i64 gop, .int .i64 gstage, .int .i64 gphase, .int .i64 gold, .int .i64 gsince, .int .i64 gleft, .bool gawoke, .bool gstarve, .int .i64 gneed, .bool gfront] 31) := by
      have h0 := heap_alloc_new (w4.alloc (.cells #[.int .i64 kd, .int .i64 z, .int .i64 o1, .int .i64 o2, .int .i64 o3, .int .i64 o4, .int .i64 o5, .int .u32 wa, .int .u32 to, .slice A2 n c2, .slice B2 m d2] 29)) (.cells #[.int .i64 gop, .int .i64 gstage, .int .i64 gphase, .int .i64 gold, .int .i64 gsince, .int .i64 gleft, .bool gawoke, .bool gstarve, .int .i64 gneed, .bool gfront] 31)
      rw [show (w4.alloc (.cells #[.int .i64 kd, .int .i64 z, .int .i64 o1, .int .i64 o2, .int .i64 o3, .int .i64 o4, .int .i64 o5, .int .u32 wa, .int .u32 to, .slice A2 n c2, .slice B2 m d2] 29)).heap.size = w4.heap.size + 1 by simp [Nat.add_assoc]] at h0
      rw [← hw5]
      rw [heap_alloc_old _ _ (by simp <;> omega)]; exact h0
    have hv2 : w5.heap[w4.heap.size + 2]? = some (.cells #[.bool gdn, .bool false, .bool ghd, .int .i64 ggv, .int .i64 gft, .int .u64 0, .slice WA wn wc] 39) := by
      have h0 := heap_alloc_new ((w4.alloc (.cells #[.int .i64 kd, .int .i64 z, .int .i64 o1, .int .i64 o2, .int .i64 o3, .int .i64 o4, .int .i64 o5, .int .u32 wa, .int .u32 to, .slice A2 n c2, .slice B2 m d2] 29)).alloc (.cells #[.int .i64 gop, .int .i64 gstage, .int .i64 gphase, .int .i64 gold, .int .i64 gsince, .int .i64 gleft, .bool gawoke, .bool gstarve, .int .i64 gneed, .bool gfront] 31)) (.cells #[.bool gdn, .bool false, .bool ghd, .int .i64 ggv, .int .i64 gft, .int .u64 0, .slice WA wn wc] 39)
      rw [show ((w4.alloc (.cells #[.int .i64 kd, .int .i64 z, .int .i64 o1, .int .i64 o2, .int .i64 o3, .int .i64 o4, .int .i64 o5, .int .u32 wa, .int .u32 to, .slice A2 n c2, .slice B2 m d2] 29)).alloc (.cells #[.int .i64 gop, .int .i64 gstage, .int .i64 gphase, .int .i64 gold, .int .i64 gsince, .int .i64 gleft, .bool gawoke, .bool gstarve, .int .i64 gneed, .bool gfront] 31)).heap.size = w4.heap.size + 2 by simp [Nat.add_assoc]] at h0
      rw [← hw5]
      exact h0
    replace Vo := Lib.hid (blk_below Vo.out hb (blk_lt Vo.out))
    replace Vf := Lib.hid (blk_below Vf.out hb (blk_lt Vf.out))
    replace Vt := Lib.hid (blk_below Vt.out hb (blk_lt Vt.out))
    replace RX := Lib.hid (Es.below RX.out hb)
    replace RY := Lib.hid (Es.below RY.out hb)
    replace ON2 := Lib.hid (own_below ON2.out hb)
    replace OL2 := Lib.hid (own_below OL2.out hb)
    replace HB := Lib.hid (And.intro (HB.out.1.trans (hb.mono HB.out.2)) (Nat.le_trans HB.out.2 hb.size))
    have Vx := Lib.hid hv0
    have neo_x := Nat.ne_of_lt lto
    have nef_x := Nat.ne_of_lt ltf
    have net_x := Nat.ne_of_lt ltt
    have gex := gq
    have Vg := Lib.hid hv1
    have neo_g := Nat.ne_of_lt (Nat.lt_of_lt_of_le lto (Nat.le_add_right w4.heap.size 1))
    have nef_g := Nat.ne_of_lt (Nat.lt_of_lt_of_le ltf (Nat.le_add_right w4.heap.size 1))
    have net_g := Nat.ne_of_lt (Nat.lt_of_lt_of_le ltt (Nat.le_add_right w4.heap.size 1))
    have nex_g : w4.heap.size ≠ w4.heap.size + 1 := by omega
    have geg : _ ≤ w4.heap.size + 1 := Nat.le_trans gq (Nat.le_add_right _ 1)
    have Va := Lib.hid hv2
    have neo_a := Nat.ne_of_lt (Nat.lt_of_lt_of_le lto (Nat.le_add_right w4.heap.size 2))
    have nef_a := Nat.ne_of_lt (Nat.lt_of_lt_of_le ltf (Nat.le_add_right w4.heap.size 2))
    have net_a := Nat.ne_of_lt (Nat.lt_of_lt_of_le ltt (Nat.le_add_right w4.heap.size 2))
    have nex_a : w4.heap.size ≠ w4.heap.size + 2 := by omega
    have neg_a : w4.heap.size + 1 ≠ w4.heap.size + 2 := by omega
    have gea : _ ≤ w4.heap.size + 2 := Nat.le_trans gq (Nat.le_add_right _ 2)
    generalize hsx : w4.heap.size = sx at *
    clear hb gq hv0 hv1 hv2 lto ltf ltt
    obtain ⟨co0, co1, co2, co3, co4, co5, co6, co7, co8, co9, co10⟩ := row11 Vo.out
    obtain ⟨cf0, cf1, cf2, cf3, cf4, cf5, cf6, cf7, cf8, cf9⟩ := row10 Vf.out
    obtain ⟨ct0, ct1⟩ := row2 Vt.out
    go_wp2_with fail
    refine (L2.out _).mono ?_
    rintro e w6 ⟨rfl, hb⟩
    clear co0 co1 co2 co3 co4 co5 co6 co7 co8 co9 co10 cf0 cf1 cf2 cf3 cf4 cf5 cf6 cf7 cf8 cf9 ct0 ct1
    replace Vo := Lib.hid (blk_below Vo.out hb (blk_lt Vo.out))
    replace Vf := Lib.hid (blk_below Vf.out hb (blk_lt Vf.out))
    replace Vt := Lib.hid (blk_below Vt.out hb (blk_lt Vt.out))
    replace Vx := Lib.hid (blk_below Vx.out hb (blk_lt Vx.out))
    replace Vg := Lib.hid (blk_below Vg.out hb (blk_lt Vg.out))
    replace Va := Lib.hid (blk_below Va.out hb (blk_lt Va.out))
    replace RX := Lib.hid (Es.below RX.out hb)
    replace RY := Lib.hid (Es.below RY.out hb)
    replace ON2 := Lib.hid (own_below ON2.out hb)
    replace OL2 := Lib.hid (own_below OL2.out hb)
    replace HB := Lib.hid (And.intro (HB.out.1.trans (hb.mono HB.out.2)) (Nat.le_trans HB.out.2 hb.size))
    clear hb
    have lto := blk_lt Vo.out
    have ltf := blk_lt Vf.out
    have ltt := blk_lt Vt.out
    have ltx := blk_lt Vx.out
    have ltg := blk_lt Vg.out
    have lta := blk_lt Va.out
    have gq := HB.out.2
    obtain ⟨w7, hw7⟩ : ∃ W, (((w6.alloc (.cells #[.int .i64 kd, .int .i64 z, .int .i64 o1, .int .i64 o2, .int .i64 o3, .int .i64 o4, .int .i64 o5, .int .u32 wa, .int .u32 to, .slice A n c, .slice B m d] 29)).alloc (.cells #[.int .i64 gop, .int .i64 gstage, .int .i64 gphase, .int .i64 gold, .int .i64 gsince, .int .i64 gleft, .bool gawoke, .bool gstarve, .int .i64 gneed, .bool gfront] 31)).alloc (.cells #[.bool gdn, .bool false, .bool ghd, .int .i64 ggv, .int .i64 gft, .int .u64 0, .slice WA wn wc] 39)) = W := ⟨_, rfl⟩
    have hb : Below w6.heap.size w6 w7 := hw7 ▸ ((((Below.refl _ _).alloc (Nat.le_refl _) _).alloc (by first | (simp; done) | (simp; omega)) _).alloc (by first | (simp; done) | (simp; omega)) _)
    have hv0 : w7.heap[w6.heap.size]? = some (.cells #[.int .i64 kd, .int .i64 z, .int .i64 o1, .int .i64 o2, .int .i64 o3, .int .i64 o4, .int .i64 o5, .int .u32 wa, .int .u32 to, .slice A n c, .slice B m d] 29) := by
      have h0 := heap_alloc_new w6 (.cells #[.int .i64 kd, .int .i64 z, .int .i64 o1, .int .i64 o2, .int .i64 o3, .int .i64 o4, .int .i64 o5, .int .u32 wa, .int .u32 to, .slice A n c, .slice B m d] 29)
      rw [show w6.heap.size = w6.heap.size by simp [Nat.add_assoc]] at h0
      rw [← hw7]
      rw [heap_alloc_old _ _ (by simp <;> omega), heap_alloc_old _ _ (by simp <;> omega)]; exact h0
    have hv1 : w7.heap[w6.heap.size + 1]? = some (.cells #[.int .i64 gop, .int .i64 gstage, .int .i64 gphase, .int .i64 gold, .int .i64 gsince, .int .i64 gleft, .bool gawoke, .bool gstarve, .int .i64 gneed, .bool gfront] 31) := by
      have h0 := heap_alloc_new (w6.alloc (.cells #[.int .i64 kd, .int .i64 z, .int .i64 o1, .int .i64 o2, .int .i64 o3, .int .i64 o4, .int .i64 o5, .int .u32 wa, .int .u32 to, .slice A n c, .slice B m d] 29)) (.cells #[.int .i64 gop, .int .i64 gstage, .int .i64 gphase, .int .i64 gold, .int .i64 gsince, .int .i64 gleft, .bool gawoke, .bool gstarve, .int .i64 gneed, .bool gfront] 31)
      rw [show (w6.alloc (.cells #[.int .i64 kd, .int .i64 z, .int .i64 o1, .int .i64 o2, .int .i64 o3, .int .i64 o4, .int .i64 o5, .int .u32 wa, .int .u32 to, .slice A n c, .slice B m d] 29)).heap.size = w6.heap.size + 1 by simp [Nat.add_assoc]] at h0
      rw [← hw7]
      rw [heap_alloc_old _ _ (by simp <;> omega)]; exact h0
    have hv2 : w7.heap[w6.heap.size + 2]? = some (.cells #[.bool gdn, .bool false, .bool ghd, .int .i64 ggv, .int .i64 gft, .int .u64 0, .slice WA wn wc] 39) := by
      have h0 := heap_alloc_new ((w6.alloc (.cells #[.int .i64 kd, .int .i64 z, .int .i64 o1, .int .i64 o2, .int .i64 o3, .int .i64 o4, .int .i64 o5, .int .u32 wa, .int .u32 to, .slice A n c, .slice B m d] 29)).alloc (.cells #[.int .i64 gop, .int .i64 gstage, .int .i64 gphase, .int .i64 gold, .int .i64 gsince, .int .i64 gleft, .bool gawoke, .bool gstarve, .int .i64 gneed, .bool gfront] 31)) (.cells #[.bool gdn, .bool false, .bool ghd, .int .i64 ggv, .int .i64 gft, .int .u64 0, .slice WA wn wc] 39)
      rw [show ((w6.alloc (.cells #[.int .i64 kd, .int .i64 z, .int .i64 o1, .int .i64 o2, .int .i64 o3, .int .i64 o4, .int .i64 o5, .int .u32 wa, .int .u32 to, .slice A n c, .slice B m d] 29)).alloc (.cells #[.int .i64 gop, .int .i64 gstage, .int .i64 gphase, .int .i64 gold, .int .i64 gsince, .int .i64 gleft, .bool gawoke, .bool gstarve, .int .i64 gneed, .bool gfront] 31)).heap.size = w6.heap.size + 2 by simp [Nat.add_assoc]] at h0
      rw [← hw7]
      exact h0
    replace Vo := Lib.hid (blk_below Vo.out hb (blk_lt Vo.out))
    replace Vf := Lib.hid (blk_below Vf.out hb (blk_lt Vf.out))
    replace Vt := Lib.hid (blk_below Vt.out hb (blk_lt Vt.out))
    replace Vx := Lib.hid (blk_below Vx.out hb (blk_lt Vx.out))
    replace Vg := Lib.hid (blk_below Vg.out hb (blk_lt Vg.out))
    replace Va := Lib.hid (blk_below Va.out hb (blk_lt Va.out))
    replace RX := Lib.hid (Es.below RX.out hb)
    replace RY := Lib.hid (Es.below RY.out hb)
    replace ON2 := Lib.hid (own_below ON2.out hb)
    replace OL2 := Lib.hid (own_below OL2.out hb)
    replace HB := Lib.hid (And.intro (HB.out.1.trans (hb.mono HB.out.2)) (Nat.le_trans HB.out.2 hb.size))
    have Vy := Lib.hid hv0
    have neo_y := Nat.ne_of_lt lto
    have nef_y := Nat.ne_of_lt ltf
    have net_y := Nat.ne_of_lt ltt
    have nex_y := Nat.ne_of_lt ltx
    have neg_y := Nat.ne_of_lt ltg
    have nea_y := Nat.ne_of_lt lta
    have gey := gq
    have Vh := Lib.hid hv1
    have neo_h := Nat.ne_of_lt (Nat.lt_of_lt_of_le lto (Nat.le_add_right w6.heap.size 1))
    have nef_h := Nat.ne_of_lt (Nat.lt_of_lt_of_le ltf (Nat.le_add_right w6.heap.size 1))
    have net_h := Nat.ne_of_lt (Nat.lt_of_lt_of_le ltt (Nat.le_add_right w6.heap.size 1))
    have nex_h := Nat.ne_of_lt (Nat.lt_of_lt_of_le ltx (Nat.le_add_right w6.heap.size 1))
    have neg_h := Nat.ne_of_lt (Nat.lt_of_lt_of_le ltg (Nat.le_add_right w6.heap.size 1))
    have nea_h := Nat.ne_of_lt (Nat.lt_of_lt_of_le lta (Nat.le_add_right w6.heap.size 1))
    have ney_h : w6.heap.size ≠ w6.heap.size + 1 := by omega
    have geh : _ ≤ w6.heap.size + 1 := Nat.le_trans gq (Nat.le_add_right _ 1)
    have Vb := Lib.hid hv2
    have neo_b := Nat.ne_of_lt (Nat.lt_of_lt_of_le lto (Nat.le_add_right w6.heap.size 2))
    have nef_b := Nat.ne_of_lt (Nat.lt_of_lt_of_le ltf (Nat.le_add_right w6.heap.size 2))
    have net_b := Nat.ne_of_lt (Nat.lt_of_lt_of_le ltt (Nat.le_add_right w6.heap.size 2))
    have nex_b := Nat.ne_of_lt (Nat.lt_of_lt_of_le ltx (Nat.le_add_right w6.heap.size 2))
    have neg_b := Nat.ne_of_lt (Nat.lt_of_lt_of_le ltg (Nat.le_add_right w6.heap.size 2))
    have nea_b := Nat.ne_of_lt (Nat.lt_of_lt_of_le lta (Nat.le_add_right w6.heap.size 2))
    have ney_b : w6.heap.size ≠ w6.heap.size + 2 := by omega
    have neh_b : w6.heap.size + 1 ≠ w6.heap.size + 2 := by omega
    have geb : _ ≤ w6.heap.size + 2 := Nat.le_trans gq (Nat.le_add_right _ 2)
    generalize hsy : w6.heap.size = sy at *
    clear hb gq hv0 hv1 hv2 lto ltf ltt ltx ltg lta
    have RX2 := Lib.hid (own_wts ON2.out); have RY2 := Lib.hid (own_cls OL2.out)
    obtain ⟨co0, co1, co2, co3, co4, co5, co6, co7, co8, co9, co10⟩ := row11 Vo.out
    obtain ⟨cf0, cf1, cf2, cf3, cf4, cf5, cf6, cf7, cf8, cf9⟩ := row10 Vf.out
    obtain ⟨cx0, cx1, cx2, cx3, cx4, cx5, cx6, cx7, cx8, cx9, cx10⟩ := row11 Vx.out
    obtain ⟨cy0, cy1, cy2, cy3, cy4, cy5, cy6, cy7, cy8, cy9, cy10⟩ := row11 Vy.out
    obtain ⟨cg0, cg1, cg2, cg3, cg4, cg5, cg6, cg7, cg8, cg9⟩ := row10 Vg.out
    obtain ⟨ch0, ch1, ch2, ch3, ch4, ch5, ch6, ch7, ch8, ch9⟩ := row10 Vh.out
    obtain ⟨ca0, ca1, ca2, ca3, ca4, ca5, ca6⟩ := row7 Va.out
    obtain ⟨cb0, cb1, cb2, cb3, cb4, cb5, cb6⟩ := row7 Vb.out
    go_wp2
    refine wp_region_noPanic ?_
    refine wp_region_held_drew (S := (fun wv => Below w7.heap.size w7 wv)) (by kernel_rfl) ((Below.refl w7.heap.size w7).drew) (fun hS => ?_)
    refine wpAnyH_take (i := 0) (oi := ⟨some 39, .load 29 (.tmp 7), 29, "law.go:50", #[], none⟩) (v := .agg (([.int .i64 kd, .int .i64 z, .int .i64 o1, .int .i64 o2, .int .i64 o3, .int .i64 o4, .int .i64 o5, .int .u32 wa, .int .u32 to, .slice A2 n c2, .slice B2 m d2] : List Value)).toArray) rfl (by kernel_rfl) (by kernel_rfl) (by kernel_rfl) (fun _ _ _ h => h) (yieldsIf_load_mid (by rfl) _ _ (by rfl) (sx) (0) (by rfl) (([.int .i64 kd, .int .i64 z, .int .i64 o1, .int .i64 o2, .int .i64 o3, .int .i64 o4, .int .i64 o5, .int .u32 wa, .int .u32 to, .slice A2 n c2, .slice B2 m d2] : List Value)) _ (fun wv hS => blk_rngl (blk_below Vx.out hS (blk_lt Vx.out))) Try.underlying29 (by rfl) (by kernel_rfl)) hS ?_
    try simp only [Act.put, List.setIfInBounds_toArray, List.set_cons_zero, List.set_cons_succ]
    refine wpAnyH_take (i := 1) (oi := ⟨some 40, .load 29 (.tmp 10), 29, "law.go:50", #[], none⟩) (v := .agg (([.int .i64 kd, .int .i64 z, .int .i64 o1, .int .i64 o2, .int .i64 o3, .int .i64 o4, .int .i64 o5, .int .u32 wa, .int .u32 to, .slice A n c, .slice B m d] : List Value)).toArray) rfl (by kernel_rfl) (by kernel_rfl) (by kernel_rfl) (fun _ _ _ h => h) (yieldsIf_load_mid (by rfl) _ _ (by rfl) (sy) (0) (by rfl) (([.int .i64 kd, .int .i64 z, .int .i64 o1, .int .i64 o2, .int .i64 o3, .int .i64 o4, .int .i64 o5, .int .u32 wa, .int .u32 to, .slice A n c, .slice B m d] : List Value)) _ (fun wv hS => blk_rngl (blk_below Vy.out hS (blk_lt Vy.out))) Try.underlying29 (by rfl) (by kernel_rfl)) hS ?_
    try simp only [Act.put, List.setIfInBounds_toArray, List.set_cons_zero, List.set_cons_succ]
    refine wpAnyH_ready (rs := [2]) (by kernel_rfl) (by simp) (AllReadyH.cons (o := ⟨some 41, .call { callee := .value (.func 12), args := #[.tmp 39, .tmp 40], argTypes := #[29, 29] }, 4, "law.go:50", #[⟨0, .data⟩, ⟨1, .data⟩], none⟩) rfl (fun K hK => ?_) AllReadyH.nil)
    go_simp
    refine (OE.out _ _ _ _ _ (Es.below RX2.out hS) (Es.below RY2.out hS) (Es.below RX.out hS) (Es.below RY.out hS)).mono ?_; rintro e u2 ⟨rfl, hb⟩
    replace hS := hS.trans (hb.mono hS.size)
    clear hb
    go_wp2_with fail
    refine Shut.out hK _ _ hS (fun _ => ?_)
    clear hK K
    try simp only [Act.put, List.setIfInBounds_toArray, List.set_cons_zero, List.set_cons_succ]
    refine wpAnyH_take (i := 3) (oi := ⟨some 42, .move (.tmp 41), 4, "law.go:50", #[⟨2, .data⟩, ⟨2, .chain⟩], none⟩) (v := ?_) rfl (by kernel_rfl) (by kernel_rfl) (by kernel_rfl) (fun _ _ _ h => h) (Or.inl ⟨by rfl, ?_⟩) hS ?_
    rotate_left
    · intro wv _; go_simp; try with_reducible rfl
    try simp only [Act.put, List.setIfInBounds_toArray, List.set_cons_zero, List.set_cons_succ]
    refine wpAnyH_take (i := 4) (oi := ⟨some 43, .load 31 (.tmp 8), 31, "law.go:50", #[⟨3, .guard⟩], some (3, true)⟩) (v := .agg (([.int .i64 gop, .int .i64 gstage, .int .i64 gphase, .int .i64 gold, .int .i64 gsince, .int .i64 gleft, .bool gawoke, .bool gstarve, .int .i64 gneed, .bool gfront] : List Value)).toArray) rfl (by kernel_rfl) (by kernel_rfl) (by kernel_rfl) (fun _ _ _ h => h) (yieldsIf_load_mid (by rfl) _ _ (by rfl) (sx + 1) (0) (by rfl) (([.int .i64 gop, .int .i64 gstage, .int .i64 gphase, .int .i64 gold, .int .i64 gsince, .int .i64 gleft, .bool gawoke, .bool gstarve, .int .i64 gneed, .bool gfront] : List Value)) _ (fun wv hS => blk_rngl (blk_below Vg.out hS (blk_lt Vg.out))) Try.underlying31 (by rfl) (by kernel_rfl)) hS ?_
    try simp only [Act.put, List.setIfInBounds_toArray, List.set_cons_zero, List.set_cons_succ]
    refine wpAnyH_take (i := 5) (oi := ⟨some 44, .load 31 (.tmp 11), 31, "law.go:50", #[⟨3, .guard⟩], some (3, true)⟩) (v := .agg (([.int .i64 gop, .int .i64 gstage, .int .i64 gphase, .int .i64 gold, .int .i64 gsince, .int .i64 gleft, .bool gawoke, .bool gstarve, .int .i64 gneed, .bool gfront] : List Value)).toArray) rfl (by kernel_rfl) (by kernel_rfl) (by kernel_rfl) (fun _ _ _ h => h) (yieldsIf_load_mid (by rfl) _ _ (by rfl) (sy + 1) (0) (by rfl) (([.int .i64 gop, .int .i64 gstage, .int .i64 gphase, .int .i64 gold, .int .i64 gsince, .int .i64 gleft, .bool gawoke, .bool gstarve, .int .i64 gneed, .bool gfront] : List Value)) _ (fun wv hS => blk_rngl (blk_below Vh.out hS (blk_lt Vh.out))) Try.underlying31 (by rfl) (by kernel_rfl)) hS ?_
    try simp only [Act.put, List.setIfInBounds_toArray, List.set_cons_zero, List.set_cons_succ]
    refine wpAnyH_take (i := 6) (oi := ⟨some 45, .binOp .eql 31 (.tmp 43) (.tmp 44) 31, 4, "law.go:50", #[⟨4, .data⟩, ⟨5, .data⟩, ⟨3, .guard⟩], some (3, true)⟩) (v := ?_) rfl (by kernel_rfl) (by kernel_rfl) (by kernel_rfl) (fun _ _ _ h => h) (Or.inl ⟨by rfl, ?_⟩) hS ?_
    rotate_left
    · intro wv hS; have hrun := fr_self gop gstage gphase gold gsince gleft gawoke gstarve gneed gfront wv; go_simp; try with_reducible rfl
    try simp only [Act.put, List.setIfInBounds_toArray, List.set_cons_zero, List.set_cons_succ]
    refine wpAnyH_take (i := 7) (oi := ⟨some 46, .pick (.tmp 42) (.tmp 45) (.const (Value.bool false)), 4, "law.go:50", #[⟨3, .data⟩, ⟨6, .data⟩], none⟩) (v := ?_) rfl (by kernel_rfl) (by kernel_rfl) (by kernel_rfl) (fun _ _ _ h => h) (Or.inl ⟨by rfl, ?_⟩) hS ?_
    rotate_left
    · intro wv _; go_simp; try with_reducible rfl
    try simp only [Act.put, List.setIfInBounds_toArray, List.set_cons_zero, List.set_cons_succ]
    refine wpAnyH_take (i := 8) (oi := ⟨some 47, .move (.tmp 46), 4, "law.go:50", #[⟨7, .data⟩, ⟨3, .chain⟩], none⟩) (v := ?_) rfl (by kernel_rfl) (by kernel_rfl) (by kernel_rfl) (fun _ _ _ h => h) (Or.inl ⟨by rfl, ?_⟩) hS ?_
    rotate_left
    · intro wv _; go_simp; try with_reducible rfl
    try simp only [Act.put, List.setIfInBounds_toArray, List.set_cons_zero, List.set_cons_succ]
    refine wpAnyH_take (i := 9) (oi := ⟨some 48, .load 39 (.tmp 9), 39, "law.go:50", #[⟨8, .guard⟩], some (8, true)⟩) (v := .agg (([.bool gdn, .bool false, .bool ghd, .int .i64 ggv, .int .i64 gft, .int .u64 0, .slice WA wn wc] : List Value)).toArray) rfl (by kernel_rfl) (by kernel_rfl) (by kernel_rfl) (fun _ _ _ h => h) (yieldsIf_load_mid (by rfl) _ _ (by rfl) (sx + 2) (0) (by rfl) (([.bool gdn, .bool false, .bool ghd, .int .i64 ggv, .int .i64 gft, .int .u64 0, .slice WA wn wc] : List Value)) _ (fun wv hS => blk_rngl (blk_below Va.out hS (blk_lt Va.out))) Try.underlying39 (by rfl) (by kernel_rfl)) hS ?_
    try simp only [Act.put, List.setIfInBounds_toArray, List.set_cons_zero, List.set_cons_succ]
    refine wpAnyH_take (i := 10) (oi := ⟨some 49, .load 39 (.tmp 12), 39, "law.go:50", #[⟨8, .guard⟩], some (8, true)⟩) (v := .agg (([.bool gdn, .bool false, .bool ghd, .int .i64 ggv, .int .i64 gft, .int .u64 0, .slice WA wn wc] : List Value)).toArray) rfl (by kernel_rfl) (by kernel_rfl) (by kernel_rfl) (fun _ _ _ h => h) (yieldsIf_load_mid (by rfl) _ _ (by rfl) (sy + 2) (0) (by rfl) (([.bool gdn, .bool false, .bool ghd, .int .i64 ggv, .int .i64 gft, .int .u64 0, .slice WA wn wc] : List Value)) _ (fun wv hS => blk_rngl (blk_below Vb.out hS (blk_lt Vb.out))) Try.underlying39 (by rfl) (by kernel_rfl)) hS ?_
    try simp only [Act.put, List.setIfInBounds_toArray, List.set_cons_zero, List.set_cons_succ]
    refine wpAnyH_ready (rs := [11]) (by kernel_rfl) (by simp) (AllReadyH.cons (o := ⟨some 50, .call { callee := .value (.func 13), args := #[.tmp 48, .tmp 49], argTypes := #[39, 39] }, 4, "law.go:50", #[⟨9, .data⟩, ⟨10, .data⟩, ⟨8, .chain⟩, ⟨8, .guard⟩], some (8, true)⟩) rfl (fun K hK => ?_) AllReadyH.nil)
    go_simp
    refine (AE.out _).mono ?_; rintro e u11 ⟨rfl, hb⟩
    replace hS := hS.trans (hb.mono hS.size)
    clear hb
    go_wp2_with fail
    refine Shut.out hK _ _ hS (fun _ => ?_)
    clear hK K
    try simp only [Act.put, List.setIfInBounds_toArray, List.set_cons_zero, List.set_cons_succ]
    refine wpAnyH_take (i := 12) (oi := ⟨some 51, .pick (.tmp 47) (.tmp 50) (.const (Value.bool false)), 4, "law.go:50", #[⟨8, .data⟩, ⟨11, .data⟩], none⟩) (v := ?_) rfl (by kernel_rfl) (by kernel_rfl) (by kernel_rfl) (fun _ _ _ h => h) (Or.inl ⟨by rfl, ?_⟩) hS ?_
    rotate_left
    · intro wv _; go_simp; try with_reducible rfl
    try simp only [Act.put, List.setIfInBounds_toArray, List.set_cons_zero, List.set_cons_succ]
    refine wpAnyH_take (i := 13) (oi := ⟨some 52, .move (.tmp 51), 4, "law.go:50", #[⟨12, .data⟩, ⟨11, .chain⟩], none⟩) (v := ?_) rfl (by kernel_rfl) (by kernel_rfl) (by kernel_rfl) (fun _ _ _ h => h) (Or.inl ⟨by rfl, ?_⟩) hS ?_
    rotate_left
    · intro wv _; go_simp; try with_reducible rfl
    try simp only [Act.put, List.setIfInBounds_toArray, List.set_cons_zero, List.set_cons_succ]
    refine wpAnyH_take (i := 14) (oi := ⟨some 53, .load 29 (.tmp 3), 29, "law.go:50", #[⟨13, .guard⟩], some (13, true)⟩) (v := .agg (([.int .i64 kd, .int .i64 o0, .int .i64 o1, .int .i64 o2, .int .i64 o3, .int .i64 o4, .int .i64 o5, .int .u32 wa, .int .u32 to, .slice A n c, .slice B m d] : List Value)).toArray) rfl (by kernel_rfl) (by kernel_rfl) (by kernel_rfl) (fun _ _ _ h => h) (yieldsIf_load_mid (by rfl) _ _ (by rfl) (w.heap.size) (0) (by rfl) (([.int .i64 kd, .int .i64 o0, .int .i64 o1, .int .i64 o2, .int .i64 o3, .int .i64 o4, .int .i64 o5, .int .u32 wa, .int .u32 to, .slice A n c, .slice B m d] : List Value)) _ (fun wv hS => blk_rngl (blk_below Vo.out hS (blk_lt Vo.out))) Try.underlying29 (by rfl) (by kernel_rfl)) hS ?_
    try simp only [Act.put, List.setIfInBounds_toArray, List.set_cons_zero, List.set_cons_succ]
    refine wpAnyH_take (i := 16) (oi := ⟨some 55, .fieldAddr 29 (.tmp 3) 1, 0, "law.go:50", #[⟨13, .guard⟩], some (13, true)⟩) (v := ?_) rfl (by kernel_rfl) (by kernel_rfl) (by kernel_rfl) (fun _ _ _ h => h) (Or.inl ⟨by rfl, ?_⟩) hS ?_
    rotate_left
    · intro wv _; go_simp; try with_reducible rfl
    try simp only [Act.put, List.setIfInBounds_toArray, List.set_cons_zero, List.set_cons_succ]
    refine wpAnyH_take (i := 17) (oi := ⟨some 56, .indexAddr 22 (.tmp 55) (.const (Value.int IntKind.i64 0)), 0, "law.go:50", #[⟨16, .data⟩, ⟨13, .guard⟩], some (13, true)⟩) (v := ?_) rfl (by kernel_rfl) (by kernel_rfl) (by kernel_rfl) (fun _ _ _ h => h) (Or.inl ⟨by rfl, ?_⟩) hS ?_
    rotate_left
    · intro wv _; go_simp; try with_reducible rfl
    try simp only [Act.put, List.setIfInBounds_toArray, List.set_cons_zero, List.set_cons_succ]
    refine wpAnyH_take (i := 18) (oi := ⟨some 57, .load 2 (.tmp 56), 2, "law.go:50", #[⟨17, .data⟩, ⟨13, .guard⟩], some (13, true)⟩) (v := ?_) rfl (by kernel_rfl) (by kernel_rfl) (by kernel_rfl) (fun _ _ _ h => h) (Or.inl ⟨by rfl, ?_⟩) hS ?_
    rotate_left
    · intro wv hS; have hrun := (show wv.cell? ⟨w.heap.size, 1, none⟩ = some (.int .i64 o0) from (blk_cell (blk_below Vo.out hS (blk_lt Vo.out)) 1).trans rfl); go_simp; try with_reducible rfl
    try simp only [Act.put, List.setIfInBounds_toArray, List.set_cons_zero, List.set_cons_succ]
    refine wpAnyH_ready (rs := [15]) (by kernel_rfl) (by simp) (AllReadyH.cons (o := ⟨some 54, .call { callee := .value (.func 14), args := #[.tmp 53], argTypes := #[29] }, 4, "law.go:50", #[⟨14, .data⟩, ⟨13, .chain⟩, ⟨13, .guard⟩], some (13, true)⟩) rfl (fun K hK => ?_) AllReadyH.nil)
    go_simp
    refine (LK.out _).mono ?_; rintro e u15 ⟨rfl, hb⟩
    replace hS := hS.trans (hb.mono hS.size)
    clear hb
    go_wp2_with fail
    refine Shut.out hK _ _ hS (fun _ => ?_)
    clear hK K
    try simp only [Act.put, List.setIfInBounds_toArray, List.set_cons_zero, List.set_cons_succ]
    refine wpAnyH_ready (rs := [19]) (by kernel_rfl) (by simp) (AllReadyH.cons (o := ⟨some 58, .call { callee := .value (.func 15), args := #[.tmp 57, .const (Value.int IntKind.i64 0)], argTypes := #[2, 3] }, 4, "law.go:50", #[⟨18, .data⟩, ⟨15, .chain⟩, ⟨13, .guard⟩], some (13, true)⟩) rfl (fun K hK => ?_) AllReadyH.nil)
    go_simp
    refine (BT.out _).mono ?_; rintro e u19 ⟨rfl, hwu⟩
    replace hS : Below _ _ u19 := hwu ▸ hS
    clear hwu
    go_wp2_with fail
    refine Shut.out hK _ _ hS (fun _ => ?_)
    clear hK K
    try simp only [Act.put, List.setIfInBounds_toArray, List.set_cons_zero, List.set_cons_succ]
    refine wpAnyH_take (i := 20) (oi := ⟨some 59, .binOp .eql 4 (.tmp 54) (.tmp 58) 4, 4, "law.go:50", #[⟨15, .data⟩, ⟨19, .data⟩, ⟨13, .guard⟩], some (13, true)⟩) (v := ?_) rfl (by kernel_rfl) (by kernel_rfl) (by kernel_rfl) (fun _ _ _ h => h) (Or.inl ⟨by rfl, ?_⟩) hS ?_
    rotate_left
    · intro wv _; go_simp; try with_reducible rfl
    try simp only [Act.put, List.setIfInBounds_toArray, List.set_cons_zero, List.set_cons_succ]
    refine wpAnyH_take (i := 21) (oi := ⟨some 60, .pick (.tmp 52) (.tmp 59) (.const (Value.bool false)), 4, "law.go:50", #[⟨13, .data⟩, ⟨20, .data⟩], none⟩) (v := ?_) rfl (by kernel_rfl) (by kernel_rfl) (by kernel_rfl) (fun _ _ _ h => h) (Or.inl ⟨by rfl, ?_⟩) hS ?_
    rotate_left
    · intro wv _; go_simp; try with_reducible rfl
    try simp only [Act.put, List.setIfInBounds_toArray, List.set_cons_zero, List.set_cons_succ]
    refine wpAnyH_take (i := 22) (oi := ⟨some 6, .assign (.tmp 60), 4, "law.go:50", #[⟨21, .data⟩, ⟨19, .chain⟩, ⟨0, .phase⟩, ⟨1, .phase⟩, ⟨2, .phase⟩, ⟨3, .phase⟩, ⟨4, .phase⟩, ⟨5, .phase⟩, ⟨6, .phase⟩, ⟨7, .phase⟩, ⟨8, .phase⟩, ⟨9, .phase⟩, ⟨10, .phase⟩, ⟨11, .phase⟩, ⟨12, .phase⟩, ⟨13, .phase⟩, ⟨14, .phase⟩, ⟨15, .phase⟩, ⟨16, .phase⟩, ⟨17, .phase⟩, ⟨18, .phase⟩, ⟨19, .phase⟩, ⟨20, .phase⟩, ⟨21, .phase⟩], none⟩) (v := ?_) rfl (by kernel_rfl) (by kernel_rfl) (by kernel_rfl) (fun _ _ _ h => h) (Or.inl ⟨by rfl, ?_⟩) hS ?_
    rotate_left
    · intro wv _; go_simp; try with_reducible rfl
    try simp only [Act.put, List.setIfInBounds_toArray, List.set_cons_zero, List.set_cons_succ]
    refine wpAnyH_done (by kernel_rfl) ?_ _
    refine NoPanic.normal ?_
    go_wp2
    go_ret
    exact ⟨rfl, HB.out.1.trans (hS.mono HB.out.2)⟩
set_option maxRecDepth 100000 in
set_option maxHeartbeats 16000000 in
theorem unlocks15_walk (kd o0 o1 o2 o3 o4 o5 wa to : Int) (A : Option Addr) (n c : Nat) (B : Option Addr) (m d : Nat) (nl : List Wt) (ll : List Cl) (op stage phase old since left : Int) (awoke starve : Bool) (need : Int) (front : Bool) (y : Int) (hrg : IntKind.i64.wrap o0 = o0) (w : World) (hx : Wts w A n c nl) (hy : Cls w B m d ll) :
    Calls Try.prog 4 #[obV kd o0 o1 o2 o3 o4 o5 wa to A n c B m d, frV ⟨op, stage, phase, old, since, left, awoke, starve, need, front⟩, .int .i64 y] w fun e w' => e = .returned (.bool true) ∧ Below w.heap.size w w' := by
  have RX := Lib.hid hx; have RY := Lib.hid hy
  clear hx hy
  unfold obV frV frC
  simp only
  have HB := Lib.hid (And.intro (Below.refl w.heap.size w) (Nat.le_refl w.heap.size))
  have gq := HB.out.2
  obtain ⟨w1, hw1⟩ : ∃ W, ((w.alloc (.cells #[.int .i64 kd, .int .i64 o0, .int .i64 o1, .int .i64 o2, .int .i64 o3, .int .i64 o4, .int .i64 o5, .int .u32 wa, .int .u32 to, .slice A n c, .slice B m d] 29)).alloc (.cells #[.int .i64 op, .int .i64 stage, .int .i64 phase, .int .i64 old, .int .i64 since, .int .i64 left, .bool awoke, .bool starve, .int .i64 need, .bool front] 31)) = W := ⟨_, rfl⟩
  have hb : Below w.heap.size w w1 := hw1 ▸ (((Below.refl _ _).alloc (Nat.le_refl _) _).alloc (by first | (simp; done) | (simp; omega)) _)
  have hv0 : w1.heap[w.heap.size]? = some (.cells #[.int .i64 kd, .int .i64 o0, .int .i64 o1, .int .i64 o2, .int .i64 o3, .int .i64 o4, .int .i64 o5, .int .u32 wa, .int .u32 to, .slice A n c, .slice B m d] 29) := by
    have h0 := heap_alloc_new w (.cells #[.int .i64 kd, .int .i64 o0, .int .i64 o1, .int .i64 o2, .int .i64 o3, .int .i64 o4, .int .i64 o5, .int .u32 wa, .int .u32 to, .slice A n c, .slice B m d] 29)
    rw [show w.heap.size = w.heap.size by simp [Nat.add_assoc]] at h0
    rw [← hw1]
    rw [heap_alloc_old _ _ (by simp <;> omega)]; exact h0
  have hv1 : w1.heap[w.heap.size + 1]? = some (.cells #[.int .i64 op, .int .i64 stage, .int .i64 phase, .int .i64 old, .int .i64 since, .int .i64 left, .bool awoke, .bool starve, .int .i64 need, .bool front] 31) := by
    have h0 := heap_alloc_new (w.alloc (.cells #[.int .i64 kd, .int .i64 o0, .int .i64 o1, .int .i64 o2, .int .i64 o3, .int .i64 o4, .int .i64 o5, .int .u32 wa, .int .u32 to, .slice A n c, .slice B m d] 29)) (.cells #[.int .i64 op, .int .i64 stage, .int .i64 phase, .int .i64 old, .int .i64 since, .int .i64 left, .bool awoke, .bool starve, .int .i64 need, .bool front] 31)
    rw [show (w.alloc (.cells #[.int .i64 kd, .int .i64 o0, .int .i64 o1, .int .i64 o2, .int .i64 o3, .int .i64 o4, .int .i64 o5, .int .u32 wa, .int .u32 to, .slice A n c, .slice B m d] 29)).heap.size = w.heap.size + 1 by simp [Nat.add_assoc]] at h0
    rw [← hw1]
    exact h0
  replace RX := Lib.hid (Es.below RX.out hb)
  replace RY := Lib.hid (Es.below RY.out hb)
  replace HB := Lib.hid (And.intro (HB.out.1.trans (hb.mono HB.out.2)) (Nat.le_trans HB.out.2 hb.size))
  have Vo := Lib.hid hv0
  have geo := gq
  have Vf := Lib.hid hv1
  have neo_f : w.heap.size ≠ w.heap.size + 1 := by omega
  have gef : _ ≤ w.heap.size + 1 := Nat.le_trans gq (Nat.le_add_right _ 1)
  generalize hso : w.heap.size = so at *
  clear hb gq hv0 hv1
  subst hso
  have AL := Lib.hid alive15
  have g1 := fun (W : World) => great15_any kd o0 o1 o2 o3 o4 o5 wa to A n c B m d W
  skip
  by_cases h0 : 20 < n ∨ 20 < m
  · have g2 := Lib.hid (fun (W : World) => great15_yes kd o0 o1 o2 o3 o4 o5 wa to A n c B m d W h0)
    clear g1 h0
    go_enter Try.func4, Try.ntmps4
    go_wp2_with fail
    refine (AL.out _).mono ?_
    rintro e w2 ⟨rfl, hb⟩
    replace Vo := Lib.hid (blk_below Vo.out hb (blk_lt Vo.out))
    replace Vf := Lib.hid (blk_below Vf.out hb (blk_lt Vf.out))
    replace RX := Lib.hid (Es.below RX.out hb)
    replace RY := Lib.hid (Es.below RY.out hb)
    replace HB := Lib.hid (And.intro (HB.out.1.trans (hb.mono HB.out.2)) (Nat.le_trans HB.out.2 hb.size))
    clear hb
    obtain ⟨co0, co1, co2, co3, co4, co5, co6, co7, co8, co9, co10⟩ := row11 Vo.out
    go_wp2_with fail
    refine (g2.out _).mono ?_
    rintro e w3 ⟨rfl, hb⟩
    clear co0 co1 co2 co3 co4 co5 co6 co7 co8 co9 co10
    replace Vo := Lib.hid (blk_below Vo.out hb (blk_lt Vo.out))
    replace Vf := Lib.hid (blk_below Vf.out hb (blk_lt Vf.out))
    replace RX := Lib.hid (Es.below RX.out hb)
    replace RY := Lib.hid (Es.below RY.out hb)
    replace HB := Lib.hid (And.intro (HB.out.1.trans (hb.mono HB.out.2)) (Nat.le_trans HB.out.2 hb.size))
    clear hb
    go_wp2
    go_ret
    exact ⟨rfl, HB.out.1⟩
  · have hn : n ≤ 16384 := by omega
    have hm : m ≤ 16384 := by omega
    have g2 := Lib.hid (fun (W : World) => great15_no kd o0 o1 o2 o3 o4 o5 wa to A n c B m d W h0)
    clear g1 h0
    obtain ⟨⟨z, ⟨gop, gstage, gphase, gold, gsince, gleft, gawoke, gstarve, gneed, gfront⟩, ⟨gdn, ggv, ghd, gft⟩⟩, hr⟩ : ∃ r, unlockM o0 ⟨op, stage, phase, old, since, left, awoke, starve, need, front⟩ = r := ⟨_, rfl⟩
    obtain ⟨WA, wn, wc, hwk⟩ : ∃ (X : Option Addr) (i j : Nat), (Value.slice X i j) = .slice none 0 0 := ⟨_, _, _, rfl⟩
    have L1 := Lib.hid (show ∀ (W : World), Wts W A n c nl → Cls W B m d ll → Calls Try.prog 16 #[.agg #[.int .i64 kd, .int .i64 o0, .int .i64 o1, .int .i64 o2, .int .i64 o3, .int .i64 o4, .int .i64 o5, .int .u32 wa, .int .u32 to, .slice A n c, .slice B m d], .agg #[.int .i64 op, .int .i64 stage, .int .i64 phase, .int .i64 old, .int .i64 since, .int .i64 left, .bool awoke, .bool starve, .int .i64 need, .bool front]] W (fun e w' => ∃ A2 c2 B2 d2, e = .returned (.tuple #[.agg #[.int .i64 kd, .int .i64 z, .int .i64 o1, .int .i64 o2, .int .i64 o3, .int .i64 o4, .int .i64 o5, .int .u32 wa, .int .u32 to, .slice A2 n c2, .slice B2 m d2], .agg #[.int .i64 gop, .int .i64 gstage, .int .i64 gphase, .int .i64 gold, .int .i64 gsince, .int .i64 gleft, .bool gawoke, .bool gstarve, .int .i64 gneed, .bool gfront], .agg #[.bool gdn, .bool false, .bool ghd, .int .i64 ggv, .int .i64 gft, .int .u64 0, .slice WA wn wc]]) ∧ w'.ownsRow W.heap.size 69 2 (.slice A2 n c2) n (wtC nl) ∧ w'.ownsRow W.heap.size 64 2 (.slice B2 m d2) m (clC ll) ∧ Below W.heap.size W w') from fun W h1 h2 => by
      have h := muUnlock_any kd o0 o1 o2 o3 o4 o5 wa to A n c B m d nl ll ⟨op, stage, phase, old, since, left, awoke, starve, need, front⟩ W h1 h2 hn hm hrg
      rw [hr] at h
      rw [hwk]
      refine h.mono ?_
      rintro e w' ⟨A2, c2, B2, d2, he, k1, k2, hb, _, _⟩
      exact ⟨A2, c2, B2, d2, he, k1, k2, hb⟩)
    have L2 := Lib.hid (show ∀ W : World, Calls Try.prog 17 #[.agg #[.int .i64 kd, .int .i64 o0, .int .i64 o1, .int .i64 o2, .int .i64 o3, .int .i64 o4, .int .i64 o5, .int .u32 wa, .int .u32 to, .slice A n c, .slice B m d], .agg #[.int .i64 op, .int .i64 stage, .int .i64 phase, .int .i64 old, .int .i64 since, .int .i64 left, .bool awoke, .bool starve, .int .i64 need, .bool front]] W (fun e w' => e = .returned (.tuple #[.agg #[.int .i64 kd, .int .i64 z, .int .i64 o1, .int .i64 o2, .int .i64 o3, .int .i64 o4, .int .i64 o5, .int .u32 wa, .int .u32 to, .slice A n c, .slice B m d], .agg #[.int .i64 gop, .int .i64 gstage, .int .i64 gphase, .int .i64 gold, .int .i64 gsince, .int .i64 gleft, .bool gawoke, .bool gstarve, .int .i64 gneed, .bool gfront], .agg #[.bool gdn, .bool false, .bool ghd, .int .i64 ggv, .int .i64 gft, .int .u64 0, .slice WA wn wc]]) ∧ Below W.heap.size W w') from fun W => by have h := unlock15_any kd o0 o1 o2 o3 o4 o5 wa to A n c B m d ⟨op, stage, phase, old, since, left, awoke, starve, need, front⟩  W; rw [hr] at h; rw [hwk]; exact h)
    have OE := Lib.hid (fun (A2 : Option Addr) (c2 : Nat) (B2 : Option Addr) (d2 : Nat) (W : World) (h1 : Wts W A2 n c2 nl) (h2 : Cls W B2 m d2 ll) (h3 : Wts W A n c nl) (h4 : Cls W B m d ll) => obj15_eq2 kd z o1 o2 o3 o4 o5 wa to A2 n c2 B2 m d2 A c B d nl ll W h1 h2 h3 h4 hn hm)
    have AE := Lib.hid (show ∀ W : World, Calls Try.prog 13 #[.agg #[.bool gdn, .bool false, .bool ghd, .int .i64 ggv, .int .i64 gft, .int .u64 0, .slice WA wn wc], .agg #[.bool gdn, .bool false, .bool ghd, .int .i64 ggv, .int .i64 gft, .int .u64 0, .slice WA wn wc]] W (YesS W true) from fun W => by rw [hwk]; exact act15_eq gdn false ghd ggv gft 0 W)
    have BG := Lib.hid (show ∀ W : World, Calls Try.prog 18 #[.int .i64 y] W (fun e w' => e = .returned (.agg #[.int .i64 y, .int .i64 0, .int .i64 0, .int .i64 0, .int .i64 (-1), .int .i64 0, .bool false, .bool false, .int .i64 0, .bool false]) ∧ Below W.heap.size W w') from fun W => muBegin_any y W)
    have BH := Lib.hid (show ∀ W : World, Calls Try.prog 19 #[.int .i64 y] W (fun e w' => e = .returned (.agg #[.int .i64 y, .int .i64 0, .int .i64 0, .int .i64 0, .int .i64 (-1), .int .i64 0, .bool false, .bool false, .int .i64 0, .bool false]) ∧ Below W.heap.size W w') from fun W => refBegin15_any y W)
    clear hr hn hm hwk hrg
    go_enter Try.func4, Try.ntmps4
    go_wp2_with fail
    refine (AL.out _).mono ?_
    rintro e w2 ⟨rfl, hb⟩
    replace Vo := Lib.hid (blk_below Vo.out hb (blk_lt Vo.out))
    replace Vf := Lib.hid (blk_below Vf.out hb (blk_lt Vf.out))
    replace RX := Lib.hid (Es.below RX.out hb)
    replace RY := Lib.hid (Es.below RY.out hb)
    replace HB := Lib.hid (And.intro (HB.out.1.trans (hb.mono HB.out.2)) (Nat.le_trans HB.out.2 hb.size))
    clear hb
    obtain ⟨co0, co1, co2, co3, co4, co5, co6, co7, co8, co9, co10⟩ := row11 Vo.out
    go_wp2_with fail
    refine (g2.out _).mono ?_
    rintro e w3 ⟨rfl, hb⟩
    clear co0 co1 co2 co3 co4 co5 co6 co7 co8 co9 co10
    replace Vo := Lib.hid (blk_below Vo.out hb (blk_lt Vo.out))
    replace Vf := Lib.hid (blk_below Vf.out hb (blk_lt Vf.out))
    replace RX := Lib.hid (Es.below RX.out hb)
    replace RY := Lib.hid (Es.below RY.out hb)
    replace HB := Lib.hid (And.intro (HB.out.1.trans (hb.mono HB.out.2)) (Nat.le_trans HB.out.2 hb.size))
    clear hb
    obtain ⟨co0, co1, co2, co3, co4, co5, co6, co7, co8, co9, co10⟩ := row11 Vo.out
    obtain ⟨cf0, cf1, cf2, cf3, cf4, cf5, cf6, cf7, cf8, cf9⟩ := row10 Vf.out
    go_wp2_with fail
    refine (L1.out _ RX.out RY.out).mono ?_
    rintro e w4 ⟨A2, c2, B2, d2, rfl, hon, hol, hb⟩
    clear co0 co1 co2 co3 co4 co5 co6 co7 co8 co9 co10 cf0 cf1 cf2 cf3 cf4 cf5 cf6 cf7 cf8 cf9
    replace Vo := Lib.hid (blk_below Vo.out hb (blk_lt Vo.out))
    replace Vf := Lib.hid (blk_below Vf.out hb (blk_lt Vf.out))
    replace RX := Lib.hid (Es.below RX.out hb)
    replace RY := Lib.hid (Es.below RY.out hb)
    replace HB := Lib.hid (And.intro (HB.out.1.trans (hb.mono HB.out.2)) (Nat.le_trans HB.out.2 hb.size))
    clear hb
    have ON2 := Lib.hid hon; have OL2 := Lib.hid hol
    clear hon hol
    have lto := blk_lt Vo.out
    have ltf := blk_lt Vf.out
    have gq := HB.out.2
    obtain ⟨w5, hw5⟩ : ∃ W, (((w4.alloc (.cells #[.int .i64 kd, .int .i64 z, .int .i64 o1, .int .i64 o2, .int .i64 o3, .int .i64 o4, .int .i64 o5, .int .u32 wa, .int .u32 to, .slice A2 n c2, .slice B2 m d2] 29)).alloc (.cells #[.int .i64 gop, .int .i64 gstage, .int .i64 gphase, .int .i64 gold, .int .i64 gsince, .int .i64 gleft, .bool gawoke, .bool gstarve, .int .i64 gneed, .bool gfront] 31)).alloc (.cells #[.bool gdn, .bool false, .bool ghd, .int .i64 ggv, .int .i64 gft, .int .u64 0, .slice WA wn wc] 39)) = W := ⟨_, rfl⟩
    have hb : Below w4.heap.size w4 w5 := hw5 ▸ ((((Below.refl _ _).alloc (Nat.le_refl _) _).alloc (by first | (simp; done) | (simp; omega)) _).alloc (by first | (simp; done) | (simp; omega)) _)
    have hv0 : w5.heap[w4.heap.size]? = some (.cells #[.int .i64 kd, .int .i64 z, .int .i64 o1, .int .i64 o2, .int .i64 o3, .int .i64 o4, .int .i64 o5, .int .u32 wa, .int .u32 to, .slice A2 n c2, .slice B2 m d2] 29) := by
      have h0 := heap_alloc_new w4 (.cells #[.int .i64 kd, .int .i64 z, .int .i64 o1, .int .i64 o2, .int .i64 o3, .int .i64 o4, .int .i64 o5, .int .u32 wa, .int .u32 to, .slice A2 n c2, .slice B2 m d2] 29)
      rw [show w4.heap.size = w4.heap.size by simp [Nat.add_assoc]] at h0
      rw [← hw5]
      rw [heap_alloc_old _ _ (by simp <;> omega), heap_alloc_old _ _ (by simp <;> omega)]; exact h0
    have hv1 : w5.heap[w4.heap.size + 1]? = some (.cells #[.int .i64 gop, .int .i64 gstage, .int .i64 gphase, .int .i64 gold, .int .i64 gsince, .int .i64 gleft, .bool gawoke, .bool gstarve, .int .i64 gneed, .bool gfront] 31) := by
      have h0 := heap_alloc_new (w4.alloc (.cells #[.int .i64 kd, .int .i64 z, .int .i64 o1, .int .i64 o2, .int .i64 o3, .int .i64 o4, .int .i64 o5, .int .u32 wa, .int .u32 to, .slice A2 n c2, .slice B2 m d2] 29)) (.cells #[.int .i64 gop, .int .i64 gstage, .int .i64 gphase, .int .i64 gold, .int .i64 gsince, .int .i64 gleft, .bool gawoke, .bool gstarve, .int .i64 gneed, .bool gfront] 31)
      rw [show (w4.alloc (.cells #[.int .i64 kd, .int .i64 z, .int .i64 o1, .int .i64 o2, .int .i64 o3, .int .i64 o4, .int .i64 o5, .int .u32 wa, .int .u32 to, .slice A2 n c2, .slice B2 m d2] 29)).heap.size = w4.heap.size + 1 by simp [Nat.add_assoc]] at h0
      rw [← hw5]
      rw [heap_alloc_old _ _ (by simp <;> omega)]; exact h0
    have hv2 : w5.heap[w4.heap.size + 2]? = some (.cells #[.bool gdn, .bool false, .bool ghd, .int .i64 ggv, .int .i64 gft, .int .u64 0, .slice WA wn wc] 39) := by
      have h0 := heap_alloc_new ((w4.alloc (.cells #[.int .i64 kd, .int .i64 z, .int .i64 o1, .int .i64 o2, .int .i64 o3, .int .i64 o4, .int .i64 o5, .int .u32 wa, .int .u32 to, .slice A2 n c2, .slice B2 m d2] 29)).alloc (.cells #[.int .i64 gop, .int .i64 gstage, .int .i64 gphase, .int .i64 gold, .int .i64 gsince, .int .i64 gleft, .bool gawoke, .bool gstarve, .int .i64 gneed, .bool gfront] 31)) (.cells #[.bool gdn, .bool false, .bool ghd, .int .i64 ggv, .int .i64 gft, .int .u64 0, .slice WA wn wc] 39)
      rw [show ((w4.alloc (.cells #[.int .i64 kd, .int .i64 z, .int .i64 o1, .int .i64 o2, .int .i64 o3, .int .i64 o4, .int .i64 o5, .int .u32 wa, .int .u32 to, .slice A2 n c2, .slice B2 m d2] 29)).alloc (.cells #[.int .i64 gop, .int .i64 gstage, .int .i64 gphase, .int .i64 gold, .int .i64 gsince, .int .i64 gleft, .bool gawoke, .bool gstarve, .int .i64 gneed, .bool gfront] 31)).heap.size = w4.heap.size + 2 by simp [Nat.add_assoc]] at h0
      rw [← hw5]
      exact h0
    replace Vo := Lib.hid (blk_below Vo.out hb (blk_lt Vo.out))
    replace Vf := Lib.hid (blk_below Vf.out hb (blk_lt Vf.out))
    replace RX := Lib.hid (Es.below RX.out hb)
    replace RY := Lib.hid (Es.below RY.out hb)
    replace ON2 := Lib.hid (own_below ON2.out hb)
    replace OL2 := Lib.hid (own_below OL2.out hb)
    replace HB := Lib.hid (And.intro (HB.out.1.trans (hb.mono HB.out.2)) (Nat.le_trans HB.out.2 hb.size))
    have Vx := Lib.hid hv0
    have neo_x := Nat.ne_of_lt lto
    have nef_x := Nat.ne_of_lt ltf
    have gex := gq
    have Vg := Lib.hid hv1
    have neo_g := Nat.ne_of_lt (Nat.lt_of_lt_of_le lto (Nat.le_add_right w4.heap.size 1))
    have nef_g := Nat.ne_of_lt (Nat.lt_of_lt_of_le ltf (Nat.le_add_right w4.heap.size 1))
    have nex_g : w4.heap.size ≠ w4.heap.size + 1 := by omega
    have geg : _ ≤ w4.heap.size + 1 := Nat.le_trans gq (Nat.le_add_right _ 1)
    have Va := Lib.hid hv2
    have neo_a := Nat.ne_of_lt (Nat.lt_of_lt_of_le lto (Nat.le_add_right w4.heap.size 2))
    have nef_a := Nat.ne_of_lt (Nat.lt_of_lt_of_le ltf (Nat.le_add_right w4.heap.size 2))
    have nex_a : w4.heap.size ≠ w4.heap.size + 2 := by omega
    have neg_a : w4.heap.size + 1 ≠ w4.heap.size + 2 := by omega
    have gea : _ ≤ w4.heap.size + 2 := Nat.le_trans gq (Nat.le_add_right _ 2)
    generalize hsx : w4.heap.size = sx at *
    clear hb gq hv0 hv1 hv2 lto ltf
    obtain ⟨co0, co1, co2, co3, co4, co5, co6, co7, co8, co9, co10⟩ := row11 Vo.out
    obtain ⟨cf0, cf1, cf2, cf3, cf4, cf5, cf6, cf7, cf8, cf9⟩ := row10 Vf.out
    go_wp2_with fail
    refine (L2.out _).mono ?_
    rintro e w6 ⟨rfl, hb⟩
    clear co0 co1 co2 co3 co4 co5 co6 co7 co8 co9 co10 cf0 cf1 cf2 cf3 cf4 cf5 cf6 cf7 cf8 cf9
    replace Vo := Lib.hid (blk_below Vo.out hb (blk_lt Vo.out))
    replace Vf := Lib.hid (blk_below Vf.out hb (blk_lt Vf.out))
    replace Vx := Lib.hid (blk_below Vx.out hb (blk_lt Vx.out))
    replace Vg := Lib.hid (blk_below Vg.out hb (blk_lt Vg.out))
    replace Va := Lib.hid (blk_below Va.out hb (blk_lt Va.out))
    replace RX := Lib.hid (Es.below RX.out hb)
    replace RY := Lib.hid (Es.below RY.out hb)
    replace ON2 := Lib.hid (own_below ON2.out hb)
    replace OL2 := Lib.hid (own_below OL2.out hb)
    replace HB := Lib.hid (And.intro (HB.out.1.trans (hb.mono HB.out.2)) (Nat.le_trans HB.out.2 hb.size))
    clear hb
    have lto := blk_lt Vo.out
    have ltf := blk_lt Vf.out
    have ltx := blk_lt Vx.out
    have ltg := blk_lt Vg.out
    have lta := blk_lt Va.out
    have gq := HB.out.2
    obtain ⟨w7, hw7⟩ : ∃ W, (((w6.alloc (.cells #[.int .i64 kd, .int .i64 z, .int .i64 o1, .int .i64 o2, .int .i64 o3, .int .i64 o4, .int .i64 o5, .int .u32 wa, .int .u32 to, .slice A n c, .slice B m d] 29)).alloc (.cells #[.int .i64 gop, .int .i64 gstage, .int .i64 gphase, .int .i64 gold, .int .i64 gsince, .int .i64 gleft, .bool gawoke, .bool gstarve, .int .i64 gneed, .bool gfront] 31)).alloc (.cells #[.bool gdn, .bool false, .bool ghd, .int .i64 ggv, .int .i64 gft, .int .u64 0, .slice WA wn wc] 39)) = W := ⟨_, rfl⟩
    have hb : Below w6.heap.size w6 w7 := hw7 ▸ ((((Below.refl _ _).alloc (Nat.le_refl _) _).alloc (by first | (simp; done) | (simp; omega)) _).alloc (by first | (simp; done) | (simp; omega)) _)
    have hv0 : w7.heap[w6.heap.size]? = some (.cells #[.int .i64 kd, .int .i64 z, .int .i64 o1, .int .i64 o2, .int .i64 o3, .int .i64 o4, .int .i64 o5, .int .u32 wa, .int .u32 to, .slice A n c, .slice B m d] 29) := by
      have h0 := heap_alloc_new w6 (.cells #[.int .i64 kd, .int .i64 z, .int .i64 o1, .int .i64 o2, .int .i64 o3, .int .i64 o4, .int .i64 o5, .int .u32 wa, .int .u32 to, .slice A n c, .slice B m d] 29)
      rw [show w6.heap.size = w6.heap.size by simp [Nat.add_assoc]] at h0
      rw [← hw7]
      rw [heap_alloc_old _ _ (by simp <;> omega), heap_alloc_old _ _ (by simp <;> omega)]; exact h0
    have hv1 : w7.heap[w6.heap.size + 1]? = some (.cells #[.int .i64 gop, .int .i64 gstage, .int .i64 gphase, .int .i64 gold, .int .i64 gsince, .int .i64 gleft, .bool gawoke, .bool gstarve, .int .i64 gneed, .bool gfront] 31) := by
      have h0 := heap_alloc_new (w6.alloc (.cells #[.int .i64 kd, .int .i64 z, .int .i64 o1, .int .i64 o2, .int .i64 o3, .int .i64 o4, .int .i64 o5, .int .u32 wa, .int .u32 to, .slice A n c, .slice B m d] 29)) (.cells #[.int .i64 gop, .int .i64 gstage, .int .i64 gphase, .int .i64 gold, .int .i64 gsince, .int .i64 gleft, .bool gawoke, .bool gstarve, .int .i64 gneed, .bool gfront] 31)
      rw [show (w6.alloc (.cells #[.int .i64 kd, .int .i64 z, .int .i64 o1, .int .i64 o2, .int .i64 o3, .int .i64 o4, .int .i64 o5, .int .u32 wa, .int .u32 to, .slice A n c, .slice B m d] 29)).heap.size = w6.heap.size + 1 by simp [Nat.add_assoc]] at h0
      rw [← hw7]
      rw [heap_alloc_old _ _ (by simp <;> omega)]; exact h0
    have hv2 : w7.heap[w6.heap.size + 2]? = some (.cells #[.bool gdn, .bool false, .bool ghd, .int .i64 ggv, .int .i64 gft, .int .u64 0, .slice WA wn wc] 39) := by
      have h0 := heap_alloc_new ((w6.alloc (.cells #[.int .i64 kd, .int .i64 z, .int .i64 o1, .int .i64 o2, .int .i64 o3, .int .i64 o4, .int .i64 o5, .int .u32 wa, .int .u32 to, .slice A n c, .slice B m d] 29)).alloc (.cells #[.int .i64 gop, .int .i64 gstage, .int .i64 gphase, .int .i64 gold, .int .i64 gsince, .int .i64 gleft, .bool gawoke, .bool gstarve, .int .i64 gneed, .bool gfront] 31)) (.cells #[.bool gdn, .bool false, .bool ghd, .int .i64 ggv, .int .i64 gft, .int .u64 0, .slice WA wn wc] 39)
      rw [show ((w6.alloc (.cells #[.int .i64 kd, .int .i64 z, .int .i64 o1, .int .i64 o2, .int .i64 o3, .int .i64 o4, .int .i64 o5, .int .u32 wa, .int .u32 to, .slice A n c, .slice B m d] 29)).alloc (.cells #[.int .i64 gop, .int .i64 gstage, .int .i64 gphase, .int .i64 gold, .int .i64 gsince, .int .i64 gleft, .bool gawoke, .bool gstarve, .int .i64 gneed, .bool gfront] 31)).heap.size = w6.heap.size + 2 by simp [Nat.add_assoc]] at h0
      rw [← hw7]
      exact h0
    replace Vo := Lib.hid (blk_below Vo.out hb (blk_lt Vo.out))
    replace Vf := Lib.hid (blk_below Vf.out hb (blk_lt Vf.out))
    replace Vx := Lib.hid (blk_below Vx.out hb (blk_lt Vx.out))
    replace Vg := Lib.hid (blk_below Vg.out hb (blk_lt Vg.out))
    replace Va := Lib.hid (blk_below Va.out hb (blk_lt Va.out))
    replace RX := Lib.hid (Es.below RX.out hb)
    replace RY := Lib.hid (Es.below RY.out hb)
    replace ON2 := Lib.hid (own_below ON2.out hb)
    replace OL2 := Lib.hid (own_below OL2.out hb)
    replace HB := Lib.hid (And.intro (HB.out.1.trans (hb.mono HB.out.2)) (Nat.le_trans HB.out.2 hb.size))
    have Vy := Lib.hid hv0
    have neo_y := Nat.ne_of_lt lto
    have nef_y := Nat.ne_of_lt ltf
    have nex_y := Nat.ne_of_lt ltx
    have neg_y := Nat.ne_of_lt ltg
    have nea_y := Nat.ne_of_lt lta
    have gey := gq
    have Vh := Lib.hid hv1
    have neo_h := Nat.ne_of_lt (Nat.lt_of_lt_of_le lto (Nat.le_add_right w6.heap.size 1))
    have nef_h := Nat.ne_of_lt (Nat.lt_of_lt_of_le ltf (Nat.le_add_right w6.heap.size 1))
    have nex_h := Nat.ne_of_lt (Nat.lt_of_lt_of_le ltx (Nat.le_add_right w6.heap.size 1))
    have neg_h := Nat.ne_of_lt (Nat.lt_of_lt_of_le ltg (Nat.le_add_right w6.heap.size 1))
    have nea_h := Nat.ne_of_lt (Nat.lt_of_lt_of_le lta (Nat.le_add_right w6.heap.size 1))
    have ney_h : w6.heap.size ≠ w6.heap.size + 1 := by omega
    have geh : _ ≤ w6.heap.size + 1 := Nat.le_trans gq (Nat.le_add_right _ 1)
    have Vb := Lib.hid hv2
    have neo_b := Nat.ne_of_lt (Nat.lt_of_lt_of_le lto (Nat.le_add_right w6.heap.size 2))
    have nef_b := Nat.ne_of_lt (Nat.lt_of_lt_of_le ltf (Nat.le_add_right w6.heap.size 2))
    have nex_b := Nat.ne_of_lt (Nat.lt_of_lt_of_le ltx (Nat.le_add_right w6.heap.size 2))
    have neg_b := Nat.ne_of_lt (Nat.lt_of_lt_of_le ltg (Nat.le_add_right w6.heap.size 2))
    have nea_b := Nat.ne_of_lt (Nat.lt_of_lt_of_le lta (Nat.le_add_right w6.heap.size 2))
    have ney_b : w6.heap.size ≠ w6.heap.size + 2 := by omega
    have neh_b : w6.heap.size + 1 ≠ w6.heap.size + 2 := by omega
    have geb : _ ≤ w6.heap.size + 2 := Nat.le_trans gq (Nat.le_add_right _ 2)
    generalize hsy : w6.heap.size = sy at *
    clear hb gq hv0 hv1 hv2 lto ltf ltx ltg lta
    have RX2 := Lib.hid (own_wts ON2.out); have RY2 := Lib.hid (own_cls OL2.out)
    have hfe := fr_self gop gstage gphase gold gsince gleft gawoke gstarve gneed gfront
    obtain ⟨cx0, cx1, cx2, cx3, cx4, cx5, cx6, cx7, cx8, cx9, cx10⟩ := row11 Vx.out
    obtain ⟨cy0, cy1, cy2, cy3, cy4, cy5, cy6, cy7, cy8, cy9, cy10⟩ := row11 Vy.out
    go_wp2_with fail
    refine (OE.out _ _ _ _ _ RX2.out RY2.out RX.out RY.out).mono ?_
    rintro e w8 ⟨rfl, hb⟩
    clear cx0 cx1 cx2 cx3 cx4 cx5 cx6 cx7 cx8 cx9 cx10 cy0 cy1 cy2 cy3 cy4 cy5 cy6 cy7 cy8 cy9 cy10
    replace Vo := Lib.hid (blk_below Vo.out hb (blk_lt Vo.out))
    replace Vf := Lib.hid (blk_below Vf.out hb (blk_lt Vf.out))
    replace Vx := Lib.hid (blk_below Vx.out hb (blk_lt Vx.out))
    replace Vg := Lib.hid (blk_below Vg.out hb (blk_lt Vg.out))
    replace Va := Lib.hid (blk_below Va.out hb (blk_lt Va.out))
    replace Vy := Lib.hid (blk_below Vy.out hb (blk_lt Vy.out))
    replace Vh := Lib.hid (blk_below Vh.out hb (blk_lt Vh.out))
    replace Vb := Lib.hid (blk_below Vb.out hb (blk_lt Vb.out))
    replace RX := Lib.hid (Es.below RX.out hb)
    replace RY := Lib.hid (Es.below RY.out hb)
    replace ON2 := Lib.hid (own_below ON2.out hb)
    replace OL2 := Lib.hid (own_below OL2.out hb)
    replace HB := Lib.hid (And.intro (HB.out.1.trans (hb.mono HB.out.2)) (Nat.le_trans HB.out.2 hb.size))
    clear hb
    obtain ⟨cg0, cg1, cg2, cg3, cg4, cg5, cg6, cg7, cg8, cg9⟩ := row10 Vg.out
    obtain ⟨ch0, ch1, ch2, ch3, ch4, ch5, ch6, ch7, ch8, ch9⟩ := row10 Vh.out
    obtain ⟨ca0, ca1, ca2, ca3, ca4, ca5, ca6⟩ := row7 Va.out
    obtain ⟨cb0, cb1, cb2, cb3, cb4, cb5, cb6⟩ := row7 Vb.out
    go_wp2_with fail
    refine (AE.out _).mono ?_
    rintro e w9 ⟨rfl, hb⟩
    clear cg0 cg1 cg2 cg3 cg4 cg5 cg6 cg7 cg8 cg9 ch0 ch1 ch2 ch3 ch4 ch5 ch6 ch7 ch8 ch9 ca0 ca1 ca2 ca3 ca4 ca5 ca6 cb0 cb1 cb2 cb3 cb4 cb5 cb6
    replace Vo := Lib.hid (blk_below Vo.out hb (blk_lt Vo.out))
    replace Vf := Lib.hid (blk_below Vf.out hb (blk_lt Vf.out))
    replace Vx := Lib.hid (blk_below Vx.out hb (blk_lt Vx.out))
    replace Vg := Lib.hid (blk_below Vg.out hb (blk_lt Vg.out))
    replace Va := Lib.hid (blk_below Va.out hb (blk_lt Va.out))
    replace Vy := Lib.hid (blk_below Vy.out hb (blk_lt Vy.out))
    replace Vh := Lib.hid (blk_below Vh.out hb (blk_lt Vh.out))
    replace Vb := Lib.hid (blk_below Vb.out hb (blk_lt Vb.out))
    replace RX := Lib.hid (Es.below RX.out hb)
    replace RY := Lib.hid (Es.below RY.out hb)
    replace ON2 := Lib.hid (own_below ON2.out hb)
    replace OL2 := Lib.hid (own_below OL2.out hb)
    replace HB := Lib.hid (And.intro (HB.out.1.trans (hb.mono HB.out.2)) (Nat.le_trans HB.out.2 hb.size))
    clear hb
    go_wp2_with fail
    refine (BG.out _).mono ?_
    rintro e w10 ⟨rfl, hb⟩
    replace Vo := Lib.hid (blk_below Vo.out hb (blk_lt Vo.out))
    replace Vf := Lib.hid (blk_below Vf.out hb (blk_lt Vf.out))
    replace Vx := Lib.hid (blk_below Vx.out hb (blk_lt Vx.out))
    replace Vg := Lib.hid (blk_below Vg.out hb (blk_lt Vg.out))
    replace Va := Lib.hid (blk_below Va.out hb (blk_lt Va.out))
    replace Vy := Lib.hid (blk_below Vy.out hb (blk_lt Vy.out))
    replace Vh := Lib.hid (blk_below Vh.out hb (blk_lt Vh.out))
    replace Vb := Lib.hid (blk_below Vb.out hb (blk_lt Vb.out))
    replace RX := Lib.hid (Es.below RX.out hb)
    replace RY := Lib.hid (Es.below RY.out hb)
    replace ON2 := Lib.hid (own_below ON2.out hb)
    replace OL2 := Lib.hid (own_below OL2.out hb)
    replace HB := Lib.hid (And.intro (HB.out.1.trans (hb.mono HB.out.2)) (Nat.le_trans HB.out.2 hb.size))
    clear hb
    go_wp2_with fail
    refine (BH.out _).mono ?_
    rintro e w11 ⟨rfl, hb⟩
    replace Vo := Lib.hid (blk_below Vo.out hb (blk_lt Vo.out))
    replace Vf := Lib.hid (blk_below Vf.out hb (blk_lt Vf.out))
    replace Vx := Lib.hid (blk_below Vx.out hb (blk_lt Vx.out))
    replace Vg := Lib.hid (blk_below Vg.out hb (blk_lt Vg.out))
    replace Va := Lib.hid (blk_below Va.out hb (blk_lt Va.out))
    replace Vy := Lib.hid (blk_below Vy.out hb (blk_lt Vy.out))
    replace Vh := Lib.hid (blk_below Vh.out hb (blk_lt Vh.out))
    replace Vb := Lib.hid (blk_below Vb.out hb (blk_lt Vb.out))
    replace RX := Lib.hid (Es.below RX.out hb)
    replace RY := Lib.hid (Es.below RY.out hb)
    replace ON2 := Lib.hid (own_below ON2.out hb)
    replace OL2 := Lib.hid (own_below OL2.out hb)
    replace HB := Lib.hid (And.intro (HB.out.1.trans (hb.mono HB.out.2)) (Nat.le_trans HB.out.2 hb.size))
    clear hb
    go_wp2
    go_ret
    exact ⟨rfl, HB.out.1⟩
end Go.Proofs.Ytagaijghfikdoaa
