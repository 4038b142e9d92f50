/- The walk of MutexOne: it answers true, over any world; no condition. -/
import Derived.Test.YtagaijghfikdoaaMutS
import Derived.Test.YtagaijghfikdoaaMutUA
import Derived.Test.YtagaijghfikdoaaInv
namespace Go.Proofs.Ytagaijghfikdoaa
set_option linter.unusedVariables false
set_option linter.unusedSimpArgs false
open Go.RowKit
set_option maxRecDepth 100000 in
set_option maxHeartbeats 16000000 in
theorem one15_c (kd o0 o1 o2 o3 o4 o5 wa to : Int) (A : Option Addr) (n c : Nat) (B : Option Addr) (m d : Nat) (nl : List Wt) (ll : List Cl) (op stage phase old since left : Int) (awoke starve : Bool) (need : Int) (front : Bool) (x0 x1 : Int) (hc : ¬ hasBit o0 0 ∧ ¬ phase = 0) (hrg : IntKind.i64.wrap o0 = o0) (w : World) (hx : Wts w A n c nl) (hy : Cls w B m d ll) :
    Calls Try.prog 5 #[obV kd o0 o1 o2 o3 o4 o5 wa to A n c B m d, frV ⟨op, stage, phase, old, since, left, awoke, starve, need, front⟩, .agg #[.int .i64 x0, .int .i64 x1]] w fun e w' => e = .returned (.bool true) ∧ Below w.heap.size w w' := by
  have RX := Lib.hid hx; have RY := Lib.hid hy
  clear hx hy
  replace hc := Lib.hid hc
  unfold obV frV frC
  simp only
  have HB := Lib.hid (And.intro (Below.refl w.heap.size w) (Nat.le_refl w.heap.size))
  have gq := HB.out.2
  obtain ⟨w1, hw1⟩ : ∃ W, (((w.alloc (.cells #[.int .i64 kd, .int .i64 o0, .int .i64 o1, .int .i64 o2, .int .i64 o3, .int .i64 o4, .int .i64 o5, .int .u32 wa, .int .u32 to, .slice A n c, .slice B m d] 29)).alloc (.cells #[.int .i64 op, .int .i64 stage, .int .i64 phase, .int .i64 old, .int .i64 since, .int .i64 left, .bool awoke, .bool starve, .int .i64 need, .bool front] 31)).alloc (.cells #[.int .i64 x0, .int .i64 x1] 32)) = W := ⟨_, rfl⟩
  have hb : Below w.heap.size w w1 := hw1 ▸ ((((Below.refl _ _).alloc (Nat.le_refl _) _).alloc (by first | (simp; done) | (simp; omega)) _).alloc (by first | (simp; done) | (simp; omega)) _)
  have hv0 : w1.heap[w.heap.size]? = some (.cells #[.int .i64 kd, .int .i64 o0, .int .i64 o1, .int .i64 o2, .int .i64 o3, .int .i64 o4, .int .i64 o5, .int .u32 wa, .int .u32 to, .slice A n c, .slice B m d] 29) := by
    have h0 := heap_alloc_new w (.cells #[.int .i64 kd, .int .i64 o0, .int .i64 o1, .int .i64 o2, .int .i64 o3, .int .i64 o4, .int .i64 o5, .int .u32 wa, .int .u32 to, .slice A n c, .slice B m d] 29)
    rw [show w.heap.size = w.heap.size by simp [Nat.add_assoc]] at h0
    rw [← hw1]
    rw [heap_alloc_old _ _ (by simp <;> omega), heap_alloc_old _ _ (by simp <;> omega)]; exact h0
  have hv1 : w1.heap[w.heap.size + 1]? = some (.cells #[.int .i64 op, .int .i64 stage, .int .i64 phase, .int .i64 old, .int .i64 since, .int .i64 left, .bool awoke, .bool starve, .int .i64 need, .bool front] 31) := by
    have h0 := heap_alloc_new (w.alloc (.cells #[.int .i64 kd, .int .i64 o0, .int .i64 o1, .int .i64 o2, .int .i64 o3, .int .i64 o4, .int .i64 o5, .int .u32 wa, .int .u32 to, .slice A n c, .slice B m d] 29)) (.cells #[.int .i64 op, .int .i64 stage, .int .i64 phase, .int .i64 old, .int .i64 since, .int .i64 left, .bool awoke, .bool starve, .int .i64 need, .bool front] 31)
    rw [show (w.alloc (.cells #[.int .i64 kd, .int .i64 o0, .int .i64 o1, .int .i64 o2, .int .i64 o3, .int .i64 o4, .int .i64 o5, .int .u32 wa, .int .u32 to, .slice A n c, .slice B m d] 29)).heap.size = w.heap.size + 1 by simp [Nat.add_assoc]] at h0
    rw [← hw1]
    rw [heap_alloc_old _ _ (by simp <;> omega)]; exact h0
  have hv2 : w1.heap[w.heap.size + 2]? = some (.cells #[.int .i64 x0, .int .i64 x1] 32) := by
    have h0 := heap_alloc_new ((w.alloc (.cells #[.int .i64 kd, .int .i64 o0, .int .i64 o1, .int .i64 o2, .int .i64 o3, .int .i64 o4, .int .i64 o5, .int .u32 wa, .int .u32 to, .slice A n c, .slice B m d] 29)).alloc (.cells #[.int .i64 op, .int .i64 stage, .int .i64 phase, .int .i64 old, .int .i64 since, .int .i64 left, .bool awoke, .bool starve, .int .i64 need, .bool front] 31)) (.cells #[.int .i64 x0, .int .i64 x1] 32)
    rw [show ((w.alloc (.cells #[.int .i64 kd, .int .i64 o0, .int .i64 o1, .int .i64 o2, .int .i64 o3, .int .i64 o4, .int .i64 o5, .int .u32 wa, .int .u32 to, .slice A n c, .slice B m d] 29)).alloc (.cells #[.int .i64 op, .int .i64 stage, .int .i64 phase, .int .i64 old, .int .i64 since, .int .i64 left, .bool awoke, .bool starve, .int .i64 need, .bool front] 31)).heap.size = w.heap.size + 2 by simp [Nat.add_assoc]] at h0
    rw [← hw1]
    exact h0
  replace HB := Lib.hid (And.intro (HB.out.1.trans (hb.mono HB.out.2)) (Nat.le_trans HB.out.2 hb.size))
  have Vo := Lib.hid hv0
  have geo := gq
  have Vf := Lib.hid hv1
  have neo_f : w.heap.size ≠ w.heap.size + 1 := by omega
  have gef : _ ≤ w.heap.size + 1 := Nat.le_trans gq (Nat.le_add_right _ 1)
  have Vt := Lib.hid hv2
  have neo_t : w.heap.size ≠ w.heap.size + 2 := by omega
  have nef_t : w.heap.size + 1 ≠ w.heap.size + 2 := by omega
  have get : _ ≤ w.heap.size + 2 := Nat.le_trans gq (Nat.le_add_right _ 2)
  generalize hso : w.heap.size = so at *
  clear hb gq hv0 hv1 hv2
  subst hso
  have AL := Lib.hid alive15
  by_cases h0 : 20 < n ∨ 20 < m
  · have g2 := Lib.hid (fun (W : World) => great15_yes kd o0 o1 o2 o3 o4 o5 wa to A n c B m d W h0)
    clear h0
    go_enter Try.func5, Try.ntmps5
    go_wp2_with fail
    refine (AL.out _).mono ?_
    rintro e w2 ⟨rfl, hb⟩
    replace Vo := Lib.hid (blk_below Vo.out hb (blk_lt Vo.out))
    replace Vf := Lib.hid (blk_below Vf.out hb (blk_lt Vf.out))
    replace Vt := Lib.hid (blk_below Vt.out hb (blk_lt Vt.out))
    replace HB := Lib.hid (And.intro (HB.out.1.trans (hb.mono HB.out.2)) (Nat.le_trans HB.out.2 hb.size))
    clear hb
    obtain ⟨co0, co1, co2, co3, co4, co5, co6, co7, co8, co9, co10⟩ := row11 Vo.out
    go_wp2_with fail
    refine (g2.out _).mono ?_
    rintro e w3 ⟨rfl, hb⟩
    clear co0 co1 co2 co3 co4 co5 co6 co7 co8 co9 co10
    replace Vo := Lib.hid (blk_below Vo.out hb (blk_lt Vo.out))
    replace Vf := Lib.hid (blk_below Vf.out hb (blk_lt Vf.out))
    replace Vt := Lib.hid (blk_below Vt.out hb (blk_lt Vt.out))
    replace HB := Lib.hid (And.intro (HB.out.1.trans (hb.mono HB.out.2)) (Nat.le_trans HB.out.2 hb.size))
    clear hb
    go_wp2
    go_ret
    exact ⟨rfl, HB.out.1⟩
  · have hn : n ≤ 16384 := by omega
    have hm : m ≤ 16384 := by omega
    have g2 := Lib.hid (fun (W : World) => great15_no kd o0 o1 o2 o3 o4 o5 wa to A n c B m d W h0)
    clear h0
    have hla := lock_act (w := o0) (f := ⟨op, stage, phase, old, since, left, awoke, starve, need, front⟩) (now := x0) (pat := x1)
    have hld := lock_done (w := o0) (f := ⟨op, stage, phase, old, since, left, awoke, starve, need, front⟩) (now := x0) (pat := x1)
    have hl1 := lock_one (w := o0) (f := ⟨op, stage, phase, old, since, left, awoke, starve, need, front⟩) (now := x0) (pat := x1)
    obtain ⟨hu0, hu1⟩ := unlock_fault o0 ⟨op, stage, phase, old, since, left, awoke, starve, need, front⟩
    obtain ⟨⟨z, ⟨gop, gstage, gphase, gold, gsince, gleft, gawoke, gstarve, gneed, gfront⟩, ⟨gdn, ggv, ghd, gft⟩⟩, hr⟩ : ∃ r, lockM o0 ⟨op, stage, phase, old, since, left, awoke, starve, need, front⟩ x0 x1 = r := ⟨_, rfl⟩
    obtain ⟨⟨y, ⟨hop, hstage, hphase, hold, hsince, hleft, hawoke, hstarve, hneed, hfront⟩, ⟨hdn, hgv, hhd, hft⟩⟩, hr2⟩ : ∃ r, unlockM o0 ⟨op, stage, phase, old, since, left, awoke, starve, need, front⟩ = r := ⟨_, rfl⟩
    rw [hr] at hla hld hl1
    rw [hr2] at hu0 hu1
    simp only at hla hld hl1 hu0 hu1
    obtain ⟨WA, wn, wc, hwk⟩ : ∃ (X : Option Addr) (i j : Nat), (Value.slice X i j) = .slice none 0 0 := ⟨_, _, _, rfl⟩
    have L1 := Lib.hid (show ∀ (W : World), Wts W A n c nl → Cls W B m d ll → Calls Try.prog 10 #[.agg #[.int .i64 kd, .int .i64 o0, .int .i64 o1, .int .i64 o2, .int .i64 o3, .int .i64 o4, .int .i64 o5, .int .u32 wa, .int .u32 to, .slice A n c, .slice B m d], .agg #[.int .i64 op, .int .i64 stage, .int .i64 phase, .int .i64 old, .int .i64 since, .int .i64 left, .bool awoke, .bool starve, .int .i64 need, .bool front], .int .i64 x0, .int .i64 x1] W (fun e w' => ∃ A2 c2 B2 d2, e = .returned (.tuple #[.agg #[.int .i64 kd, .int .i64 z, .int .i64 o1, .int .i64 o2, .int .i64 o3, .int .i64 o4, .int .i64 o5, .int .u32 wa, .int .u32 to, .slice A2 n c2, .slice B2 m d2], .agg #[.int .i64 gop, .int .i64 gstage, .int .i64 gphase, .int .i64 gold, .int .i64 gsince, .int .i64 gleft, .bool gawoke, .bool gstarve, .int .i64 gneed, .bool gfront], .agg #[.bool gdn, .bool false, .bool ghd, .int .i64 ggv, .int .i64 gft, .int .u64 0, .slice WA wn wc]]) ∧ w'.ownsRow W.heap.size 69 2 (.slice A2 n c2) n (wtC nl) ∧ w'.ownsRow W.heap.size 64 2 (.slice B2 m d2) m (clC ll) ∧ Below W.heap.size W w') from fun W h1 h2 => by
      have h := muLock_any kd o0 o1 o2 o3 o4 o5 wa to A n c B m d nl ll ⟨op, stage, phase, old, since, left, awoke, starve, need, front⟩ x0 x1 W h1 h2 hn hm
      rw [hr] at h
      rw [hwk]
      refine h.mono ?_
      rintro e w' ⟨A2, c2, B2, d2, he, k1, k2, hb, _, _⟩
      exact ⟨A2, c2, B2, d2, he, k1, k2, hb⟩)
    have L2 := Lib.hid (show ∀ (W : World), Wts W A n c nl → Cls W B m d ll → Calls Try.prog 16 #[.agg #[.int .i64 kd, .int .i64 o0, .int .i64 o1, .int .i64 o2, .int .i64 o3, .int .i64 o4, .int .i64 o5, .int .u32 wa, .int .u32 to, .slice A n c, .slice B m d], .agg #[.int .i64 op, .int .i64 stage, .int .i64 phase, .int .i64 old, .int .i64 since, .int .i64 left, .bool awoke, .bool starve, .int .i64 need, .bool front]] W (fun e w' => ∃ A2 c2 B2 d2, e = .returned (.tuple #[.agg #[.int .i64 kd, .int .i64 y, .int .i64 o1, .int .i64 o2, .int .i64 o3, .int .i64 o4, .int .i64 o5, .int .u32 wa, .int .u32 to, .slice A2 n c2, .slice B2 m d2], .agg #[.int .i64 hop, .int .i64 hstage, .int .i64 hphase, .int .i64 hold, .int .i64 hsince, .int .i64 hleft, .bool hawoke, .bool hstarve, .int .i64 hneed, .bool hfront], .agg #[.bool hdn, .bool false, .bool hhd, .int .i64 hgv, .int .i64 hft, .int .u64 0, .slice WA wn wc]]) ∧ w'.ownsRow W.heap.size 69 2 (.slice A2 n c2) n (wtC nl) ∧ w'.ownsRow W.heap.size 64 2 (.slice B2 m d2) m (clC ll) ∧ Below W.heap.size W w') from fun W h1 h2 => by
      have h := muUnlock_any kd o0 o1 o2 o3 o4 o5 wa to A n c B m d nl ll ⟨op, stage, phase, old, since, left, awoke, starve, need, front⟩ W h1 h2 hn hm hrg
      rw [hr2] at h
      rw [hwk]
      refine h.mono ?_
      rintro e w' ⟨A2, c2, B2, d2, he, k1, k2, hb, _, _⟩
      exact ⟨A2, c2, B2, d2, he, k1, k2, hb⟩)
    have OE := Lib.hid (fun (A2 : Option Addr) (c2 : Nat) (B2 : Option Addr) (d2 : Nat) (W : World) (h1 : Wts W A2 n c2 nl) (h2 : Cls W B2 m d2 ll) (h3 : Wts W A n c nl) (h4 : Cls W B m d ll) => obj15_eq2 kd o0 o1 o2 o3 o4 o5 wa to A2 n c2 B2 m d2 A c B d nl ll W h1 h2 h3 h4 hn hm)
    have LK := fun (W : World) => muLocked_any kd o0 o1 o2 o3 o4 o5 wa to A n c B m d W
    have LX := fun (A2 : Option Addr) (c2 : Nat) (B2 : Option Addr) (d2 : Nat) (W : World) => muLocked_any kd z o1 o2 o3 o4 o5 wa to A2 n c2 B2 m d2 W
    injection hwk with hk1 hk2 hk3
    have w0 : ((wn : Int) != 0) = false := by simp [hk2]
    have w0n : (wn != 0) = false := by simp [hk2]
    clear hr hr2 hn hm hk1 hk2 hk3 hrg
    have hga : ggv = 0 ∧ gft = 0 := by rcases hla with h | h <;> (injection h with h1 h2 h3 h4; exact ⟨h2, h4⟩)
    have v0 : (ggv != 0) = false := by simp [hga.1]
    have v1 : (gft != 0) = false := by simp [hga.2]
    clear hla hga
    have hgz : gdn = true → ∀ W : World, (binOp .neq 31 (.agg #[.int .i64 gop, .int .i64 gstage, .int .i64 gphase, .int .i64 gold, .int .i64 gsince, .int .i64 gleft, .bool gawoke, .bool gstarve, .int .i64 gneed, .bool gfront]) (.agg #[.int .i64 0, .int .i64 0, .int .i64 0, .int .i64 0, .int .i64 0, .int .i64 0, .bool false, .bool false, .int .i64 0, .bool false])).run Try.prog W = .ok (.bool false) W := fun hd W => by
      have h := hld hd
      unfold noF at h
      injection h with a1 a2 a3 a4 a5 a6 a7 a8 a9 a10
      subst a1 a2 a3 a4 a5 a6 a7 a8 a9 a10
      exact fr_zero W
    replace hgz := Lib.hid hgz; replace hl1 := Lib.hid hl1; replace hu0 := Lib.hid hu0; replace hu1 := Lib.hid hu1
    clear hld
    have hlo := decide_eq_false hc.out.1
    rw [hlo] at LK
    replace LK := Lib.hid LK
    have p0 := hc.out.2
    clear hc
    have n0 : (phase == 0) = false := by simp [p0]
    have hbf : hft = 0 := hu1.out.resolve_right (fun h => p0 h.2.1)
    clear hu0 hu1
    by_cases p2 : phase = 2
    · subst p2
      clear p0 n0
      cases gdn
      · as_aux_lemma =>
         clear LX hl1 hgz hlo
         have b1 : (hft == 1) = false := by rw [hbf]; rfl
         have b0 : (hft != 0) = false := by rw [hbf]; rfl
         clear hbf
         go_enter Try.func5, Try.ntmps5
         go_wp2_with fail
         refine (AL.out _).mono ?_
         rintro e w2 ⟨rfl, hb⟩
         replace Vo := Lib.hid (blk_below Vo.out hb (blk_lt Vo.out))
         replace Vf := Lib.hid (blk_below Vf.out hb (blk_lt Vf.out))
         replace Vt := Lib.hid (blk_below Vt.out hb (blk_lt Vt.out))
         replace HB := Lib.hid (And.intro (HB.out.1.trans (hb.mono HB.out.2)) (Nat.le_trans HB.out.2 hb.size))
         clear hb
         obtain ⟨co0, co1, co2, co3, co4, co5, co6, co7, co8, co9, co10⟩ := row11 Vo.out
         go_wp2_with fail
         refine (g2.out _).mono ?_
         rintro e w3 ⟨rfl, hb⟩
         clear co0 co1 co2 co3 co4 co5 co6 co7 co8 co9 co10
         replace Vo := Lib.hid (blk_below Vo.out hb (blk_lt Vo.out))
         replace Vf := Lib.hid (blk_below Vf.out hb (blk_lt Vf.out))
         replace Vt := Lib.hid (blk_below Vt.out hb (blk_lt Vt.out))
         replace HB := Lib.hid (And.intro (HB.out.1.trans (hb.mono HB.out.2)) (Nat.le_trans HB.out.2 hb.size))
         clear hb
         obtain ⟨co0, co1, co2, co3, co4, co5, co6, co7, co8, co9, co10⟩ := row11 Vo.out
         obtain ⟨cf0, cf1, cf2, cf3, cf4, cf5, cf6, cf7, cf8, cf9⟩ := row10 Vf.out
         obtain ⟨ct0, ct1⟩ := row2 Vt.out
         go_wp2_with fail
         refine (L1.out _ (Es.below RX.out HB.out.1) (Es.below RY.out HB.out.1)).mono ?_
         rintro e w4 ⟨A2, c2, B2, d2, rfl, hon, hol, hb⟩
         clear co0 co1 co2 co3 co4 co5 co6 co7 co8 co9 co10 cf0 cf1 cf2 cf3 cf4 cf5 cf6 cf7 cf8 cf9 ct0 ct1
         replace Vo := Lib.hid (blk_below Vo.out hb (blk_lt Vo.out))
         replace Vf := Lib.hid (blk_below Vf.out hb (blk_lt Vf.out))
         replace Vt := Lib.hid (blk_below Vt.out hb (blk_lt Vt.out))
         replace HB := Lib.hid (And.intro (HB.out.1.trans (hb.mono HB.out.2)) (Nat.le_trans HB.out.2 hb.size))
         clear hb
         have ON2 := Lib.hid hon; have OL2 := Lib.hid hol
         clear hon hol
         have lto := blk_lt Vo.out
         have ltf := blk_lt Vf.out
         have ltt := blk_lt Vt.out
         have gq := HB.out.2
         obtain ⟨w5, hw5⟩ : ∃ W, (((w4.alloc (.cells #[.int .i64 kd, .int .i64 z, .int .i64 o1, .int .i64 o2, .int .i64 o3, .int .i64 o4, .int .i64 o5, .int .u32 wa, .int .u32 to, .slice A2 n c2, .slice B2 m d2] 29)).alloc (.cells #[.int .i64 gop, .int .i64 gstage, .int .i64 gphase, .int .i64 gold, .int .i64 gsince, .int .i64 gleft, .bool gawoke, .bool gstarve, .int .i64 gneed, .bool gfront] 31)).alloc (.cells #[.bool false, .bool false, .bool ghd, .int .i64 ggv, .int .i64 gft, .int .u64 0, .slice WA wn wc] 39)) = W := ⟨_, rfl⟩
         have hb : Below w4.heap.size w4 w5 := hw5 ▸ ((((Below.refl _ _).alloc (Nat.le_refl _) _).alloc (by first | (simp; done) | (simp; omega)) _).alloc (by first | (simp; done) | (simp; omega)) _)
         have hv0 : w5.heap[w4.heap.size]? = some (.cells #[.int .i64 kd, .int .i64 z, .int .i64 o1, .int .i64 o2, .int .i64 o3, .int .i64 o4, .int .i64 o5, .int .u32 wa, .int .u32 to, .slice A2 n c2, .slice B2 m d2] 29) := by
           have h0 := heap_alloc_new w4 (.cells #[.int .i64 kd, .int .i64 z, .int .i64 o1, .int .i64 o2, .int .i64 o3, .int .i64 o4, .int .i64 o5, .int .u32 wa, .int .u32 to, .slice A2 n c2, .slice B2 m d2] 29)
           rw [show w4.heap.size = w4.heap.size by simp [Nat.add_assoc]] at h0
           rw [← hw5]
           rw [heap_alloc_old _ _ (by simp <;> omega), heap_alloc_old _ _ (by simp <;> omega)]; exact h0
         have hv1 : w5.heap[w4.heap.size + 1]? = some (.cells #[.int .i64 gop, .int .i64 gstage, .int .i64 gphase, .int .i64 gold, .int .i64 gsince, .int .i64 gleft, .bool gawoke, .bool gstarve, .int .i64 gneed, .bool gfront] 31) := by
           have h0 := heap_alloc_new (w4.alloc (.cells #[.int .i64 kd, .int .i64 z, .int .i64 o1, .int .i64 o2, .int .i64 o3, .int .i64 o4, .int .i64 o5, .int .u32 wa, .int .u32 to, .slice A2 n c2, .slice B2 m d2] 29)) (.cells #[.int .i64 gop, .int .i64 gstage, .int .i64 gphase, .int .i64 gold, .int .i64 gsince, .int .i64 gleft, .bool gawoke, .bool gstarve, .int .i64 gneed, .bool gfront] 31)
           rw [show (w4.alloc (.cells #[.int .i64 kd, .int .i64 z, .int .i64 o1, .int .i64 o2, .int .i64 o3, .int .i64 o4, .int .i64 o5, .int .u32 wa, .int .u32 to, .slice A2 n c2, .slice B2 m d2] 29)).heap.size = w4.heap.size + 1 by simp [Nat.add_assoc]] at h0
           rw [← hw5]
           rw [heap_alloc_old _ _ (by simp <;> omega)]; exact h0
         have hv2 : w5.heap[w4.heap.size + 2]? = some (.cells #[.bool false, .bool false, .bool ghd, .int .i64 ggv, .int .i64 gft, .int .u64 0, .slice WA wn wc] 39) := by
           have h0 := heap_alloc_new ((w4.alloc (.cells #[.int .i64 kd, .int .i64 z, .int .i64 o1, .int .i64 o2, .int .i64 o3, .int .i64 o4, .int .i64 o5, .int .u32 wa, .int .u32 to, .slice A2 n c2, .slice B2 m d2] 29)).alloc (.cells #[.int .i64 gop, .int .i64 gstage, .int .i64 gphase, .int .i64 gold, .int .i64 gsince, .int .i64 gleft, .bool gawoke, .bool gstarve, .int .i64 gneed, .bool gfront] 31)) (.cells #[.bool false, .bool false, .bool ghd, .int .i64 ggv, .int .i64 gft, .int .u64 0, .slice WA wn wc] 39)
           rw [show ((w4.alloc (.cells #[.int .i64 kd, .int .i64 z, .int .i64 o1, .int .i64 o2, .int .i64 o3, .int .i64 o4, .int .i64 o5, .int .u32 wa, .int .u32 to, .slice A2 n c2, .slice B2 m d2] 29)).alloc (.cells #[.int .i64 gop, .int .i64 gstage, .int .i64 gphase, .int .i64 gold, .int .i64 gsince, .int .i64 gleft, .bool gawoke, .bool gstarve, .int .i64 gneed, .bool gfront] 31)).heap.size = w4.heap.size + 2 by simp [Nat.add_assoc]] at h0
           rw [← hw5]
           exact h0
         replace Vo := Lib.hid (blk_below Vo.out hb (blk_lt Vo.out))
         replace Vf := Lib.hid (blk_below Vf.out hb (blk_lt Vf.out))
         replace Vt := Lib.hid (blk_below Vt.out hb (blk_lt Vt.out))
         replace ON2 := Lib.hid (own_below ON2.out hb)
         replace OL2 := Lib.hid (own_below OL2.out hb)
         replace HB := Lib.hid (And.intro (HB.out.1.trans (hb.mono HB.out.2)) (Nat.le_trans HB.out.2 hb.size))
         have Vx := Lib.hid hv0
         have neo_x := Nat.ne_of_lt lto
         have nef_x := Nat.ne_of_lt ltf
         have net_x := Nat.ne_of_lt ltt
         have gex := gq
         have Vg := Lib.hid hv1
         have neo_g := Nat.ne_of_lt (Nat.lt_of_lt_of_le lto (Nat.le_add_right w4.heap.size 1))
         have nef_g := Nat.ne_of_lt (Nat.lt_of_lt_of_le ltf (Nat.le_add_right w4.heap.size 1))
         have net_g := Nat.ne_of_lt (Nat.lt_of_lt_of_le ltt (Nat.le_add_right w4.heap.size 1))
         have nex_g : w4.heap.size ≠ w4.heap.size + 1 := by omega
         have geg : _ ≤ w4.heap.size + 1 := Nat.le_trans gq (Nat.le_add_right _ 1)
         have Va := Lib.hid hv2
         have neo_a := Nat.ne_of_lt (Nat.lt_of_lt_of_le lto (Nat.le_add_right w4.heap.size 2))
         have nef_a := Nat.ne_of_lt (Nat.lt_of_lt_of_le ltf (Nat.le_add_right w4.heap.size 2))
         have net_a := Nat.ne_of_lt (Nat.lt_of_lt_of_le ltt (Nat.le_add_right w4.heap.size 2))
         have nex_a : w4.heap.size ≠ w4.heap.size + 2 := by omega
         have neg_a : w4.heap.size + 1 ≠ w4.heap.size + 2 := by omega
         have gea : _ ≤ w4.heap.size + 2 := Nat.le_trans gq (Nat.le_add_right _ 2)
         generalize hsx : w4.heap.size = sx at *
         clear hb gq hv0 hv1 hv2 lto ltf ltt
         obtain ⟨co0, co1, co2, co3, co4, co5, co6, co7, co8, co9, co10⟩ := row11 Vo.out
         obtain ⟨cf0, cf1, cf2, cf3, cf4, cf5, cf6, cf7, cf8, cf9⟩ := row10 Vf.out
         obtain ⟨ca0, ca1, ca2, ca3, ca4, ca5, ca6⟩ := row7 Va.out
         obtain ⟨cg0, cg1, cg2, cg3, cg4, cg5, cg6, cg7, cg8, cg9⟩ := row10 Vg.out
         go_wp2_with fail
         refine (L2.out _ (Es.below RX.out HB.out.1) (Es.below RY.out HB.out.1)).mono ?_
         rintro e w6 ⟨A3, c3, B3, d3, rfl, hon, hol, hb⟩
         clear co0 co1 co2 co3 co4 co5 co6 co7 co8 co9 co10 cf0 cf1 cf2 cf3 cf4 cf5 cf6 cf7 cf8 cf9 ca0 ca1 ca2 ca3 ca4 ca5 ca6 cg0 cg1 cg2 cg3 cg4 cg5 cg6 cg7 cg8 cg9
         replace Vo := Lib.hid (blk_below Vo.out hb (blk_lt Vo.out))
         replace Vf := Lib.hid (blk_below Vf.out hb (blk_lt Vf.out))
         replace Vt := Lib.hid (blk_below Vt.out hb (blk_lt Vt.out))
         replace Vx := Lib.hid (blk_below Vx.out hb (blk_lt Vx.out))
         replace Vg := Lib.hid (blk_below Vg.out hb (blk_lt Vg.out))
         replace Va := Lib.hid (blk_below Va.out hb (blk_lt Va.out))
         replace ON2 := Lib.hid (own_below ON2.out hb)
         replace OL2 := Lib.hid (own_below OL2.out hb)
         replace HB := Lib.hid (And.intro (HB.out.1.trans (hb.mono HB.out.2)) (Nat.le_trans HB.out.2 hb.size))
         clear hb
         have ON3 := Lib.hid hon; have OL3 := Lib.hid hol
         clear hon hol
         have lto := blk_lt Vo.out
         have ltf := blk_lt Vf.out
         have ltt := blk_lt Vt.out
         have ltx := blk_lt Vx.out
         have ltg := blk_lt Vg.out
         have lta := blk_lt Va.out
         have gq := HB.out.2
         obtain ⟨w7, hw7⟩ : ∃ W, (((w6.alloc (.cells #[.int .i64 kd, .int .i64 y, .int .i64 o1, .int .i64 o2, .int .i64 o3, .int .i64 o4, .int .i64 o5, .int .u32 wa, .int .u32 to, .slice A3 n c3, .slice B3 m d3] 29)).alloc (.cells #[.int .i64 hop, .int .i64 hstage, .int .i64 hphase, .int .i64 hold, .int .i64 hsince, .int .i64 hleft, .bool hawoke, .bool hstarve, .int .i64 hneed, .bool hfront] 31)).alloc (.cells #[.bool hdn, .bool false, .bool hhd, .int .i64 hgv, .int .i64 hft, .int .u64 0, .slice WA wn wc] 39)) = W := ⟨_, rfl⟩
         have hb : Below w6.heap.size w6 w7 := hw7 ▸ ((((Below.refl _ _).alloc (Nat.le_refl _) _).alloc (by first | (simp; done) | (simp; omega)) _).alloc (by first | (simp; done) | (simp; omega)) _)
         have hv0 : w7.heap[w6.heap.size]? = some (.cells #[.int .i64 kd, .int .i64 y, .int .i64 o1, .int .i64 o2, .int .i64 o3, .int .i64 o4, .int .i64 o5, .int .u32 wa, .int .u32 to, .slice A3 n c3, .slice B3 m d3] 29) := by
           have h0 := heap_alloc_new w6 (.cells #[.int .i64 kd, .int .i64 y, .int .i64 o1, .int .i64 o2, .int .i64 o3, .int .i64 o4, .int .i64 o5, .int .u32 wa, .int .u32 to, .slice A3 n c3, .slice B3 m d3] 29)
           rw [show w6.heap.size = w6.heap.size by simp [Nat.add_assoc]] at h0
           rw [← hw7]
           rw [heap_alloc_old _ _ (by simp <;> omega), heap_alloc_old _ _ (by simp <;> omega)]; exact h0
         have hv1 : w7.heap[w6.heap.size + 1]? = some (.cells #[.int .i64 hop, .int .i64 hstage, .int .i64 hphase, .int .i64 hold, .int .i64 hsince, .int .i64 hleft, .bool hawoke, .bool hstarve, .int .i64 hneed, .bool hfront] 31) := by
           have h0 := heap_alloc_new (w6.alloc (.cells #[.int .i64 kd, .int .i64 y, .int .i64 o1, .int .i64 o2, .int .i64 o3, .int .i64 o4, .int .i64 o5, .int .u32 wa, .int .u32 to, .slice A3 n c3, .slice B3 m d3] 29)) (.cells #[.int .i64 hop, .int .i64 hstage, .int .i64 hphase, .int .i64 hold, .int .i64 hsince, .int .i64 hleft, .bool hawoke, .bool hstarve, .int .i64 hneed, .bool hfront] 31)
           rw [show (w6.alloc (.cells #[.int .i64 kd, .int .i64 y, .int .i64 o1, .int .i64 o2, .int .i64 o3, .int .i64 o4, .int .i64 o5, .int .u32 wa, .int .u32 to, .slice A3 n c3, .slice B3 m d3] 29)).heap.size = w6.heap.size + 1 by simp [Nat.add_assoc]] at h0
           rw [← hw7]
           rw [heap_alloc_old _ _ (by simp <;> omega)]; exact h0
         have hv2 : w7.heap[w6.heap.size + 2]? = some (.cells #[.bool hdn, .bool false, .bool hhd, .int .i64 hgv, .int .i64 hft, .int .u64 0, .slice WA wn wc] 39) := by
           have h0 := heap_alloc_new ((w6.alloc (.cells #[.int .i64 kd, .int .i64 y, .int .i64 o1, .int .i64 o2, .int .i64 o3, .int .i64 o4, .int .i64 o5, .int .u32 wa, .int .u32 to, .slice A3 n c3, .slice B3 m d3] 29)).alloc (.cells #[.int .i64 hop, .int .i64 hstage, .int .i64 hphase, .int .i64 hold, .int .i64 hsince, .int .i64 hleft, .bool hawoke, .bool hstarve, .int .i64 hneed, .bool hfront] 31)) (.cells #[.bool hdn, .bool false, .bool hhd, .int .i64 hgv, .int .i64 hft, .int .u64 0, .slice WA wn wc] 39)
           rw [show ((w6.alloc (.cells #[.int .i64 kd, .int .i64 y, .int .i64 o1, .int .i64 o2, .int .i64 o3, .int .i64 o4, .int .i64 o5, .int .u32 wa, .int .u32 to, .slice A3 n c3, .slice B3 m d3] 29)).alloc (.cells #[.int .i64 hop, .int .i64 hstage, .int .i64 hphase, .int .i64 hold, .int .i64 hsince, .int .i64 hleft, .bool hawoke, .bool hstarve, .int .i64 hneed, .bool hfront] 31)).heap.size = w6.heap.size + 2 by simp [Nat.add_assoc]] at h0
           rw [← hw7]
           exact h0
         replace Vo := Lib.hid (blk_below Vo.out hb (blk_lt Vo.out))
         replace Vf := Lib.hid (blk_below Vf.out hb (blk_lt Vf.out))
         replace Vt := Lib.hid (blk_below Vt.out hb (blk_lt Vt.out))
         replace Vx := Lib.hid (blk_below Vx.out hb (blk_lt Vx.out))
         replace Vg := Lib.hid (blk_below Vg.out hb (blk_lt Vg.out))
         replace Va := Lib.hid (blk_below Va.out hb (blk_lt Va.out))
         replace ON2 := Lib.hid (own_below ON2.out hb)
         replace OL2 := Lib.hid (own_below OL2.out hb)
         replace ON3 := Lib.hid (own_below ON3.out hb)
         replace OL3 := Lib.hid (own_below OL3.out hb)
         replace HB := Lib.hid (And.intro (HB.out.1.trans (hb.mono HB.out.2)) (Nat.le_trans HB.out.2 hb.size))
         have Vy := Lib.hid hv0
         have neo_y := Nat.ne_of_lt lto
         have nef_y := Nat.ne_of_lt ltf
         have net_y := Nat.ne_of_lt ltt
         have nex_y := Nat.ne_of_lt ltx
         have neg_y := Nat.ne_of_lt ltg
         have nea_y := Nat.ne_of_lt lta
         have gey := gq
         have Vh := Lib.hid hv1
         have neo_h := Nat.ne_of_lt (Nat.lt_of_lt_of_le lto (Nat.le_add_right w6.heap.size 1))
         have nef_h := Nat.ne_of_lt (Nat.lt_of_lt_of_le ltf (Nat.le_add_right w6.heap.size 1))
         have net_h := Nat.ne_of_lt (Nat.lt_of_lt_of_le ltt (Nat.le_add_right w6.heap.size 1))
         have nex_h := Nat.ne_of_lt (Nat.lt_of_lt_of_le ltx (Nat.le_add_right w6.heap.size 1))
         have neg_h := Nat.ne_of_lt (Nat.lt_of_lt_of_le ltg (Nat.le_add_right w6.heap.size 1))
         have nea_h := Nat.ne_of_lt (Nat.lt_of_lt_of_le lta (Nat.le_add_right w6.heap.size 1))
         have ney_h : w6.heap.size ≠ w6.heap.size + 1 := by omega
         have geh : _ ≤ w6.heap.size + 1 := Nat.le_trans gq (Nat.le_add_right _ 1)
         have Vb := Lib.hid hv2
         have neo_b := Nat.ne_of_lt (Nat.lt_of_lt_of_le lto (Nat.le_add_right w6.heap.size 2))
         have nef_b := Nat.ne_of_lt (Nat.lt_of_lt_of_le ltf (Nat.le_add_right w6.heap.size 2))
         have net_b := Nat.ne_of_lt (Nat.lt_of_lt_of_le ltt (Nat.le_add_right w6.heap.size 2))
         have nex_b := Nat.ne_of_lt (Nat.lt_of_lt_of_le ltx (Nat.le_add_right w6.heap.size 2))
         have neg_b := Nat.ne_of_lt (Nat.lt_of_lt_of_le ltg (Nat.le_add_right w6.heap.size 2))
         have nea_b := Nat.ne_of_lt (Nat.lt_of_lt_of_le lta (Nat.le_add_right w6.heap.size 2))
         have ney_b : w6.heap.size ≠ w6.heap.size + 2 := by omega
         have neh_b : w6.heap.size + 1 ≠ w6.heap.size + 2 := by omega
         have geb : _ ≤ w6.heap.size + 2 := Nat.le_trans gq (Nat.le_add_right _ 2)
         generalize hsy : w6.heap.size = sy at *
         clear hb gq hv0 hv1 hv2 lto ltf ltt ltx ltg lta
         obtain ⟨co0, co1, co2, co3, co4, co5, co6, co7, co8, co9, co10⟩ := row11 Vo.out
         obtain ⟨cf0, cf1, cf2, cf3, cf4, cf5, cf6, cf7, cf8, cf9⟩ := row10 Vf.out
         obtain ⟨cy0, cy1, cy2, cy3, cy4, cy5, cy6, cy7, cy8, cy9, cy10⟩ := row11 Vy.out
         obtain ⟨ch0, ch1, ch2, ch3, ch4, ch5, ch6, ch7, ch8, ch9⟩ := row10 Vh.out
         obtain ⟨cb0, cb1, cb2, cb3, cb4, cb5, cb6⟩ := row7 Vb.out
         go_wp2
         refine wp_region_noPanic ?_
         refine wp_region_held_drew (S := (fun wv => Below w7.heap.size w7 wv)) (by kernel_rfl) ((Below.refl w7.heap.size w7).drew) (fun hS => ?_)
         refine wpAnyH_take (i := 0) (oi := ⟨some 85, .fieldAddr 31 (.tmp 4) 2, 0, "law.go:82", #[], none⟩) (v := ?_) rfl (by kernel_rfl) (by kernel_rfl) (by kernel_rfl) (fun _ _ _ h => h) (Or.inl ⟨by rfl, ?_⟩) hS ?_
         rotate_left
         · intro wv _; go_simp; try with_reducible rfl
         try simp only [Act.put, List.setIfInBounds_toArray, List.set_cons_zero, List.set_cons_succ]
         refine wpAnyH_take (i := 1) (oi := ⟨some 86, .load 3 (.tmp 85), 3, "law.go:82", #[⟨0, .data⟩], none⟩) (v := ?_) rfl (by kernel_rfl) (by kernel_rfl) (by kernel_rfl) (fun _ _ _ h => h) (Or.inl ⟨by rfl, ?_⟩) hS ?_
         rotate_left
         · intro wv hS; have hrun := (show wv.cell? ⟨w.heap.size + 1, 2, none⟩ = some (.int .i64 2) from (blk_cell (blk_below Vf.out hS (blk_lt Vf.out)) 2).trans rfl); go_simp; try with_reducible rfl
         try simp only [Act.put, List.setIfInBounds_toArray, List.set_cons_zero, List.set_cons_succ]
         refine wpAnyH_take (i := 2) (oi := ⟨some 87, .binOp .eql 3 (.tmp 86) (.const (Value.int IntKind.i64 0)) 3, 4, "law.go:82", #[⟨1, .data⟩], none⟩) (v := ?_) rfl (by kernel_rfl) (by kernel_rfl) (by kernel_rfl) (fun _ _ _ h => h) (Or.inl ⟨by rfl, ?_⟩) hS ?_
         rotate_left
         · intro wv _; go_simp; try with_reducible rfl
         try simp only [Act.put, List.setIfInBounds_toArray, List.set_cons_zero, List.set_cons_succ]
         refine wpAnyH_take (i := 3) (oi := ⟨some 88, .move (.tmp 87), 4, "law.go:82", #[⟨2, .data⟩], none⟩) (v := ?_) rfl (by kernel_rfl) (by kernel_rfl) (by kernel_rfl) (fun _ _ _ h => h) (Or.inl ⟨by rfl, ?_⟩) hS ?_
         rotate_left
         · intro wv _; go_simp; try with_reducible rfl
         try simp only [Act.put, List.setIfInBounds_toArray, List.set_cons_zero, List.set_cons_succ]
         refine wpAnyH_take (i := 4) (oi := ⟨some 89, .fieldAddr 39 (.tmp 12) 4, 0, "law.go:82", #[⟨3, .guard⟩], some (3, true)⟩) (v := undef) rfl (by kernel_rfl) (by kernel_rfl) (by kernel_rfl) (fun _ _ _ h => h) (Or.inr ⟨by rfl, rfl⟩) hS ?_
         try simp only [Act.put, List.setIfInBounds_toArray, List.set_cons_zero, List.set_cons_succ]
         refine wpAnyH_take (i := 5) (oi := ⟨some 90, .load 35 (.tmp 89), 35, "law.go:82", #[⟨4, .data⟩, ⟨3, .guard⟩], some (3, true)⟩) (v := undef) rfl (by kernel_rfl) (by kernel_rfl) (by kernel_rfl) (fun _ _ _ h => h) (Or.inr ⟨by rfl, rfl⟩) hS ?_
         try simp only [Act.put, List.setIfInBounds_toArray, List.set_cons_zero, List.set_cons_succ]
         refine wpAnyH_take (i := 6) (oi := ⟨some 91, .binOp .eql 35 (.tmp 90) (.const (Value.int IntKind.i64 1)) 35, 4, "law.go:82", #[⟨5, .data⟩, ⟨3, .guard⟩], some (3, true)⟩) (v := undef) rfl (by kernel_rfl) (by kernel_rfl) (by kernel_rfl) (fun _ _ _ h => h) (Or.inr ⟨by rfl, rfl⟩) hS ?_
         try simp only [Act.put, List.setIfInBounds_toArray, List.set_cons_zero, List.set_cons_succ]
         refine wpAnyH_take (i := 7) (oi := ⟨some 92, .load 29 (.tmp 3), 29, "law.go:82", #[⟨3, .guard⟩], some (3, true)⟩) (v := undef) rfl (by kernel_rfl) (by kernel_rfl) (by kernel_rfl) (fun _ _ _ h => h) (Or.inr ⟨by rfl, rfl⟩) hS ?_
         try simp only [Act.put, List.setIfInBounds_toArray, List.set_cons_zero, List.set_cons_succ]
         refine wpAnyH_take (i := 8) (oi := ⟨some 93, .call { callee := .value (.func 14), args := #[.tmp 92], argTypes := #[29] }, 4, "law.go:82", #[⟨7, .data⟩, ⟨3, .chain⟩, ⟨3, .guard⟩], some (3, true)⟩) (v := undef) rfl (by kernel_rfl) (by kernel_rfl) (by kernel_rfl) (fun _ _ _ h => h) (Or.inr ⟨by rfl, rfl⟩) hS ?_
         try simp only [Act.put, List.setIfInBounds_toArray, List.set_cons_zero, List.set_cons_succ]
         refine wpAnyH_take (i := 9) (oi := ⟨some 94, .binOp .eql 4 (.tmp 91) (.tmp 93) 4, 4, "law.go:82", #[⟨6, .data⟩, ⟨8, .data⟩, ⟨3, .guard⟩], some (3, true)⟩) (v := undef) rfl (by kernel_rfl) (by kernel_rfl) (by kernel_rfl) (fun _ _ _ h => h) (Or.inr ⟨by rfl, rfl⟩) hS ?_
         try simp only [Act.put, List.setIfInBounds_toArray, List.set_cons_zero, List.set_cons_succ]
         refine wpAnyH_take (i := 10) (oi := ⟨some 95, .pick (.tmp 88) (.tmp 94) (.const (Value.bool false)), 4, "law.go:82", #[⟨3, .data⟩, ⟨9, .data⟩], none⟩) (v := ?_) rfl (by kernel_rfl) (by kernel_rfl) (by kernel_rfl) (fun _ _ _ h => h) (Or.inl ⟨by rfl, ?_⟩) hS ?_
         rotate_left
         · intro wv _; go_simp; try with_reducible rfl
         try simp only [Act.put, List.setIfInBounds_toArray, List.set_cons_zero, List.set_cons_succ]
         refine wpAnyH_take (i := 11) (oi := ⟨some 96, .move (.tmp 95), 4, "law.go:82", #[⟨10, .data⟩, ⟨8, .chain⟩], none⟩) (v := ?_) rfl (by kernel_rfl) (by kernel_rfl) (by kernel_rfl) (fun _ _ _ h => h) (Or.inl ⟨by rfl, ?_⟩) hS ?_
         rotate_left
         · intro wv _; go_simp; try with_reducible rfl
         try simp only [Act.put, List.setIfInBounds_toArray, List.set_cons_zero, List.set_cons_succ]
         refine wpAnyH_take (i := 12) (oi := ⟨some 97, .fieldAddr 39 (.tmp 12) 4, 0, "law.go:82", #[⟨11, .guard⟩], some (11, false)⟩) (v := ?_) rfl (by kernel_rfl) (by kernel_rfl) (by kernel_rfl) (fun _ _ _ h => h) (Or.inl ⟨by rfl, ?_⟩) hS ?_
         rotate_left
         · intro wv _; go_simp; try with_reducible rfl
         try simp only [Act.put, List.setIfInBounds_toArray, List.set_cons_zero, List.set_cons_succ]
         refine wpAnyH_take (i := 13) (oi := ⟨some 98, .load 35 (.tmp 97), 35, "law.go:82", #[⟨12, .data⟩, ⟨11, .guard⟩], some (11, false)⟩) (v := ?_) rfl (by kernel_rfl) (by kernel_rfl) (by kernel_rfl) (fun _ _ _ h => h) (Or.inl ⟨by rfl, ?_⟩) hS ?_
         rotate_left
         · intro wv hS; have hrun := (show wv.cell? ⟨sy + 2, 4, none⟩ = some (.int .i64 hft) from (blk_cell (blk_below Vb.out hS (blk_lt Vb.out)) 4).trans rfl); go_simp; try with_reducible rfl
         try simp only [Act.put, List.setIfInBounds_toArray, List.set_cons_zero, List.set_cons_succ]
         refine wpAnyH_take (i := 14) (oi := ⟨some 99, .binOp .neq 35 (.tmp 98) (.const (Value.int IntKind.i64 0)) 35, 4, "law.go:82", #[⟨13, .data⟩, ⟨11, .guard⟩], some (11, false)⟩) (v := ?_) rfl (by kernel_rfl) (by kernel_rfl) (by kernel_rfl) (fun _ _ _ h => h) (Or.inl ⟨by rfl, ?_⟩) hS ?_
         rotate_left
         · intro wv _; go_simp; try with_reducible rfl
         try simp only [Act.put, List.setIfInBounds_toArray, List.set_cons_zero, List.set_cons_succ]
         refine wpAnyH_take (i := 15) (oi := ⟨some 100, .move (.tmp 99), 4, "law.go:82", #[⟨14, .data⟩, ⟨11, .chain⟩, ⟨11, .guard⟩], some (11, false)⟩) (v := ?_) rfl (by kernel_rfl) (by kernel_rfl) (by kernel_rfl) (fun _ _ _ h => h) (Or.inl ⟨by rfl, ?_⟩) hS ?_
         rotate_left
         · intro wv _; go_simp; try with_reducible rfl
         try simp only [Act.put, List.setIfInBounds_toArray, List.set_cons_zero, List.set_cons_succ]
         refine wpAnyH_take (i := 16) (oi := ⟨some 101, .load 29 (.tmp 10), 29, "law.go:82", #[⟨15, .guard⟩], some (15, true)⟩) (v := undef) rfl (by kernel_rfl) (by kernel_rfl) (by kernel_rfl) (fun _ _ _ h => h) (Or.inr ⟨by rfl, rfl⟩) hS ?_
         try simp only [Act.put, List.setIfInBounds_toArray, List.set_cons_zero, List.set_cons_succ]
         refine wpAnyH_take (i := 17) (oi := ⟨some 102, .load 29 (.tmp 3), 29, "law.go:82", #[⟨15, .guard⟩], some (15, true)⟩) (v := undef) rfl (by kernel_rfl) (by kernel_rfl) (by kernel_rfl) (fun _ _ _ h => h) (Or.inr ⟨by rfl, rfl⟩) hS ?_
         try simp only [Act.put, List.setIfInBounds_toArray, List.set_cons_zero, List.set_cons_succ]
         refine wpAnyH_take (i := 18) (oi := ⟨some 103, .call { callee := .value (.func 12), args := #[.tmp 101, .tmp 102], argTypes := #[29, 29] }, 4, "law.go:82", #[⟨16, .data⟩, ⟨17, .data⟩, ⟨15, .chain⟩, ⟨15, .guard⟩], some (15, true)⟩) (v := undef) rfl (by kernel_rfl) (by kernel_rfl) (by kernel_rfl) (fun _ _ _ h => h) (Or.inr ⟨by rfl, rfl⟩) hS ?_
         try simp only [Act.put, List.setIfInBounds_toArray, List.set_cons_zero, List.set_cons_succ]
         refine wpAnyH_take (i := 19) (oi := ⟨some 104, .unOp .not 4 (.tmp 103), 4, "law.go:82", #[⟨18, .data⟩, ⟨15, .guard⟩], some (15, true)⟩) (v := undef) rfl (by kernel_rfl) (by kernel_rfl) (by kernel_rfl) (fun _ _ _ h => h) (Or.inr ⟨by rfl, rfl⟩) hS ?_
         try simp only [Act.put, List.setIfInBounds_toArray, List.set_cons_zero, List.set_cons_succ]
         refine wpAnyH_take (i := 20) (oi := ⟨some 105, .move (.tmp 104), 4, "law.go:82", #[⟨19, .data⟩, ⟨18, .chain⟩, ⟨15, .guard⟩], some (15, true)⟩) (v := undef) rfl (by kernel_rfl) (by kernel_rfl) (by kernel_rfl) (fun _ _ _ h => h) (Or.inr ⟨by rfl, rfl⟩) hS ?_
         try simp only [Act.put, List.setIfInBounds_toArray, List.set_cons_zero, List.set_cons_succ]
         refine wpAnyH_take (i := 21) (oi := ⟨some 106, .load 31 (.tmp 11), 31, "law.go:82", #[⟨20, .guard⟩], some (20, false)⟩) (v := undef) rfl (by kernel_rfl) (by kernel_rfl) (by kernel_rfl) (fun _ _ _ h => h) (Or.inr ⟨by rfl, rfl⟩) hS ?_
         try simp only [Act.put, List.setIfInBounds_toArray, List.set_cons_zero, List.set_cons_succ]
         refine wpAnyH_take (i := 22) (oi := ⟨some 107, .build 31 #[], 31, "law.go:82", #[⟨20, .guard⟩], some (20, false)⟩) (v := undef) rfl (by kernel_rfl) (by kernel_rfl) (by kernel_rfl) (fun _ _ _ h => h) (Or.inr ⟨by rfl, rfl⟩) hS ?_
         try simp only [Act.put, List.setIfInBounds_toArray, List.set_cons_zero, List.set_cons_succ]
         refine wpAnyH_take (i := 23) (oi := ⟨some 108, .binOp .neq 31 (.tmp 106) (.tmp 107) 31, 4, "law.go:82", #[⟨21, .data⟩, ⟨22, .data⟩, ⟨20, .guard⟩], some (20, false)⟩) (v := undef) rfl (by kernel_rfl) (by kernel_rfl) (by kernel_rfl) (fun _ _ _ h => h) (Or.inr ⟨by rfl, rfl⟩) hS ?_
         try simp only [Act.put, List.setIfInBounds_toArray, List.set_cons_zero, List.set_cons_succ]
         refine wpAnyH_take (i := 24) (oi := ⟨some 109, .pick (.tmp 105) (.const (Value.bool true)) (.tmp 108), 4, "law.go:82", #[⟨20, .data⟩, ⟨23, .data⟩, ⟨15, .guard⟩], some (15, true)⟩) (v := undef) rfl (by kernel_rfl) (by kernel_rfl) (by kernel_rfl) (fun _ _ _ h => h) (Or.inr ⟨by rfl, rfl⟩) hS ?_
         try simp only [Act.put, List.setIfInBounds_toArray, List.set_cons_zero, List.set_cons_succ]
         refine wpAnyH_take (i := 25) (oi := ⟨some 110, .pick (.tmp 100) (.tmp 109) (.const (Value.bool false)), 4, "law.go:82", #[⟨15, .data⟩, ⟨24, .data⟩, ⟨11, .guard⟩], some (11, false)⟩) (v := ?_) rfl (by kernel_rfl) (by kernel_rfl) (by kernel_rfl) (fun _ _ _ h => h) (Or.inl ⟨by rfl, ?_⟩) hS ?_
         rotate_left
         · intro wv _; go_simp; try with_reducible rfl
         try simp only [Act.put, List.setIfInBounds_toArray, List.set_cons_zero, List.set_cons_succ]
         refine wpAnyH_take (i := 26) (oi := ⟨some 111, .pick (.tmp 96) (.const (Value.bool true)) (.tmp 110), 4, "law.go:82", #[⟨11, .data⟩, ⟨25, .data⟩], none⟩) (v := ?_) rfl (by kernel_rfl) (by kernel_rfl) (by kernel_rfl) (fun _ _ _ h => h) (Or.inl ⟨by rfl, ?_⟩) hS ?_
         rotate_left
         · intro wv _; go_simp; try with_reducible rfl
         try simp only [Act.put, List.setIfInBounds_toArray, List.set_cons_zero, List.set_cons_succ]
         refine wpAnyH_done (by kernel_rfl) ?_ _
         refine NoPanic.normal ?_
         clear co0 co1 co2 co3 co4 co5 co6 co7 co8 co9 co10 cf0 cf1 cf2 cf3 cf4 cf5 cf6 cf7 cf8 cf9 cy0 cy1 cy2 cy3 cy4 cy5 cy6 cy7 cy8 cy9 cy10 ch0 ch1 ch2 ch3 ch4 ch5 ch6 ch7 ch8 ch9 cb0 cb1 cb2 cb3 cb4 cb5 cb6
         have hb := hS
         replace Vo := Lib.hid (blk_below Vo.out hb (blk_lt Vo.out))
         replace Vf := Lib.hid (blk_below Vf.out hb (blk_lt Vf.out))
         replace Vt := Lib.hid (blk_below Vt.out hb (blk_lt Vt.out))
         replace Vx := Lib.hid (blk_below Vx.out hb (blk_lt Vx.out))
         replace Vg := Lib.hid (blk_below Vg.out hb (blk_lt Vg.out))
         replace Va := Lib.hid (blk_below Va.out hb (blk_lt Va.out))
         replace Vy := Lib.hid (blk_below Vy.out hb (blk_lt Vy.out))
         replace Vh := Lib.hid (blk_below Vh.out hb (blk_lt Vh.out))
         replace Vb := Lib.hid (blk_below Vb.out hb (blk_lt Vb.out))
         replace ON2 := Lib.hid (own_below ON2.out hb)
         replace OL2 := Lib.hid (own_below OL2.out hb)
         replace ON3 := Lib.hid (own_below ON3.out hb)
         replace OL3 := Lib.hid (own_below OL3.out hb)
         replace HB := Lib.hid (And.intro (HB.out.1.trans (hb.mono HB.out.2)) (Nat.le_trans HB.out.2 hb.size))
         clear hb hS
         clear Vf
         clear Vt
         clear Vg
         clear Va
         clear Vh
         clear Vb
         go_wp2
         refine wp_region_noPanic ?_
         refine wp_region_held_drew (S := (fun wv => Below w7.drew.heap.size w7.drew wv)) (by kernel_rfl) ((Below.refl w7.drew.heap.size w7.drew).drew) (fun hS => ?_)
         refine wpAnyH_take (i := 0) (oi := ⟨some 112, .load 29 (.tmp 7), 29, "law.go:86", #[], none⟩) (v := .agg (([.int .i64 kd, .int .i64 z, .int .i64 o1, .int .i64 o2, .int .i64 o3, .int .i64 o4, .int .i64 o5, .int .u32 wa, .int .u32 to, .slice A2 n c2, .slice B2 m d2] : List Value)).toArray) rfl (by kernel_rfl) (by kernel_rfl) (by kernel_rfl) (fun _ _ _ h => h) (yieldsIf_load_mid (by rfl) _ _ (by rfl) (sx) (0) (by rfl) (([.int .i64 kd, .int .i64 z, .int .i64 o1, .int .i64 o2, .int .i64 o3, .int .i64 o4, .int .i64 o5, .int .u32 wa, .int .u32 to, .slice A2 n c2, .slice B2 m d2] : List Value)) _ (fun wv hS => blk_rngl (blk_below Vx.out hS (blk_lt Vx.out))) Try.underlying29 (by rfl) (by kernel_rfl)) hS ?_
         try simp only [Act.put, List.setIfInBounds_toArray, List.set_cons_zero, List.set_cons_succ]
         refine wpAnyH_take (i := 1) (oi := ⟨some 113, .load 29 (.tmp 10), 29, "law.go:86", #[⟨4, .gcOnly .lateStores⟩], none⟩) (v := .agg (([.int .i64 kd, .int .i64 y, .int .i64 o1, .int .i64 o2, .int .i64 o3, .int .i64 o4, .int .i64 o5, .int .u32 wa, .int .u32 to, .slice A3 n c3, .slice B3 m d3] : List Value)).toArray) rfl (by kernel_rfl) (by kernel_rfl) (by kernel_rfl) (fun _ _ _ h => h) (yieldsIf_load_mid (by rfl) _ _ (by rfl) (sy) (0) (by rfl) (([.int .i64 kd, .int .i64 y, .int .i64 o1, .int .i64 o2, .int .i64 o3, .int .i64 o4, .int .i64 o5, .int .u32 wa, .int .u32 to, .slice A3 n c3, .slice B3 m d3] : List Value)) _ (fun wv hS => blk_rngl (blk_below Vy.out hS (blk_lt Vy.out))) Try.underlying29 (by rfl) (by kernel_rfl)) hS ?_
         try simp only [Act.put, List.setIfInBounds_toArray, List.set_cons_zero, List.set_cons_succ]
         refine inv_region (fun a0 fu listed a u => ∃ (xq0 xq1 : Bool) (p13 p14 : Value) (sp sq : Nat), listed = #[true, true, xq0, xq1, false, false] ∧ a = ⟨((a0.tmps.setIfInBounds 13 p13).setIfInBounds 14 p14), a0.defers⟩ ∧ (bif xq0 then 0 else 1) + (bif xq1 then 0 else 1) + 2 ≤ fu ∧ Below w7.drew.heap.size w7.drew u ∧ (xq0 = true → p13 = .pointer (some ⟨sp, 0, none⟩) ∧ w7.drew.heap.size ≤ sp ∧ u.heap[sp]? = some (.cells #[.int .i64 0, .int .i64 0, .int .i64 0, .int .i64 0, .int .i64 0, .int .i64 0, .int .i64 0, .int .u32 0, .int .u32 0, .slice none 0 0, .slice none 0 0] 29)) ∧ (xq1 = true → p14 = .pointer (some ⟨sq, 0, none⟩) ∧ w7.drew.heap.size ≤ sq ∧ u.heap[sq]? = some (.cells #[.int .i64 0, .int .i64 0, .int .i64 0, .int .i64 0, .int .i64 0, .int .i64 0, .int .i64 0, .int .u32 0, .int .u32 0, .slice none 0 0, .slice none 0 0] 29)) ∧ (xq0 = true → xq1 = true → sp ≠ sq)) ⟨false, false, undef, undef, 0, 0, rfl, (by first | (simp only [List.setIfInBounds_toArray, List.set_cons_zero, List.set_cons_succ]; done) | rfl), (by show _ + _ ≤ _; decide), hS, (fun h => nomatch h), (fun h => nomatch h), (fun h => nomatch h)⟩ ?_
         clear hS; rintro fu listed a u ⟨xq0, xq1, p13, p14, sp, sq, rfl, rfl, hn, hS, ksp, ksq, d0⟩ IH
         try simp only [List.setIfInBounds_toArray, List.set_cons_zero, List.set_cons_succ]
         by_cases hall : (xq0 && (xq1)) = true
         rotate_left
         · have hbad : ((xq0 && (xq1))) = false := inv_not hall
           obtain ⟨fu, rfl⟩ : ∃ m, fu = m + 1 := ⟨fu - 1, by omega⟩
           refine inv_step (bad := ((xq0 && (xq1)))) (fun i => ((i == 2 && !xq0) || ((i == 3 && !xq1)))) ((show ∀ xq0 xq1 : Bool, (((xq0 && (xq1))) || (!(Region.ready _ _ #[true, true, xq0, xq1, false, false]).isEmpty && (Region.ready _ _ #[true, true, xq0, xq1, false, false]).all (fun i => ((i == 2 && !xq0) || ((i == 3 && !xq1)))))) = true from by intro xq0 xq1; cases xq0 <;> cases xq1 <;> kernel_rfl) xq0 xq1) hbad (fun i hi => ?_)
           simp only [Bool.or_eq_true, Bool.and_eq_true, beq_iff_eq, Bool.not_eq_true'] at hi
           clear hall hbad
           rcases hi with ⟨rfl, rfl⟩ | ⟨rfl, rfl⟩
           · skip
             refine inv_arm (o := ⟨some 13, .alloc 29, 0, "law.go:86", #[], none⟩) rfl (fun K hK => ?_)
             go_simp
             have zs := hS.size
             have hb := (Below.refl u.heap.size u).alloc (Nat.le_refl _) (.cells #[.int .i64 0, .int .i64 0, .int .i64 0, .int .i64 0, .int .i64 0, .int .i64 0, .int .i64 0, .int .u32 0, .int .u32 0, .slice none 0 0, .slice none 0 0] 29)
             replace hS := hS.trans (hb.mono hS.size)
             refine Shut.out hK _ _ hS (fun _ => ?_)
             clear hK K
             try simp only [Act.put, List.setIfInBounds_toArray, List.set_cons_zero, List.set_cons_succ]
             exact IH _ _ _ _ (by omega) ⟨true, xq1, _, p14, u.heap.size, sq, rfl, (by (try simp only [List.setIfInBounds_toArray, List.set_cons_zero, List.set_cons_succ]); try rfl), (by simp only [cond_true, cond_false] at hn ⊢; omega), hS, (fun _ => ⟨rfl, zs, heap_alloc_new _ _⟩), (fun h => ⟨(ksq h).1, (ksq h).2.1, blk_below (ksq h).2.2 hb (blk_lt (ksq h).2.2)⟩), (fun _ h e => absurd (e ▸ blk_lt (ksq h).2.2) (Nat.lt_irrefl _))⟩
           · skip
             refine inv_arm (o := ⟨some 14, .alloc 29, 0, "law.go:86", #[], none⟩) rfl (fun K hK => ?_)
             go_simp
             have zs := hS.size
             have hb := (Below.refl u.heap.size u).alloc (Nat.le_refl _) (.cells #[.int .i64 0, .int .i64 0, .int .i64 0, .int .i64 0, .int .i64 0, .int .i64 0, .int .i64 0, .int .u32 0, .int .u32 0, .slice none 0 0, .slice none 0 0] 29)
             replace hS := hS.trans (hb.mono hS.size)
             refine Shut.out hK _ _ hS (fun _ => ?_)
             clear hK K
             try simp only [Act.put, List.setIfInBounds_toArray, List.set_cons_zero, List.set_cons_succ]
             exact IH _ _ _ _ (by omega) ⟨xq0, true, p13, _, sp, u.heap.size, rfl, (by (try simp only [List.setIfInBounds_toArray, List.set_cons_zero, List.set_cons_succ]); try rfl), (by simp only [cond_true, cond_false] at hn ⊢; omega), hS, (fun h => ⟨(ksp h).1, (ksp h).2.1, blk_below (ksp h).2.2 hb (blk_lt (ksp h).2.2)⟩), (fun _ => ⟨rfl, zs, heap_alloc_new _ _⟩), (fun h _ e => absurd (e ▸ blk_lt (ksp h).2.2) (Nat.lt_irrefl _))⟩
         simp only [Bool.and_eq_true] at hall
         obtain ⟨rfl, rfl⟩ := hall
         obtain ⟨rfl, gsp, Vsp⟩ := ksp rfl
         obtain ⟨rfl, gsq, Vsq⟩ := ksq rfl
         replace d0 := d0 rfl rfl
         obtain ⟨fu, rfl⟩ : ∃ m, fu = m + 2 := ⟨fu - 2, by simp only [cond_true] at hn; omega⟩
         clear IH hn 
         have neo_p := Nat.ne_of_lt (Nat.lt_of_lt_of_le (blk_lt Vo.out) gsp)
         have nex_p := Nat.ne_of_lt (Nat.lt_of_lt_of_le (blk_lt Vx.out) gsp)
         have ney_p := Nat.ne_of_lt (Nat.lt_of_lt_of_le (blk_lt Vy.out) gsp)
         have neo_q := Nat.ne_of_lt (Nat.lt_of_lt_of_le (blk_lt Vo.out) gsq)
         have nex_q := Nat.ne_of_lt (Nat.lt_of_lt_of_le (blk_lt Vx.out) gsq)
         have ney_q := Nat.ne_of_lt (Nat.lt_of_lt_of_le (blk_lt Vy.out) gsq)
         have nep_q : sp ≠ sq := d0
         have gep := Nat.le_trans HB.out.2 gsp
         have geq := Nat.le_trans HB.out.2 gsq
         replace Vo := Lib.hid (blk_below Vo.out hS (blk_lt Vo.out))
         replace Vx := Lib.hid (blk_below Vx.out hS (blk_lt Vx.out))
         replace Vy := Lib.hid (blk_below Vy.out hS (blk_lt Vy.out))
         replace ON2 := Lib.hid (own_below ON2.out hS)
         replace OL2 := Lib.hid (own_below OL2.out hS)
         replace ON3 := Lib.hid (own_below ON3.out hS)
         replace OL3 := Lib.hid (own_below OL3.out hS)
         replace HB := Lib.hid (And.intro (HB.out.1.trans (hS.mono HB.out.2)) (Nat.le_trans HB.out.2 hS.size))
         have Vp := Lib.hid Vsp
         clear Vsp
         have Vq := Lib.hid Vsq
         clear Vsq
         obtain ⟨w8, hw8⟩ : ∃ W, u.setCells (sp) 0 [.int .i64 kd, .int .i64 z, .int .i64 o1, .int .i64 o2, .int .i64 o3, .int .i64 o4, .int .i64 o5, .int .u32 wa, .int .u32 to, .slice A2 n c2, .slice B2 m d2] = W := ⟨_, rfl⟩
         have Vo2 := (hw8 ▸ heap_setCells_ne neo_p [.int .i64 kd, .int .i64 z, .int .i64 o1, .int .i64 o2, .int .i64 o3, .int .i64 o4, .int .i64 o5, .int .u32 wa, .int .u32 to, .slice A2 n c2, .slice B2 m d2] 0 u : w8.heap[w.heap.size]? = _).trans Vo.out
         have Vx2 := (hw8 ▸ heap_setCells_ne nex_p [.int .i64 kd, .int .i64 z, .int .i64 o1, .int .i64 o2, .int .i64 o3, .int .i64 o4, .int .i64 o5, .int .u32 wa, .int .u32 to, .slice A2 n c2, .slice B2 m d2] 0 u : w8.heap[sx]? = _).trans Vx.out
         have Vy2 := (hw8 ▸ heap_setCells_ne ney_p [.int .i64 kd, .int .i64 z, .int .i64 o1, .int .i64 o2, .int .i64 o3, .int .i64 o4, .int .i64 o5, .int .u32 wa, .int .u32 to, .slice A2 n c2, .slice B2 m d2] 0 u : w8.heap[sy]? = _).trans Vy.out
         have Vq2 := (hw8 ▸ heap_setCells_ne nep_q.symm [.int .i64 kd, .int .i64 z, .int .i64 o1, .int .i64 o2, .int .i64 o3, .int .i64 o4, .int .i64 o5, .int .u32 wa, .int .u32 to, .slice A2 n c2, .slice B2 m d2] 0 u : w8.heap[sq]? = _).trans Vq.out
         have Vp2 : w8.heap[sp]? = some (.cells #[.int .i64 kd, .int .i64 z, .int .i64 o1, .int .i64 o2, .int .i64 o3, .int .i64 o4, .int .i64 o5, .int .u32 wa, .int .u32 to, .slice A2 n c2, .slice B2 m d2] 29) := hw8 ▸ heap_setCells [.int .i64 kd, .int .i64 z, .int .i64 o1, .int .i64 o2, .int .i64 o3, .int .i64 o4, .int .i64 o5, .int .u32 wa, .int .u32 to, .slice A2 n c2, .slice B2 m d2] u [] [.int .i64 0, .int .i64 0, .int .i64 0, .int .i64 0, .int .i64 0, .int .i64 0, .int .i64 0, .int .u32 0, .int .u32 0, .slice none 0 0, .slice none 0 0] rfl Vp.out
         have hbb : Below _ _ w8 := hw8 ▸ below_setCells gep [.int .i64 kd, .int .i64 z, .int .i64 o1, .int .i64 o2, .int .i64 o3, .int .i64 o4, .int .i64 o5, .int .u32 wa, .int .u32 to, .slice A2 n c2, .slice B2 m d2] 0 u HB.out.1
         have hbs : w8.heap.size = u.heap.size := by rw [← hw8, size_setCells]
         have thp := Lib.hid (there_blk Vp.out (k := 11) rfl)
         replace ON2 := Lib.hid (hw8 ▸ own_setCells (by decide) [.int .i64 kd, .int .i64 z, .int .i64 o1, .int .i64 o2, .int .i64 o3, .int .i64 o4, .int .i64 o5, .int .u32 wa, .int .u32 to, .slice A2 n c2, .slice B2 m d2] 0 ON2.out Vp.out)
         replace OL2 := Lib.hid (hw8 ▸ own_setCells (by decide) [.int .i64 kd, .int .i64 z, .int .i64 o1, .int .i64 o2, .int .i64 o3, .int .i64 o4, .int .i64 o5, .int .u32 wa, .int .u32 to, .slice A2 n c2, .slice B2 m d2] 0 OL2.out Vp.out)
         replace ON3 := Lib.hid (hw8 ▸ own_setCells (by decide) [.int .i64 kd, .int .i64 z, .int .i64 o1, .int .i64 o2, .int .i64 o3, .int .i64 o4, .int .i64 o5, .int .u32 wa, .int .u32 to, .slice A2 n c2, .slice B2 m d2] 0 ON3.out Vp.out)
         replace OL3 := Lib.hid (hw8 ▸ own_setCells (by decide) [.int .i64 kd, .int .i64 z, .int .i64 o1, .int .i64 o2, .int .i64 o3, .int .i64 o4, .int .i64 o5, .int .u32 wa, .int .u32 to, .slice A2 n c2, .slice B2 m d2] 0 OL3.out Vp.out)
         replace Vo := Lib.hid Vo2
         clear Vo2
         replace Vx := Lib.hid Vx2
         clear Vx2
         replace Vy := Lib.hid Vy2
         clear Vy2
         replace Vp := Lib.hid Vp2
         clear Vp2
         replace Vq := Lib.hid Vq2
         clear Vq2
         replace HB := Lib.hid (And.intro hbb (show _ ≤ w8.heap.size by rw [hbs]; exact HB.out.2))
         clear hbb hbs
         refine wpAnyH_ready (rs := [4]) (by kernel_rfl) (by simp) (AllReadyH.cons (o := ⟨none, .store 29 (.tmp 13) (.tmp 112), 0, "law.go:86", #[⟨2, .data⟩, ⟨0, .data⟩, ⟨0, .phase⟩, ⟨1, .textOnly .lateStores⟩, ⟨2, .phase⟩, ⟨3, .phase⟩], none⟩) rfl (fun K hK => ?_) AllReadyH.nil)
         refine op_storeS (by rfl) rfl rfl rfl thp.out (by kernel_rfl) (by simp [Value.oneCell']) hw8 ?_
         replace hS := hw8 ▸ below_setCells gsp [.int .i64 kd, .int .i64 z, .int .i64 o1, .int .i64 o2, .int .i64 o3, .int .i64 o4, .int .i64 o5, .int .u32 wa, .int .u32 to, .slice A2 n c2, .slice B2 m d2] 0 _ hS
         obtain ⟨w9, hw9⟩ : ∃ W, w8.setCells (sq) 0 [.int .i64 kd, .int .i64 y, .int .i64 o1, .int .i64 o2, .int .i64 o3, .int .i64 o4, .int .i64 o5, .int .u32 wa, .int .u32 to, .slice A3 n c3, .slice B3 m d3] = W := ⟨_, rfl⟩
         have Vo2 := (hw9 ▸ heap_setCells_ne neo_q [.int .i64 kd, .int .i64 y, .int .i64 o1, .int .i64 o2, .int .i64 o3, .int .i64 o4, .int .i64 o5, .int .u32 wa, .int .u32 to, .slice A3 n c3, .slice B3 m d3] 0 w8 : w9.heap[w.heap.size]? = _).trans Vo.out
         have Vx2 := (hw9 ▸ heap_setCells_ne nex_q [.int .i64 kd, .int .i64 y, .int .i64 o1, .int .i64 o2, .int .i64 o3, .int .i64 o4, .int .i64 o5, .int .u32 wa, .int .u32 to, .slice A3 n c3, .slice B3 m d3] 0 w8 : w9.heap[sx]? = _).trans Vx.out
         have Vy2 := (hw9 ▸ heap_setCells_ne ney_q [.int .i64 kd, .int .i64 y, .int .i64 o1, .int .i64 o2, .int .i64 o3, .int .i64 o4, .int .i64 o5, .int .u32 wa, .int .u32 to, .slice A3 n c3, .slice B3 m d3] 0 w8 : w9.heap[sy]? = _).trans Vy.out
         have Vp2 := (hw9 ▸ heap_setCells_ne nep_q [.int .i64 kd, .int .i64 y, .int .i64 o1, .int .i64 o2, .int .i64 o3, .int .i64 o4, .int .i64 o5, .int .u32 wa, .int .u32 to, .slice A3 n c3, .slice B3 m d3] 0 w8 : w9.heap[sp]? = _).trans Vp.out
         have Vq2 : w9.heap[sq]? = some (.cells #[.int .i64 kd, .int .i64 y, .int .i64 o1, .int .i64 o2, .int .i64 o3, .int .i64 o4, .int .i64 o5, .int .u32 wa, .int .u32 to, .slice A3 n c3, .slice B3 m d3] 29) := hw9 ▸ heap_setCells [.int .i64 kd, .int .i64 y, .int .i64 o1, .int .i64 o2, .int .i64 o3, .int .i64 o4, .int .i64 o5, .int .u32 wa, .int .u32 to, .slice A3 n c3, .slice B3 m d3] w8 [] [.int .i64 0, .int .i64 0, .int .i64 0, .int .i64 0, .int .i64 0, .int .i64 0, .int .i64 0, .int .u32 0, .int .u32 0, .slice none 0 0, .slice none 0 0] rfl Vq.out
         have hbb : Below _ _ w9 := hw9 ▸ below_setCells geq [.int .i64 kd, .int .i64 y, .int .i64 o1, .int .i64 o2, .int .i64 o3, .int .i64 o4, .int .i64 o5, .int .u32 wa, .int .u32 to, .slice A3 n c3, .slice B3 m d3] 0 w8 HB.out.1
         have hbs : w9.heap.size = w8.heap.size := by rw [← hw9, size_setCells]
         have thq := Lib.hid (there_blk Vq.out (k := 11) rfl)
         replace ON2 := Lib.hid (hw9 ▸ own_setCells (by decide) [.int .i64 kd, .int .i64 y, .int .i64 o1, .int .i64 o2, .int .i64 o3, .int .i64 o4, .int .i64 o5, .int .u32 wa, .int .u32 to, .slice A3 n c3, .slice B3 m d3] 0 ON2.out Vq.out)
         replace OL2 := Lib.hid (hw9 ▸ own_setCells (by decide) [.int .i64 kd, .int .i64 y, .int .i64 o1, .int .i64 o2, .int .i64 o3, .int .i64 o4, .int .i64 o5, .int .u32 wa, .int .u32 to, .slice A3 n c3, .slice B3 m d3] 0 OL2.out Vq.out)
         replace ON3 := Lib.hid (hw9 ▸ own_setCells (by decide) [.int .i64 kd, .int .i64 y, .int .i64 o1, .int .i64 o2, .int .i64 o3, .int .i64 o4, .int .i64 o5, .int .u32 wa, .int .u32 to, .slice A3 n c3, .slice B3 m d3] 0 ON3.out Vq.out)
         replace OL3 := Lib.hid (hw9 ▸ own_setCells (by decide) [.int .i64 kd, .int .i64 y, .int .i64 o1, .int .i64 o2, .int .i64 o3, .int .i64 o4, .int .i64 o5, .int .u32 wa, .int .u32 to, .slice A3 n c3, .slice B3 m d3] 0 OL3.out Vq.out)
         replace Vo := Lib.hid Vo2
         clear Vo2
         replace Vx := Lib.hid Vx2
         clear Vx2
         replace Vy := Lib.hid Vy2
         clear Vy2
         replace Vp := Lib.hid Vp2
         clear Vp2
         replace Vq := Lib.hid Vq2
         clear Vq2
         replace HB := Lib.hid (And.intro hbb (show _ ≤ w9.heap.size by rw [hbs]; exact HB.out.2))
         clear hbb hbs
         refine Shut.out hK _ _ hS (fun _ => ?_)
         clear hK K
         try simp only [Act.put, List.setIfInBounds_toArray, List.set_cons_zero, List.set_cons_succ]
         refine wpAnyH_ready (rs := [5]) (by kernel_rfl) (by simp) (AllReadyH.cons (o := ⟨none, .store 29 (.tmp 14) (.tmp 113), 0, "law.go:86", #[⟨3, .data⟩, ⟨1, .data⟩, ⟨4, .chain⟩, ⟨0, .phase⟩, ⟨1, .phase⟩, ⟨2, .phase⟩, ⟨3, .phase⟩, ⟨4, .phase⟩], none⟩) rfl (fun K hK => ?_) AllReadyH.nil)
         refine op_storeS (by rfl) rfl rfl rfl thq.out (by kernel_rfl) (by simp [Value.oneCell']) hw9 ?_
         replace hS := hw9 ▸ below_setCells gsq [.int .i64 kd, .int .i64 y, .int .i64 o1, .int .i64 o2, .int .i64 o3, .int .i64 o4, .int .i64 o5, .int .u32 wa, .int .u32 to, .slice A3 n c3, .slice B3 m d3] 0 _ hS
         refine Shut.out hK _ _ hS (fun _ => ?_)
         clear hK K
         try simp only [Act.put, List.setIfInBounds_toArray, List.set_cons_zero, List.set_cons_succ]
         refine wpAnyH_done (by kernel_rfl) ?_ _
         refine NoPanic.normal ?_
         clear hS gsp gsq thp thq
         go_wp2
         obtain ⟨we, hwe⟩ : ∃ W, (w9).drew = W := ⟨_, rfl⟩
         have hb : Below (w9).heap.size (w9) we := hwe ▸ (Below.refl _ _).drew
         replace Vo := Lib.hid (blk_below Vo.out hb (blk_lt Vo.out))
         replace Vx := Lib.hid (blk_below Vx.out hb (blk_lt Vx.out))
         replace Vy := Lib.hid (blk_below Vy.out hb (blk_lt Vy.out))
         replace Vp := Lib.hid (blk_below Vp.out hb (blk_lt Vp.out))
         replace Vq := Lib.hid (blk_below Vq.out hb (blk_lt Vq.out))
         replace ON2 := Lib.hid (own_below ON2.out hb)
         replace OL2 := Lib.hid (own_below OL2.out hb)
         replace ON3 := Lib.hid (own_below ON3.out hb)
         replace OL3 := Lib.hid (own_below OL3.out hb)
         replace HB := Lib.hid (And.intro (HB.out.1.trans (hb.mono HB.out.2)) (Nat.le_trans HB.out.2 hb.size))
         clear hb
         have C0 : we.cell? ⟨w.heap.size, 1, none⟩ = some (.int .i64 o0) := (blk_cell Vo.out 1).trans rfl
         have kp : we.cell? ⟨sp, 1, none⟩ = some (.int .i64 z) := (blk_cell Vp.out 1).trans rfl
         have zp : we.frozen? ⟨sp, 1, none⟩ = false := blk_frozen Vp.out 1
         obtain ⟨w10, hw10⟩ : ∃ W, we.setCell ⟨sp, 1, none⟩ (.int .i64 o0) = W := ⟨_, rfl⟩
         have Vo2 : w10.heap[w.heap.size]? = some (.cells #[.int .i64 kd, .int .i64 o0, .int .i64 o1, .int .i64 o2, .int .i64 o3, .int .i64 o4, .int .i64 o5, .int .u32 wa, .int .u32 to, .slice A n c, .slice B m d] 29) := hw10 ▸ (Below.heap_setCell _ ⟨sp, 1, none⟩ (.int .i64 o0) (w.heap.size) neo_p).trans Vo.out
         have Vx2 : w10.heap[sx]? = some (.cells #[.int .i64 kd, .int .i64 z, .int .i64 o1, .int .i64 o2, .int .i64 o3, .int .i64 o4, .int .i64 o5, .int .u32 wa, .int .u32 to, .slice A2 n c2, .slice B2 m d2] 29) := hw10 ▸ (Below.heap_setCell _ ⟨sp, 1, none⟩ (.int .i64 o0) (sx) nex_p).trans Vx.out
         have Vy2 : w10.heap[sy]? = some (.cells #[.int .i64 kd, .int .i64 y, .int .i64 o1, .int .i64 o2, .int .i64 o3, .int .i64 o4, .int .i64 o5, .int .u32 wa, .int .u32 to, .slice A3 n c3, .slice B3 m d3] 29) := hw10 ▸ (Below.heap_setCell _ ⟨sp, 1, none⟩ (.int .i64 o0) (sy) ney_p).trans Vy.out
         have Vq2 : w10.heap[sq]? = some (.cells #[.int .i64 kd, .int .i64 y, .int .i64 o1, .int .i64 o2, .int .i64 o3, .int .i64 o4, .int .i64 o5, .int .u32 wa, .int .u32 to, .slice A3 n c3, .slice B3 m d3] 29) := hw10 ▸ (Below.heap_setCell _ ⟨sp, 1, none⟩ (.int .i64 o0) (sq) nep_q.symm).trans Vq.out
         replace ON2 := Lib.hid (hw10 ▸ own_set (o := 1) (u := .int .i64 o0) ON2.out Vp.out (by decide))
         replace OL2 := Lib.hid (hw10 ▸ own_set (o := 1) (u := .int .i64 o0) OL2.out Vp.out (by decide))
         replace ON3 := Lib.hid (hw10 ▸ own_set (o := 1) (u := .int .i64 o0) ON3.out Vp.out (by decide))
         replace OL3 := Lib.hid (hw10 ▸ own_set (o := 1) (u := .int .i64 o0) OL3.out Vp.out (by decide))
         have Vp2 : w10.heap[sp]? = some (.cells #[.int .i64 kd, .int .i64 o0, .int .i64 o1, .int .i64 o2, .int .i64 o3, .int .i64 o4, .int .i64 o5, .int .u32 wa, .int .u32 to, .slice A2 n c2, .slice B2 m d2] 29) := hw10 ▸ blk_set (j := 1) Vp.out (.int .i64 o0)
         have hbb : Below _ _ w10 := hw10 ▸ HB.out.1.setCell (p := ⟨sp, 1, none⟩) gep _
         have hbs : w10.heap.size = we.heap.size := by rw [← hw10]; simp [World.setCell]
         replace Vo := Lib.hid Vo2
         clear Vo2
         replace Vx := Lib.hid Vx2
         clear Vx2
         replace Vy := Lib.hid Vy2
         clear Vy2
         replace Vp := Lib.hid Vp2
         clear Vp2
         replace Vq := Lib.hid Vq2
         clear Vq2
         replace HB := Lib.hid (And.intro hbb (show _ ≤ w10.heap.size by rw [hbs]; exact HB.out.2))
         clear hbb hbs
         have C1 : w10.cell? ⟨w.heap.size, 1, none⟩ = some (.int .i64 o0) := (blk_cell Vo.out 1).trans rfl
         have kq : w10.cell? ⟨sq, 1, none⟩ = some (.int .i64 y) := (blk_cell Vq.out 1).trans rfl
         have zq : w10.frozen? ⟨sq, 1, none⟩ = false := blk_frozen Vq.out 1
         obtain ⟨w11, hw11⟩ : ∃ W, w10.setCell ⟨sq, 1, none⟩ (.int .i64 o0) = W := ⟨_, rfl⟩
         have Vo2 : w11.heap[w.heap.size]? = some (.cells #[.int .i64 kd, .int .i64 o0, .int .i64 o1, .int .i64 o2, .int .i64 o3, .int .i64 o4, .int .i64 o5, .int .u32 wa, .int .u32 to, .slice A n c, .slice B m d] 29) := hw11 ▸ (Below.heap_setCell _ ⟨sq, 1, none⟩ (.int .i64 o0) (w.heap.size) neo_q).trans Vo.out
         have Vx2 : w11.heap[sx]? = some (.cells #[.int .i64 kd, .int .i64 z, .int .i64 o1, .int .i64 o2, .int .i64 o3, .int .i64 o4, .int .i64 o5, .int .u32 wa, .int .u32 to, .slice A2 n c2, .slice B2 m d2] 29) := hw11 ▸ (Below.heap_setCell _ ⟨sq, 1, none⟩ (.int .i64 o0) (sx) nex_q).trans Vx.out
         have Vy2 : w11.heap[sy]? = some (.cells #[.int .i64 kd, .int .i64 y, .int .i64 o1, .int .i64 o2, .int .i64 o3, .int .i64 o4, .int .i64 o5, .int .u32 wa, .int .u32 to, .slice A3 n c3, .slice B3 m d3] 29) := hw11 ▸ (Below.heap_setCell _ ⟨sq, 1, none⟩ (.int .i64 o0) (sy) ney_q).trans Vy.out
         have Vp2 : w11.heap[sp]? = some (.cells #[.int .i64 kd, .int .i64 o0, .int .i64 o1, .int .i64 o2, .int .i64 o3, .int .i64 o4, .int .i64 o5, .int .u32 wa, .int .u32 to, .slice A2 n c2, .slice B2 m d2] 29) := hw11 ▸ (Below.heap_setCell _ ⟨sq, 1, none⟩ (.int .i64 o0) (sp) nep_q).trans Vp.out
         replace ON2 := Lib.hid (hw11 ▸ own_set (o := 1) (u := .int .i64 o0) ON2.out Vq.out (by decide))
         replace OL2 := Lib.hid (hw11 ▸ own_set (o := 1) (u := .int .i64 o0) OL2.out Vq.out (by decide))
         replace ON3 := Lib.hid (hw11 ▸ own_set (o := 1) (u := .int .i64 o0) ON3.out Vq.out (by decide))
         replace OL3 := Lib.hid (hw11 ▸ own_set (o := 1) (u := .int .i64 o0) OL3.out Vq.out (by decide))
         have Vq2 : w11.heap[sq]? = some (.cells #[.int .i64 kd, .int .i64 o0, .int .i64 o1, .int .i64 o2, .int .i64 o3, .int .i64 o4, .int .i64 o5, .int .u32 wa, .int .u32 to, .slice A3 n c3, .slice B3 m d3] 29) := hw11 ▸ blk_set (j := 1) Vq.out (.int .i64 o0)
         have hbb : Below _ _ w11 := hw11 ▸ HB.out.1.setCell (p := ⟨sq, 1, none⟩) geq _
         have hbs : w11.heap.size = w10.heap.size := by rw [← hw11]; simp [World.setCell]
         replace Vo := Lib.hid Vo2
         clear Vo2
         replace Vx := Lib.hid Vx2
         clear Vx2
         replace Vy := Lib.hid Vy2
         clear Vy2
         replace Vp := Lib.hid Vp2
         clear Vp2
         replace Vq := Lib.hid Vq2
         clear Vq2
         replace HB := Lib.hid (And.intro hbb (show _ ≤ w11.heap.size by rw [hbs]; exact HB.out.2))
         clear hbb hbs
         have C2 : w11.cell? ⟨w.heap.size, 1, none⟩ = some (.int .i64 o0) := (blk_cell Vo.out 1).trans rfl
         refine wp_region_noPanic ?_
         refine wp_region_held_drew (S := (fun wv => Hid (wv.cell? ⟨w.heap.size, 1, none⟩ = some (.int .i64 o0)))) (by kernel_rfl) ((by rw [hwe]; exact Lib.hid C0)) (fun hS => ?_)
         rw [hwe] at hS ⊢
         refine wpAnyH_take (i := 0) (oi := ⟨some 114, .fieldAddr 29 (.tmp 3) 1, 0, "law.go:87", #[], none⟩) (v := ?_) rfl (by kernel_rfl) (by kernel_rfl) (by kernel_rfl) (fun _ _ _ h => h) (Or.inl ⟨by rfl, ?_⟩) hS ?_
         rotate_left
         · intro wv _; go_simp; try with_reducible rfl
         try simp only [Act.put, List.setIfInBounds_toArray, List.set_cons_zero, List.set_cons_succ]
         refine wpAnyH_take (i := 1) (oi := ⟨some 115, .indexAddr 22 (.tmp 114) (.const (Value.int IntKind.i64 0)), 0, "law.go:87", #[⟨0, .data⟩], none⟩) (v := ?_) rfl (by kernel_rfl) (by kernel_rfl) (by kernel_rfl) (fun _ _ _ h => h) (Or.inl ⟨by rfl, ?_⟩) hS ?_
         rotate_left
         · intro wv _; go_simp; try with_reducible rfl
         try simp only [Act.put, List.setIfInBounds_toArray, List.set_cons_zero, List.set_cons_succ]
         refine wpAnyH_take (i := 2) (oi := ⟨some 116, .load 2 (.tmp 115), 2, "law.go:87", #[⟨1, .data⟩], none⟩) (v := ?_) rfl (by kernel_rfl) (by kernel_rfl) (by kernel_rfl) (fun _ _ _ h => h) (Or.inl ⟨by rfl, ?_⟩) hS ?_
         rotate_left
         · intro wv hS; have hrun := hS.out; go_simp; try with_reducible rfl
         try simp only [Act.put, List.setIfInBounds_toArray, List.set_cons_zero, List.set_cons_succ]
         refine wpAnyH_take (i := 3) (oi := ⟨some 117, .fieldAddr 29 (.tmp 3) 1, 0, "law.go:87", #[⟨8, .gcOnly .lateStores⟩], none⟩) (v := ?_) rfl (by kernel_rfl) (by kernel_rfl) (by kernel_rfl) (fun _ _ _ h => h) (Or.inl ⟨by rfl, ?_⟩) hS ?_
         rotate_left
         · intro wv _; go_simp; try with_reducible rfl
         try simp only [Act.put, List.setIfInBounds_toArray, List.set_cons_zero, List.set_cons_succ]
         refine wpAnyH_take (i := 4) (oi := ⟨some 118, .indexAddr 22 (.tmp 117) (.const (Value.int IntKind.i64 0)), 0, "law.go:87", #[⟨3, .data⟩, ⟨8, .gcOnly .lateStores⟩], none⟩) (v := ?_) rfl (by kernel_rfl) (by kernel_rfl) (by kernel_rfl) (fun _ _ _ h => h) (Or.inl ⟨by rfl, ?_⟩) hS ?_
         rotate_left
         · intro wv _; go_simp; try with_reducible rfl
         try simp only [Act.put, List.setIfInBounds_toArray, List.set_cons_zero, List.set_cons_succ]
         refine wpAnyH_take (i := 5) (oi := ⟨some 119, .load 2 (.tmp 118), 2, "law.go:87", #[⟨4, .data⟩, ⟨8, .gcOnly .lateStores⟩], none⟩) (v := ?_) rfl (by kernel_rfl) (by kernel_rfl) (by kernel_rfl) (fun _ _ _ h => h) (Or.inl ⟨by rfl, ?_⟩) hS ?_
         rotate_left
         · intro wv hS; have hrun := hS.out; go_simp; try with_reducible rfl
         try simp only [Act.put, List.setIfInBounds_toArray, List.set_cons_zero, List.set_cons_succ]
         refine wpAnyH_take (i := 6) (oi := ⟨some 120, .fieldAddr 29 (.tmp 13) 1, 0, "law.go:87", #[], none⟩) (v := ?_) rfl (by kernel_rfl) (by kernel_rfl) (by kernel_rfl) (fun _ _ _ h => h) (Or.inl ⟨by rfl, ?_⟩) hS ?_
         rotate_left
         · intro wv _; go_simp; try with_reducible rfl
         try simp only [Act.put, List.setIfInBounds_toArray, List.set_cons_zero, List.set_cons_succ]
         refine wpAnyH_take (i := 7) (oi := ⟨some 121, .indexAddr 22 (.tmp 120) (.const (Value.int IntKind.i64 0)), 0, "law.go:87", #[⟨6, .data⟩, ⟨0, .phase⟩, ⟨1, .phase⟩, ⟨2, .phase⟩, ⟨3, .textOnly .lateStores⟩, ⟨4, .textOnly .lateStores⟩, ⟨5, .textOnly .lateStores⟩], none⟩) (v := ?_) rfl (by kernel_rfl) (by kernel_rfl) (by kernel_rfl) (fun _ _ _ h => h) (Or.inl ⟨by rfl, ?_⟩) hS ?_
         rotate_left
         · intro wv _; go_simp; try with_reducible rfl
         try simp only [Act.put, List.setIfInBounds_toArray, List.set_cons_zero, List.set_cons_succ]
         refine wpAnyH_take (i := 9) (oi := ⟨some 122, .fieldAddr 29 (.tmp 14) 1, 0, "law.go:87", #[], none⟩) (v := ?_) rfl (by kernel_rfl) (by kernel_rfl) (by kernel_rfl) (fun _ _ _ h => h) (Or.inl ⟨by rfl, ?_⟩) hS ?_
         rotate_left
         · intro wv _; go_simp; try with_reducible rfl
         try simp only [Act.put, List.setIfInBounds_toArray, List.set_cons_zero, List.set_cons_succ]
         refine wpAnyH_ready (rs := [8]) (by kernel_rfl) (by simp) (AllReadyH.cons (o := ⟨none, .store 2 (.tmp 121) (.tmp 116), 0, "law.go:87", #[⟨7, .data⟩, ⟨2, .data⟩, ⟨0, .phase⟩, ⟨1, .phase⟩, ⟨2, .phase⟩, ⟨3, .textOnly .lateStores⟩, ⟨4, .textOnly .lateStores⟩, ⟨5, .textOnly .lateStores⟩], none⟩) rfl (fun K hK => ?_) AllReadyH.nil)
         go_simp
         try rw [hw10]
         replace hS := Lib.hid C1
         refine Shut.out hK _ _ hS (fun _ => ?_)
         clear hK K
         try simp only [Act.put, List.setIfInBounds_toArray, List.set_cons_zero, List.set_cons_succ]
         refine wpAnyH_take (i := 10) (oi := ⟨some 123, .indexAddr 22 (.tmp 122) (.const (Value.int IntKind.i64 0)), 0, "law.go:87", #[⟨9, .data⟩, ⟨0, .phase⟩, ⟨1, .phase⟩, ⟨2, .phase⟩, ⟨3, .phase⟩, ⟨4, .phase⟩, ⟨5, .phase⟩, ⟨6, .phase⟩, ⟨7, .phase⟩, ⟨8, .phase⟩], none⟩) (v := ?_) rfl (by kernel_rfl) (by kernel_rfl) (by kernel_rfl) (fun _ _ _ h => h) (Or.inl ⟨by rfl, ?_⟩) hS ?_
         rotate_left
         · intro wv _; go_simp; try with_reducible rfl
         try simp only [Act.put, List.setIfInBounds_toArray, List.set_cons_zero, List.set_cons_succ]
         refine wpAnyH_ready (rs := [11]) (by kernel_rfl) (by simp) (AllReadyH.cons (o := ⟨none, .store 2 (.tmp 123) (.tmp 119), 0, "law.go:87", #[⟨10, .data⟩, ⟨5, .data⟩, ⟨8, .chain⟩, ⟨0, .phase⟩, ⟨1, .phase⟩, ⟨2, .phase⟩, ⟨3, .phase⟩, ⟨4, .phase⟩, ⟨5, .phase⟩, ⟨6, .phase⟩, ⟨7, .phase⟩, ⟨8, .phase⟩], none⟩) rfl (fun K hK => ?_) AllReadyH.nil)
         go_simp
         try rw [hw11]
         replace hS := Lib.hid C2
         refine Shut.out hK _ _ hS (fun _ => ?_)
         clear hK K
         try simp only [Act.put, List.setIfInBounds_toArray, List.set_cons_zero, List.set_cons_succ]
         refine wpAnyH_done (by kernel_rfl) ?_ _
         refine NoPanic.normal ?_
         clear hS C0 C1 C2 kp kq zp zq
         obtain ⟨co0, co1, co2, co3, co4, co5, co6, co7, co8, co9, co10⟩ := row11 Vo.out
         obtain ⟨cp0, cp1, cp2, cp3, cp4, cp5, cp6, cp7, cp8, cp9, cp10⟩ := row11 Vp.out
         obtain ⟨cq0, cq1, cq2, cq3, cq4, cq5, cq6, cq7, cq8, cq9, cq10⟩ := row11 Vq.out
         go_wp2_with fail
         refine (OE.out _ _ _ _ _ (own_wts ON2.out) (own_cls OL2.out) (Es.below RX.out HB.out.1) (Es.below RY.out HB.out.1)).mono ?_
         rintro e w12 ⟨rfl, hb⟩
         clear co0 co1 co2 co3 co4 co5 co6 co7 co8 co9 co10 cp0 cp1 cp2 cp3 cp4 cp5 cp6 cp7 cp8 cp9 cp10 cq0 cq1 cq2 cq3 cq4 cq5 cq6 cq7 cq8 cq9 cq10
         replace Vo := Lib.hid (blk_below Vo.out hb (blk_lt Vo.out))
         replace Vx := Lib.hid (blk_below Vx.out hb (blk_lt Vx.out))
         replace Vy := Lib.hid (blk_below Vy.out hb (blk_lt Vy.out))
         replace Vp := Lib.hid (blk_below Vp.out hb (blk_lt Vp.out))
         replace Vq := Lib.hid (blk_below Vq.out hb (blk_lt Vq.out))
         replace ON2 := Lib.hid (own_below ON2.out hb)
         replace OL2 := Lib.hid (own_below OL2.out hb)
         replace ON3 := Lib.hid (own_below ON3.out hb)
         replace OL3 := Lib.hid (own_below OL3.out hb)
         replace HB := Lib.hid (And.intro (HB.out.1.trans (hb.mono HB.out.2)) (Nat.le_trans HB.out.2 hb.size))
         clear hb
         obtain ⟨co0, co1, co2, co3, co4, co5, co6, co7, co8, co9, co10⟩ := row11 Vo.out
         obtain ⟨cp0, cp1, cp2, cp3, cp4, cp5, cp6, cp7, cp8, cp9, cp10⟩ := row11 Vp.out
         obtain ⟨cq0, cq1, cq2, cq3, cq4, cq5, cq6, cq7, cq8, cq9, cq10⟩ := row11 Vq.out
         go_wp2_with fail
         refine (OE.out _ _ _ _ _ (own_wts ON3.out) (own_cls OL3.out) (Es.below RX.out HB.out.1) (Es.below RY.out HB.out.1)).mono ?_
         rintro e w13 ⟨rfl, hb⟩
         clear co0 co1 co2 co3 co4 co5 co6 co7 co8 co9 co10 cp0 cp1 cp2 cp3 cp4 cp5 cp6 cp7 cp8 cp9 cp10 cq0 cq1 cq2 cq3 cq4 cq5 cq6 cq7 cq8 cq9 cq10
         replace Vo := Lib.hid (blk_below Vo.out hb (blk_lt Vo.out))
         replace Vx := Lib.hid (blk_below Vx.out hb (blk_lt Vx.out))
         replace Vy := Lib.hid (blk_below Vy.out hb (blk_lt Vy.out))
         replace Vp := Lib.hid (blk_below Vp.out hb (blk_lt Vp.out))
         replace Vq := Lib.hid (blk_below Vq.out hb (blk_lt Vq.out))
         replace ON2 := Lib.hid (own_below ON2.out hb)
         replace OL2 := Lib.hid (own_below OL2.out hb)
         replace ON3 := Lib.hid (own_below ON3.out hb)
         replace OL3 := Lib.hid (own_below OL3.out hb)
         replace HB := Lib.hid (And.intro (HB.out.1.trans (hb.mono HB.out.2)) (Nat.le_trans HB.out.2 hb.size))
         clear hb
         go_wp2
         go_ret
         exact ⟨rfl, HB.out.1⟩
      · as_aux_lemma =>
         obtain ⟨_, hzx⟩ := hl1.out (Or.inr rfl) rfl
         rw [decide_eq_true hzx] at LX
         replace LX := Lib.hid LX
         have HGN := Lib.hid (hgz.out rfl)
         clear hl1 hgz hzx hlo
         have b1 : (hft == 1) = false := by rw [hbf]; rfl
         have b0 : (hft != 0) = false := by rw [hbf]; rfl
         clear hbf
         go_enter Try.func5, Try.ntmps5
         go_wp2_with fail
         refine (AL.out _).mono ?_
         rintro e w2 ⟨rfl, hb⟩
         replace Vo := Lib.hid (blk_below Vo.out hb (blk_lt Vo.out))
         replace Vf := Lib.hid (blk_below Vf.out hb (blk_lt Vf.out))
         replace Vt := Lib.hid (blk_below Vt.out hb (blk_lt Vt.out))
         replace HB := Lib.hid (And.intro (HB.out.1.trans (hb.mono HB.out.2)) (Nat.le_trans HB.out.2 hb.size))
         clear hb
         obtain ⟨co0, co1, co2, co3, co4, co5, co6, co7, co8, co9, co10⟩ := row11 Vo.out
         go_wp2_with fail
         refine (g2.out _).mono ?_
         rintro e w3 ⟨rfl, hb⟩
         clear co0 co1 co2 co3 co4 co5 co6 co7 co8 co9 co10
         replace Vo := Lib.hid (blk_below Vo.out hb (blk_lt Vo.out))
         replace Vf := Lib.hid (blk_below Vf.out hb (blk_lt Vf.out))
         replace Vt := Lib.hid (blk_below Vt.out hb (blk_lt Vt.out))
         replace HB := Lib.hid (And.intro (HB.out.1.trans (hb.mono HB.out.2)) (Nat.le_trans HB.out.2 hb.size))
         clear hb
         obtain ⟨co0, co1, co2, co3, co4, co5, co6, co7, co8, co9, co10⟩ := row11 Vo.out
         obtain ⟨cf0, cf1, cf2, cf3, cf4, cf5, cf6, cf7, cf8, cf9⟩ := row10 Vf.out
         obtain ⟨ct0, ct1⟩ := row2 Vt.out
         go_wp2_with fail
         refine (L1.out _ (Es.below RX.out HB.out.1) (Es.below RY.out HB.out.1)).mono ?_
         rintro e w4 ⟨A2, c2, B2, d2, rfl, hon, hol, hb⟩
         clear co0 co1 co2 co3 co4 co5 co6 co7 co8 co9 co10 cf0 cf1 cf2 cf3 cf4 cf5 cf6 cf7 cf8 cf9 ct0 ct1
         replace Vo := Lib.hid (blk_below Vo.out hb (blk_lt Vo.out))
         replace Vf := Lib.hid (blk_below Vf.out hb (blk_lt Vf.out))
         replace Vt := Lib.hid (blk_below Vt.out hb (blk_lt Vt.out))
         replace HB := Lib.hid (And.intro (HB.out.1.trans (hb.mono HB.out.2)) (Nat.le_trans HB.out.2 hb.size))
         clear hb
         have ON2 := Lib.hid hon; have OL2 := Lib.hid hol
         clear hon hol
         have lto := blk_lt Vo.out
         have ltf := blk_lt Vf.out
         have ltt := blk_lt Vt.out
         have gq := HB.out.2
         obtain ⟨w5, hw5⟩ : ∃ W, (((w4.alloc (.cells #[.int .i64 kd, .int .i64 z, .int .i64 o1, .int .i64 o2, .int .i64 o3, .int .i64 o4, .int .i64 o5, .int .u32 wa, .int .u32 to, .slice A2 n c2, .slice B2 m d2] 29)).alloc (.cells #[.int .i64 gop, .int .i64 gstage, .int .i64 gphase, .int .i64 gold, .int .i64 gsince, .int .i64 gleft, .bool gawoke, .bool gstarve, .int .i64 gneed, .bool gfront] 31)).alloc (.cells #[.bool true, .bool false, .bool ghd, .int .i64 ggv, .int .i64 gft, .int .u64 0, .slice WA wn wc] 39)) = W := ⟨_, rfl⟩
         have hb : Below w4.heap.size w4 w5 := hw5 ▸ ((((Below.refl _ _).alloc (Nat.le_refl _) _).alloc (by first | (simp; done) | (simp; omega)) _).alloc (by first | (simp; done) | (simp; omega)) _)
         have hv0 : w5.heap[w4.heap.size]? = some (.cells #[.int .i64 kd, .int .i64 z, .int .i64 o1, .int .i64 o2, .int .i64 o3, .int .i64 o4, .int .i64 o5, .int .u32 wa, .int .u32 to, .slice A2 n c2, .slice B2 m d2] 29) := by
           have h0 := heap_alloc_new w4 (.cells #[.int .i64 kd, .int .i64 z, .int .i64 o1, .int .i64 o2, .int .i64 o3, .int .i64 o4, .int .i64 o5, .int .u32 wa, .int .u32 to, .slice A2 n c2, .slice B2 m d2] 29)
           rw [show w4.heap.size = w4.heap.size by simp [Nat.add_assoc]] at h0
           rw [← hw5]
           rw [heap_alloc_old _ _ (by simp <;> omega), heap_alloc_old _ _ (by simp <;> omega)]; exact h0
         have hv1 : w5.heap[w4.heap.size + 1]? = some (.cells #[.int .i64 gop, .int .i64 gstage, .int .i64 gphase, .int .i64 gold, .int .i64 gsince, .int .i64 gleft, .bool gawoke, .bool gstarve, .int .i64 gneed, .bool gfront] 31) := by
           have h0 := heap_alloc_new (w4.alloc (.cells #[.int .i64 kd, .int .i64 z, .int .i64 o1, .int .i64 o2, .int .i64 o3, .int .i64 o4, .int .i64 o5, .int .u32 wa, .int .u32 to, .slice A2 n c2, .slice B2 m d2] 29)) (.cells #[.int .i64 gop, .int .i64 gstage, .int .i64 gphase, .int .i64 gold, .int .i64 gsince, .int .i64 gleft, .bool gawoke, .bool gstarve, .int .i64 gneed, .bool gfront] 31)
           rw [show (w4.alloc (.cells #[.int .i64 kd, .int .i64 z, .int .i64 o1, .int .i64 o2, .int .i64 o3, .int .i64 o4, .int .i64 o5, .int .u32 wa, .int .u32 to, .slice A2 n c2, .slice B2 m d2] 29)).heap.size = w4.heap.size + 1 by simp [Nat.add_assoc]] at h0
           rw [← hw5]
           rw [heap_alloc_old _ _ (by simp <;> omega)]; exact h0
         have hv2 : w5.heap[w4.heap.size + 2]? = some (.cells #[.bool true, .bool false, .bool ghd, .int .i64 ggv, .int .i64 gft, .int .u64 0, .slice WA wn wc] 39) := by
           have h0 := heap_alloc_new ((w4.alloc (.cells #[.int .i64 kd, .int .i64 z, .int .i64 o1, .int .i64 o2, .int .i64 o3, .int .i64 o4, .int .i64 o5, .int .u32 wa, .int .u32 to, .slice A2 n c2, .slice B2 m d2] 29)).alloc (.cells #[.int .i64 gop, .int .i64 gstage, .int .i64 gphase, .int .i64 gold, .int .i64 gsince, .int .i64 gleft, .bool gawoke, .bool gstarve, .int .i64 gneed, .bool gfront] 31)) (.cells #[.bool true, .bool false, .bool ghd, .int .i64 ggv, .int .i64 gft, .int .u64 0, .slice WA wn wc] 39)
           rw [show ((w4.alloc (.cells #[.int .i64 kd, .int .i64 z, .int .i64 o1, .int .i64 o2, .int .i64 o3, .int .i64 o4, .int .i64 o5, .int .u32 wa, .int .u32 to, .slice A2 n c2, .slice B2 m d2] 29)).alloc (.cells #[.int .i64 gop, .int .i64 gstage, .int .i64 gphase, .int .i64 gold, .int .i64 gsince, .int .i64 gleft, .bool gawoke, .bool gstarve, .int .i64 gneed, .bool gfront] 31)).heap.size = w4.heap.size + 2 by simp [Nat.add_assoc]] at h0
           rw [← hw5]
           exact h0
         replace Vo := Lib.hid (blk_below Vo.out hb (blk_lt Vo.out))
         replace Vf := Lib.hid (blk_below Vf.out hb (blk_lt Vf.out))
         replace Vt := Lib.hid (blk_below Vt.out hb (blk_lt Vt.out))
         replace ON2 := Lib.hid (own_below ON2.out hb)
         replace OL2 := Lib.hid (own_below OL2.out hb)
         replace HB := Lib.hid (And.intro (HB.out.1.trans (hb.mono HB.out.2)) (Nat.le_trans HB.out.2 hb.size))
         have Vx := Lib.hid hv0
         have neo_x := Nat.ne_of_lt lto
         have nef_x := Nat.ne_of_lt ltf
         have net_x := Nat.ne_of_lt ltt
         have gex := gq
         have Vg := Lib.hid hv1
         have neo_g := Nat.ne_of_lt (Nat.lt_of_lt_of_le lto (Nat.le_add_right w4.heap.size 1))
         have nef_g := Nat.ne_of_lt (Nat.lt_of_lt_of_le ltf (Nat.le_add_right w4.heap.size 1))
         have net_g := Nat.ne_of_lt (Nat.lt_of_lt_of_le ltt (Nat.le_add_right w4.heap.size 1))
         have nex_g : w4.heap.size ≠ w4.heap.size + 1 := by omega
         have geg : _ ≤ w4.heap.size + 1 := Nat.le_trans gq (Nat.le_add_right _ 1)
         have Va := Lib.hid hv2
         have neo_a := Nat.ne_of_lt (Nat.lt_of_lt_of_le lto (Nat.le_add_right w4.heap.size 2))
         have nef_a := Nat.ne_of_lt (Nat.lt_of_lt_of_le ltf (Nat.le_add_right w4.heap.size 2))
         have net_a := Nat.ne_of_lt (Nat.lt_of_lt_of_le ltt (Nat.le_add_right w4.heap.size 2))
         have nex_a : w4.heap.size ≠ w4.heap.size + 2 := by omega
         have neg_a : w4.heap.size + 1 ≠ w4.heap.size + 2 := by omega
         have gea : _ ≤ w4.heap.size + 2 := Nat.le_trans gq (Nat.le_add_right _ 2)
         generalize hsx : w4.heap.size = sx at *
         clear hb gq hv0 hv1 hv2 lto ltf ltt
         obtain ⟨co0, co1, co2, co3, co4, co5, co6, co7, co8, co9, co10⟩ := row11 Vo.out
         obtain ⟨cf0, cf1, cf2, cf3, cf4, cf5, cf6, cf7, cf8, cf9⟩ := row10 Vf.out
         obtain ⟨ca0, ca1, ca2, ca3, ca4, ca5, ca6⟩ := row7 Va.out
         obtain ⟨cx0, cx1, cx2, cx3, cx4, cx5, cx6, cx7, cx8, cx9, cx10⟩ := row11 Vx.out
         go_wp2_with fail
         refine (LK.out _).mono ?_
         rintro e w6 ⟨rfl, hb⟩
         clear co0 co1 co2 co3 co4 co5 co6 co7 co8 co9 co10 cf0 cf1 cf2 cf3 cf4 cf5 cf6 cf7 cf8 cf9 ca0 ca1 ca2 ca3 ca4 ca5 ca6 cx0 cx1 cx2 cx3 cx4 cx5 cx6 cx7 cx8 cx9 cx10
         replace Vo := Lib.hid (blk_below Vo.out hb (blk_lt Vo.out))
         replace Vf := Lib.hid (blk_below Vf.out hb (blk_lt Vf.out))
         replace Vt := Lib.hid (blk_below Vt.out hb (blk_lt Vt.out))
         replace Vx := Lib.hid (blk_below Vx.out hb (blk_lt Vx.out))
         replace Vg := Lib.hid (blk_below Vg.out hb (blk_lt Vg.out))
         replace Va := Lib.hid (blk_below Va.out hb (blk_lt Va.out))
         replace ON2 := Lib.hid (own_below ON2.out hb)
         replace OL2 := Lib.hid (own_below OL2.out hb)
         replace HB := Lib.hid (And.intro (HB.out.1.trans (hb.mono HB.out.2)) (Nat.le_trans HB.out.2 hb.size))
         clear hb
         obtain ⟨co0, co1, co2, co3, co4, co5, co6, co7, co8, co9, co10⟩ := row11 Vo.out
         obtain ⟨cf0, cf1, cf2, cf3, cf4, cf5, cf6, cf7, cf8, cf9⟩ := row10 Vf.out
         obtain ⟨ca0, ca1, ca2, ca3, ca4, ca5, ca6⟩ := row7 Va.out
         obtain ⟨cx0, cx1, cx2, cx3, cx4, cx5, cx6, cx7, cx8, cx9, cx10⟩ := row11 Vx.out
         obtain ⟨cg0, cg1, cg2, cg3, cg4, cg5, cg6, cg7, cg8, cg9⟩ := row10 Vg.out
         go_wp2_with fail
         refine (LX.out _ _ _ _ _).mono ?_
         rintro e w7 ⟨rfl, hb⟩
         clear co0 co1 co2 co3 co4 co5 co6 co7 co8 co9 co10 cf0 cf1 cf2 cf3 cf4 cf5 cf6 cf7 cf8 cf9 ca0 ca1 ca2 ca3 ca4 ca5 ca6 cx0 cx1 cx2 cx3 cx4 cx5 cx6 cx7 cx8 cx9 cx10 cg0 cg1 cg2 cg3 cg4 cg5 cg6 cg7 cg8 cg9
         replace Vo := Lib.hid (blk_below Vo.out hb (blk_lt Vo.out))
         replace Vf := Lib.hid (blk_below Vf.out hb (blk_lt Vf.out))
         replace Vt := Lib.hid (blk_below Vt.out hb (blk_lt Vt.out))
         replace Vx := Lib.hid (blk_below Vx.out hb (blk_lt Vx.out))
         replace Vg := Lib.hid (blk_below Vg.out hb (blk_lt Vg.out))
         replace Va := Lib.hid (blk_below Va.out hb (blk_lt Va.out))
         replace ON2 := Lib.hid (own_below ON2.out hb)
         replace OL2 := Lib.hid (own_below OL2.out hb)
         replace HB := Lib.hid (And.intro (HB.out.1.trans (hb.mono HB.out.2)) (Nat.le_trans HB.out.2 hb.size))
         clear hb
         have hgn := HGN.out
         obtain ⟨co0, co1, co2, co3, co4, co5, co6, co7, co8, co9, co10⟩ := row11 Vo.out
         obtain ⟨cf0, cf1, cf2, cf3, cf4, cf5, cf6, cf7, cf8, cf9⟩ := row10 Vf.out
         obtain ⟨ca0, ca1, ca2, ca3, ca4, ca5, ca6⟩ := row7 Va.out
         obtain ⟨cg0, cg1, cg2, cg3, cg4, cg5, cg6, cg7, cg8, cg9⟩ := row10 Vg.out
         go_wp2_with fail
         refine (L2.out _ (Es.below RX.out HB.out.1) (Es.below RY.out HB.out.1)).mono ?_
         rintro e w8 ⟨A3, c3, B3, d3, rfl, hon, hol, hb⟩
         clear co0 co1 co2 co3 co4 co5 co6 co7 co8 co9 co10 cf0 cf1 cf2 cf3 cf4 cf5 cf6 cf7 cf8 cf9 ca0 ca1 ca2 ca3 ca4 ca5 ca6 cg0 cg1 cg2 cg3 cg4 cg5 cg6 cg7 cg8 cg9
         replace Vo := Lib.hid (blk_below Vo.out hb (blk_lt Vo.out))
         replace Vf := Lib.hid (blk_below Vf.out hb (blk_lt Vf.out))
         replace Vt := Lib.hid (blk_below Vt.out hb (blk_lt Vt.out))
         replace Vx := Lib.hid (blk_below Vx.out hb (blk_lt Vx.out))
         replace Vg := Lib.hid (blk_below Vg.out hb (blk_lt Vg.out))
         replace Va := Lib.hid (blk_below Va.out hb (blk_lt Va.out))
         replace ON2 := Lib.hid (own_below ON2.out hb)
         replace OL2 := Lib.hid (own_below OL2.out hb)
         replace HB := Lib.hid (And.intro (HB.out.1.trans (hb.mono HB.out.2)) (Nat.le_trans HB.out.2 hb.size))
         clear hb
         have ON3 := Lib.hid hon; have OL3 := Lib.hid hol
         clear hon hol
         have lto := blk_lt Vo.out
         have ltf := blk_lt Vf.out
         have ltt := blk_lt Vt.out
         have ltx := blk_lt Vx.out
         have ltg := blk_lt Vg.out
         have lta := blk_lt Va.out
         have gq := HB.out.2
         obtain ⟨w9, hw9⟩ : ∃ W, (((w8.alloc (.cells #[.int .i64 kd, .int .i64 y, .int .i64 o1, .int .i64 o2, .int .i64 o3, .int .i64 o4, .int .i64 o5, .int .u32 wa, .int .u32 to, .slice A3 n c3, .slice B3 m d3] 29)).alloc (.cells #[.int .i64 hop, .int .i64 hstage, .int .i64 hphase, .int .i64 hold, .int .i64 hsince, .int .i64 hleft, .bool hawoke, .bool hstarve, .int .i64 hneed, .bool hfront] 31)).alloc (.cells #[.bool hdn, .bool false, .bool hhd, .int .i64 hgv, .int .i64 hft, .int .u64 0, .slice WA wn wc] 39)) = W := ⟨_, rfl⟩
         have hb : Below w8.heap.size w8 w9 := hw9 ▸ ((((Below.refl _ _).alloc (Nat.le_refl _) _).alloc (by first | (simp; done) | (simp; omega)) _).alloc (by first | (simp; done) | (simp; omega)) _)
         have hv0 : w9.heap[w8.heap.size]? = some (.cells #[.int .i64 kd, .int .i64 y, .int .i64 o1, .int .i64 o2, .int .i64 o3, .int .i64 o4, .int .i64 o5, .int .u32 wa, .int .u32 to, .slice A3 n c3, .slice B3 m d3] 29) := by
           have h0 := heap_alloc_new w8 (.cells #[.int .i64 kd, .int .i64 y, .int .i64 o1, .int .i64 o2, .int .i64 o3, .int .i64 o4, .int .i64 o5, .int .u32 wa, .int .u32 to, .slice A3 n c3, .slice B3 m d3] 29)
           rw [show w8.heap.size = w8.heap.size by simp [Nat.add_assoc]] at h0
           rw [← hw9]
           rw [heap_alloc_old _ _ (by simp <;> omega), heap_alloc_old _ _ (by simp <;> omega)]; exact h0
         have hv1 : w9.heap[w8.heap.size + 1]? = some (.cells #[.int .i64 hop, .int .i64 hstage, .int .i64 hphase, .int .i64 hold, .int .i64 hsince, .int .i64 hleft, .bool hawoke, .bool hstarve, .int .i64 hneed, .bool hfront] 31) := by
           have h0 := heap_alloc_new (w8.alloc (.cells #[.int .i64 kd, .int .i64 y, .int .i64 o1, .int .i64 o2, .int .i64 o3, .int .i64 o4, .int .i64 o5, .int .u32 wa, .int .u32 to, .slice A3 n c3, .slice B3 m d3] 29)) (.cells #[.int .i64 hop, .int .i64 hstage, .int .i64 hphase, .int .i64 hold, .int .i64 hsince, .int .i64 hleft, .bool hawoke, .bool hstarve, .int .i64 hneed, .bool hfront] 31)
           rw [show (w8.alloc (.cells #[.int .i64 kd, .int .i64 y, .int .i64 o1, .int .i64 o2, .int .i64 o3, .int .i64 o4, .int .i64 o5, .int .u32 wa, .int .u32 to, .slice A3 n c3, .slice B3 m d3] 29)).heap.size = w8.heap.size + 1 by simp [Nat.add_assoc]] at h0
           rw [← hw9]
           rw [heap_alloc_old _ _ (by simp <;> omega)]; exact h0
         have hv2 : w9.heap[w8.heap.size + 2]? = some (.cells #[.bool hdn, .bool false, .bool hhd, .int .i64 hgv, .int .i64 hft, .int .u64 0, .slice WA wn wc] 39) := by
           have h0 := heap_alloc_new ((w8.alloc (.cells #[.int .i64 kd, .int .i64 y, .int .i64 o1, .int .i64 o2, .int .i64 o3, .int .i64 o4, .int .i64 o5, .int .u32 wa, .int .u32 to, .slice A3 n c3, .slice B3 m d3] 29)).alloc (.cells #[.int .i64 hop, .int .i64 hstage, .int .i64 hphase, .int .i64 hold, .int .i64 hsince, .int .i64 hleft, .bool hawoke, .bool hstarve, .int .i64 hneed, .bool hfront] 31)) (.cells #[.bool hdn, .bool false, .bool hhd, .int .i64 hgv, .int .i64 hft, .int .u64 0, .slice WA wn wc] 39)
           rw [show ((w8.alloc (.cells #[.int .i64 kd, .int .i64 y, .int .i64 o1, .int .i64 o2, .int .i64 o3, .int .i64 o4, .int .i64 o5, .int .u32 wa, .int .u32 to, .slice A3 n c3, .slice B3 m d3] 29)).alloc (.cells #[.int .i64 hop, .int .i64 hstage, .int .i64 hphase, .int .i64 hold, .int .i64 hsince, .int .i64 hleft, .bool hawoke, .bool hstarve, .int .i64 hneed, .bool hfront] 31)).heap.size = w8.heap.size + 2 by simp [Nat.add_assoc]] at h0
           rw [← hw9]
           exact h0
         replace Vo := Lib.hid (blk_below Vo.out hb (blk_lt Vo.out))
         replace Vf := Lib.hid (blk_below Vf.out hb (blk_lt Vf.out))
         replace Vt := Lib.hid (blk_below Vt.out hb (blk_lt Vt.out))
         replace Vx := Lib.hid (blk_below Vx.out hb (blk_lt Vx.out))
         replace Vg := Lib.hid (blk_below Vg.out hb (blk_lt Vg.out))
         replace Va := Lib.hid (blk_below Va.out hb (blk_lt Va.out))
         replace ON2 := Lib.hid (own_below ON2.out hb)
         replace OL2 := Lib.hid (own_below OL2.out hb)
         replace ON3 := Lib.hid (own_below ON3.out hb)
         replace OL3 := Lib.hid (own_below OL3.out hb)
         replace HB := Lib.hid (And.intro (HB.out.1.trans (hb.mono HB.out.2)) (Nat.le_trans HB.out.2 hb.size))
         have Vy := Lib.hid hv0
         have neo_y := Nat.ne_of_lt lto
         have nef_y := Nat.ne_of_lt ltf
         have net_y := Nat.ne_of_lt ltt
         have nex_y := Nat.ne_of_lt ltx
         have neg_y := Nat.ne_of_lt ltg
         have nea_y := Nat.ne_of_lt lta
         have gey := gq
         have Vh := Lib.hid hv1
         have neo_h := Nat.ne_of_lt (Nat.lt_of_lt_of_le lto (Nat.le_add_right w8.heap.size 1))
         have nef_h := Nat.ne_of_lt (Nat.lt_of_lt_of_le ltf (Nat.le_add_right w8.heap.size 1))
         have net_h := Nat.ne_of_lt (Nat.lt_of_lt_of_le ltt (Nat.le_add_right w8.heap.size 1))
         have nex_h := Nat.ne_of_lt (Nat.lt_of_lt_of_le ltx (Nat.le_add_right w8.heap.size 1))
         have neg_h := Nat.ne_of_lt (Nat.lt_of_lt_of_le ltg (Nat.le_add_right w8.heap.size 1))
         have nea_h := Nat.ne_of_lt (Nat.lt_of_lt_of_le lta (Nat.le_add_right w8.heap.size 1))
         have ney_h : w8.heap.size ≠ w8.heap.size + 1 := by omega
         have geh : _ ≤ w8.heap.size + 1 := Nat.le_trans gq (Nat.le_add_right _ 1)
         have Vb := Lib.hid hv2
         have neo_b := Nat.ne_of_lt (Nat.lt_of_lt_of_le lto (Nat.le_add_right w8.heap.size 2))
         have nef_b := Nat.ne_of_lt (Nat.lt_of_lt_of_le ltf (Nat.le_add_right w8.heap.size 2))
         have net_b := Nat.ne_of_lt (Nat.lt_of_lt_of_le ltt (Nat.le_add_right w8.heap.size 2))
         have nex_b := Nat.ne_of_lt (Nat.lt_of_lt_of_le ltx (Nat.le_add_right w8.heap.size 2))
         have neg_b := Nat.ne_of_lt (Nat.lt_of_lt_of_le ltg (Nat.le_add_right w8.heap.size 2))
         have nea_b := Nat.ne_of_lt (Nat.lt_of_lt_of_le lta (Nat.le_add_right w8.heap.size 2))
         have ney_b : w8.heap.size ≠ w8.heap.size + 2 := by omega
         have neh_b : w8.heap.size + 1 ≠ w8.heap.size + 2 := by omega
         have geb : _ ≤ w8.heap.size + 2 := Nat.le_trans gq (Nat.le_add_right _ 2)
         generalize hsy : w8.heap.size = sy at *
         clear hb gq hv0 hv1 hv2 lto ltf ltt ltx ltg lta
         clear hgn
         obtain ⟨co0, co1, co2, co3, co4, co5, co6, co7, co8, co9, co10⟩ := row11 Vo.out
         obtain ⟨cf0, cf1, cf2, cf3, cf4, cf5, cf6, cf7, cf8, cf9⟩ := row10 Vf.out
         obtain ⟨cy0, cy1, cy2, cy3, cy4, cy5, cy6, cy7, cy8, cy9, cy10⟩ := row11 Vy.out
         obtain ⟨ch0, ch1, ch2, ch3, ch4, ch5, ch6, ch7, ch8, ch9⟩ := row10 Vh.out
         obtain ⟨cb0, cb1, cb2, cb3, cb4, cb5, cb6⟩ := row7 Vb.out
         go_wp2
         refine wp_region_noPanic ?_
         refine wp_region_held_drew (S := (fun wv => Below w9.heap.size w9 wv)) (by kernel_rfl) ((Below.refl w9.heap.size w9).drew) (fun hS => ?_)
         refine wpAnyH_take (i := 0) (oi := ⟨some 85, .fieldAddr 31 (.tmp 4) 2, 0, "law.go:82", #[], none⟩) (v := ?_) rfl (by kernel_rfl) (by kernel_rfl) (by kernel_rfl) (fun _ _ _ h => h) (Or.inl ⟨by rfl, ?_⟩) hS ?_
         rotate_left
         · intro wv _; go_simp; try with_reducible rfl
         try simp only [Act.put, List.setIfInBounds_toArray, List.set_cons_zero, List.set_cons_succ]
         refine wpAnyH_take (i := 1) (oi := ⟨some 86, .load 3 (.tmp 85), 3, "law.go:82", #[⟨0, .data⟩], none⟩) (v := ?_) rfl (by kernel_rfl) (by kernel_rfl) (by kernel_rfl) (fun _ _ _ h => h) (Or.inl ⟨by rfl, ?_⟩) hS ?_
         rotate_left
         · intro wv hS; have hrun := (show wv.cell? ⟨w.heap.size + 1, 2, none⟩ = some (.int .i64 2) from (blk_cell (blk_below Vf.out hS (blk_lt Vf.out)) 2).trans rfl); go_simp; try with_reducible rfl
         try simp only [Act.put, List.setIfInBounds_toArray, List.set_cons_zero, List.set_cons_succ]
         refine wpAnyH_take (i := 2) (oi := ⟨some 87, .binOp .eql 3 (.tmp 86) (.const (Value.int IntKind.i64 0)) 3, 4, "law.go:82", #[⟨1, .data⟩], none⟩) (v := ?_) rfl (by kernel_rfl) (by kernel_rfl) (by kernel_rfl) (fun _ _ _ h => h) (Or.inl ⟨by rfl, ?_⟩) hS ?_
         rotate_left
         · intro wv _; go_simp; try with_reducible rfl
         try simp only [Act.put, List.setIfInBounds_toArray, List.set_cons_zero, List.set_cons_succ]
         refine wpAnyH_take (i := 3) (oi := ⟨some 88, .move (.tmp 87), 4, "law.go:82", #[⟨2, .data⟩], none⟩) (v := ?_) rfl (by kernel_rfl) (by kernel_rfl) (by kernel_rfl) (fun _ _ _ h => h) (Or.inl ⟨by rfl, ?_⟩) hS ?_
         rotate_left
         · intro wv _; go_simp; try with_reducible rfl
         try simp only [Act.put, List.setIfInBounds_toArray, List.set_cons_zero, List.set_cons_succ]
         refine wpAnyH_take (i := 4) (oi := ⟨some 89, .fieldAddr 39 (.tmp 12) 4, 0, "law.go:82", #[⟨3, .guard⟩], some (3, true)⟩) (v := undef) rfl (by kernel_rfl) (by kernel_rfl) (by kernel_rfl) (fun _ _ _ h => h) (Or.inr ⟨by rfl, rfl⟩) hS ?_
         try simp only [Act.put, List.setIfInBounds_toArray, List.set_cons_zero, List.set_cons_succ]
         refine wpAnyH_take (i := 5) (oi := ⟨some 90, .load 35 (.tmp 89), 35, "law.go:82", #[⟨4, .data⟩, ⟨3, .guard⟩], some (3, true)⟩) (v := undef) rfl (by kernel_rfl) (by kernel_rfl) (by kernel_rfl) (fun _ _ _ h => h) (Or.inr ⟨by rfl, rfl⟩) hS ?_
         try simp only [Act.put, List.setIfInBounds_toArray, List.set_cons_zero, List.set_cons_succ]
         refine wpAnyH_take (i := 6) (oi := ⟨some 91, .binOp .eql 35 (.tmp 90) (.const (Value.int IntKind.i64 1)) 35, 4, "law.go:82", #[⟨5, .data⟩, ⟨3, .guard⟩], some (3, true)⟩) (v := undef) rfl (by kernel_rfl) (by kernel_rfl) (by kernel_rfl) (fun _ _ _ h => h) (Or.inr ⟨by rfl, rfl⟩) hS ?_
         try simp only [Act.put, List.setIfInBounds_toArray, List.set_cons_zero, List.set_cons_succ]
         refine wpAnyH_take (i := 7) (oi := ⟨some 92, .load 29 (.tmp 3), 29, "law.go:82", #[⟨3, .guard⟩], some (3, true)⟩) (v := undef) rfl (by kernel_rfl) (by kernel_rfl) (by kernel_rfl) (fun _ _ _ h => h) (Or.inr ⟨by rfl, rfl⟩) hS ?_
         try simp only [Act.put, List.setIfInBounds_toArray, List.set_cons_zero, List.set_cons_succ]
         refine wpAnyH_take (i := 8) (oi := ⟨some 93, .call { callee := .value (.func 14), args := #[.tmp 92], argTypes := #[29] }, 4, "law.go:82", #[⟨7, .data⟩, ⟨3, .chain⟩, ⟨3, .guard⟩], some (3, true)⟩) (v := undef) rfl (by kernel_rfl) (by kernel_rfl) (by kernel_rfl) (fun _ _ _ h => h) (Or.inr ⟨by rfl, rfl⟩) hS ?_
         try simp only [Act.put, List.setIfInBounds_toArray, List.set_cons_zero, List.set_cons_succ]
         refine wpAnyH_take (i := 9) (oi := ⟨some 94, .binOp .eql 4 (.tmp 91) (.tmp 93) 4, 4, "law.go:82", #[⟨6, .data⟩, ⟨8, .data⟩, ⟨3, .guard⟩], some (3, true)⟩) (v := undef) rfl (by kernel_rfl) (by kernel_rfl) (by kernel_rfl) (fun _ _ _ h => h) (Or.inr ⟨by rfl, rfl⟩) hS ?_
         try simp only [Act.put, List.setIfInBounds_toArray, List.set_cons_zero, List.set_cons_succ]
         refine wpAnyH_take (i := 10) (oi := ⟨some 95, .pick (.tmp 88) (.tmp 94) (.const (Value.bool false)), 4, "law.go:82", #[⟨3, .data⟩, ⟨9, .data⟩], none⟩) (v := ?_) rfl (by kernel_rfl) (by kernel_rfl) (by kernel_rfl) (fun _ _ _ h => h) (Or.inl ⟨by rfl, ?_⟩) hS ?_
         rotate_left
         · intro wv _; go_simp; try with_reducible rfl
         try simp only [Act.put, List.setIfInBounds_toArray, List.set_cons_zero, List.set_cons_succ]
         refine wpAnyH_take (i := 11) (oi := ⟨some 96, .move (.tmp 95), 4, "law.go:82", #[⟨10, .data⟩, ⟨8, .chain⟩], none⟩) (v := ?_) rfl (by kernel_rfl) (by kernel_rfl) (by kernel_rfl) (fun _ _ _ h => h) (Or.inl ⟨by rfl, ?_⟩) hS ?_
         rotate_left
         · intro wv _; go_simp; try with_reducible rfl
         try simp only [Act.put, List.setIfInBounds_toArray, List.set_cons_zero, List.set_cons_succ]
         refine wpAnyH_take (i := 12) (oi := ⟨some 97, .fieldAddr 39 (.tmp 12) 4, 0, "law.go:82", #[⟨11, .guard⟩], some (11, false)⟩) (v := ?_) rfl (by kernel_rfl) (by kernel_rfl) (by kernel_rfl) (fun _ _ _ h => h) (Or.inl ⟨by rfl, ?_⟩) hS ?_
         rotate_left
         · intro wv _; go_simp; try with_reducible rfl
         try simp only [Act.put, List.setIfInBounds_toArray, List.set_cons_zero, List.set_cons_succ]
         refine wpAnyH_take (i := 13) (oi := ⟨some 98, .load 35 (.tmp 97), 35, "law.go:82", #[⟨12, .data⟩, ⟨11, .guard⟩], some (11, false)⟩) (v := ?_) rfl (by kernel_rfl) (by kernel_rfl) (by kernel_rfl) (fun _ _ _ h => h) (Or.inl ⟨by rfl, ?_⟩) hS ?_
         rotate_left
         · intro wv hS; have hrun := (show wv.cell? ⟨sy + 2, 4, none⟩ = some (.int .i64 hft) from (blk_cell (blk_below Vb.out hS (blk_lt Vb.out)) 4).trans rfl); go_simp; try with_reducible rfl
         try simp only [Act.put, List.setIfInBounds_toArray, List.set_cons_zero, List.set_cons_succ]
         refine wpAnyH_take (i := 14) (oi := ⟨some 99, .binOp .neq 35 (.tmp 98) (.const (Value.int IntKind.i64 0)) 35, 4, "law.go:82", #[⟨13, .data⟩, ⟨11, .guard⟩], some (11, false)⟩) (v := ?_) rfl (by kernel_rfl) (by kernel_rfl) (by kernel_rfl) (fun _ _ _ h => h) (Or.inl ⟨by rfl, ?_⟩) hS ?_
         rotate_left
         · intro wv _; go_simp; try with_reducible rfl
         try simp only [Act.put, List.setIfInBounds_toArray, List.set_cons_zero, List.set_cons_succ]
         refine wpAnyH_take (i := 15) (oi := ⟨some 100, .move (.tmp 99), 4, "law.go:82", #[⟨14, .data⟩, ⟨11, .chain⟩, ⟨11, .guard⟩], some (11, false)⟩) (v := ?_) rfl (by kernel_rfl) (by kernel_rfl) (by kernel_rfl) (fun _ _ _ h => h) (Or.inl ⟨by rfl, ?_⟩) hS ?_
         rotate_left
         · intro wv _; go_simp; try with_reducible rfl
         try simp only [Act.put, List.setIfInBounds_toArray, List.set_cons_zero, List.set_cons_succ]
         refine wpAnyH_take (i := 16) (oi := ⟨some 101, .load 29 (.tmp 10), 29, "law.go:82", #[⟨15, .guard⟩], some (15, true)⟩) (v := undef) rfl (by kernel_rfl) (by kernel_rfl) (by kernel_rfl) (fun _ _ _ h => h) (Or.inr ⟨by rfl, rfl⟩) hS ?_
         try simp only [Act.put, List.setIfInBounds_toArray, List.set_cons_zero, List.set_cons_succ]
         refine wpAnyH_take (i := 17) (oi := ⟨some 102, .load 29 (.tmp 3), 29, "law.go:82", #[⟨15, .guard⟩], some (15, true)⟩) (v := undef) rfl (by kernel_rfl) (by kernel_rfl) (by kernel_rfl) (fun _ _ _ h => h) (Or.inr ⟨by rfl, rfl⟩) hS ?_
         try simp only [Act.put, List.setIfInBounds_toArray, List.set_cons_zero, List.set_cons_succ]
         refine wpAnyH_take (i := 18) (oi := ⟨some 103, .call { callee := .value (.func 12), args := #[.tmp 101, .tmp 102], argTypes := #[29, 29] }, 4, "law.go:82", #[⟨16, .data⟩, ⟨17, .data⟩, ⟨15, .chain⟩, ⟨15, .guard⟩], some (15, true)⟩) (v := undef) rfl (by kernel_rfl) (by kernel_rfl) (by kernel_rfl) (fun _ _ _ h => h) (Or.inr ⟨by rfl, rfl⟩) hS ?_
         try simp only [Act.put, List.setIfInBounds_toArray, List.set_cons_zero, List.set_cons_succ]
         refine wpAnyH_take (i := 19) (oi := ⟨some 104, .unOp .not 4 (.tmp 103), 4, "law.go:82", #[⟨18, .data⟩, ⟨15, .guard⟩], some (15, true)⟩) (v := undef) rfl (by kernel_rfl) (by kernel_rfl) (by kernel_rfl) (fun _ _ _ h => h) (Or.inr ⟨by rfl, rfl⟩) hS ?_
         try simp only [Act.put, List.setIfInBounds_toArray, List.set_cons_zero, List.set_cons_succ]
         refine wpAnyH_take (i := 20) (oi := ⟨some 105, .move (.tmp 104), 4, "law.go:82", #[⟨19, .data⟩, ⟨18, .chain⟩, ⟨15, .guard⟩], some (15, true)⟩) (v := undef) rfl (by kernel_rfl) (by kernel_rfl) (by kernel_rfl) (fun _ _ _ h => h) (Or.inr ⟨by rfl, rfl⟩) hS ?_
         try simp only [Act.put, List.setIfInBounds_toArray, List.set_cons_zero, List.set_cons_succ]
         refine wpAnyH_take (i := 21) (oi := ⟨some 106, .load 31 (.tmp 11), 31, "law.go:82", #[⟨20, .guard⟩], some (20, false)⟩) (v := undef) rfl (by kernel_rfl) (by kernel_rfl) (by kernel_rfl) (fun _ _ _ h => h) (Or.inr ⟨by rfl, rfl⟩) hS ?_
         try simp only [Act.put, List.setIfInBounds_toArray, List.set_cons_zero, List.set_cons_succ]
         refine wpAnyH_take (i := 22) (oi := ⟨some 107, .build 31 #[], 31, "law.go:82", #[⟨20, .guard⟩], some (20, false)⟩) (v := undef) rfl (by kernel_rfl) (by kernel_rfl) (by kernel_rfl) (fun _ _ _ h => h) (Or.inr ⟨by rfl, rfl⟩) hS ?_
         try simp only [Act.put, List.setIfInBounds_toArray, List.set_cons_zero, List.set_cons_succ]
         refine wpAnyH_take (i := 23) (oi := ⟨some 108, .binOp .neq 31 (.tmp 106) (.tmp 107) 31, 4, "law.go:82", #[⟨21, .data⟩, ⟨22, .data⟩, ⟨20, .guard⟩], some (20, false)⟩) (v := undef) rfl (by kernel_rfl) (by kernel_rfl) (by kernel_rfl) (fun _ _ _ h => h) (Or.inr ⟨by rfl, rfl⟩) hS ?_
         try simp only [Act.put, List.setIfInBounds_toArray, List.set_cons_zero, List.set_cons_succ]
         refine wpAnyH_take (i := 24) (oi := ⟨some 109, .pick (.tmp 105) (.const (Value.bool true)) (.tmp 108), 4, "law.go:82", #[⟨20, .data⟩, ⟨23, .data⟩, ⟨15, .guard⟩], some (15, true)⟩) (v := undef) rfl (by kernel_rfl) (by kernel_rfl) (by kernel_rfl) (fun _ _ _ h => h) (Or.inr ⟨by rfl, rfl⟩) hS ?_
         try simp only [Act.put, List.setIfInBounds_toArray, List.set_cons_zero, List.set_cons_succ]
         refine wpAnyH_take (i := 25) (oi := ⟨some 110, .pick (.tmp 100) (.tmp 109) (.const (Value.bool false)), 4, "law.go:82", #[⟨15, .data⟩, ⟨24, .data⟩, ⟨11, .guard⟩], some (11, false)⟩) (v := ?_) rfl (by kernel_rfl) (by kernel_rfl) (by kernel_rfl) (fun _ _ _ h => h) (Or.inl ⟨by rfl, ?_⟩) hS ?_
         rotate_left
         · intro wv _; go_simp; try with_reducible rfl
         try simp only [Act.put, List.setIfInBounds_toArray, List.set_cons_zero, List.set_cons_succ]
         refine wpAnyH_take (i := 26) (oi := ⟨some 111, .pick (.tmp 96) (.const (Value.bool true)) (.tmp 110), 4, "law.go:82", #[⟨11, .data⟩, ⟨25, .data⟩], none⟩) (v := ?_) rfl (by kernel_rfl) (by kernel_rfl) (by kernel_rfl) (fun _ _ _ h => h) (Or.inl ⟨by rfl, ?_⟩) hS ?_
         rotate_left
         · intro wv _; go_simp; try with_reducible rfl
         try simp only [Act.put, List.setIfInBounds_toArray, List.set_cons_zero, List.set_cons_succ]
         refine wpAnyH_done (by kernel_rfl) ?_ _
         refine NoPanic.normal ?_
         clear co0 co1 co2 co3 co4 co5 co6 co7 co8 co9 co10 cf0 cf1 cf2 cf3 cf4 cf5 cf6 cf7 cf8 cf9 cy0 cy1 cy2 cy3 cy4 cy5 cy6 cy7 cy8 cy9 cy10 ch0 ch1 ch2 ch3 ch4 ch5 ch6 ch7 ch8 ch9 cb0 cb1 cb2 cb3 cb4 cb5 cb6
         have hb := hS
         replace Vo := Lib.hid (blk_below Vo.out hb (blk_lt Vo.out))
         replace Vf := Lib.hid (blk_below Vf.out hb (blk_lt Vf.out))
         replace Vt := Lib.hid (blk_below Vt.out hb (blk_lt Vt.out))
         replace Vx := Lib.hid (blk_below Vx.out hb (blk_lt Vx.out))
         replace Vg := Lib.hid (blk_below Vg.out hb (blk_lt Vg.out))
         replace Va := Lib.hid (blk_below Va.out hb (blk_lt Va.out))
         replace Vy := Lib.hid (blk_below Vy.out hb (blk_lt Vy.out))
         replace Vh := Lib.hid (blk_below Vh.out hb (blk_lt Vh.out))
         replace Vb := Lib.hid (blk_below Vb.out hb (blk_lt Vb.out))
         replace ON2 := Lib.hid (own_below ON2.out hb)
         replace OL2 := Lib.hid (own_below OL2.out hb)
         replace ON3 := Lib.hid (own_below ON3.out hb)
         replace OL3 := Lib.hid (own_below OL3.out hb)
         replace HB := Lib.hid (And.intro (HB.out.1.trans (hb.mono HB.out.2)) (Nat.le_trans HB.out.2 hb.size))
         clear hb hS
         clear Vf
         clear Vt
         clear Vg
         clear Va
         clear Vh
         clear Vb
         go_wp2
         refine wp_region_noPanic ?_
         refine wp_region_held_drew (S := (fun wv => Below w9.drew.heap.size w9.drew wv)) (by kernel_rfl) ((Below.refl w9.drew.heap.size w9.drew).drew) (fun hS => ?_)
         refine wpAnyH_take (i := 0) (oi := ⟨some 112, .load 29 (.tmp 7), 29, "law.go:86", #[], none⟩) (v := .agg (([.int .i64 kd, .int .i64 z, .int .i64 o1, .int .i64 o2, .int .i64 o3, .int .i64 o4, .int .i64 o5, .int .u32 wa, .int .u32 to, .slice A2 n c2, .slice B2 m d2] : List Value)).toArray) rfl (by kernel_rfl) (by kernel_rfl) (by kernel_rfl) (fun _ _ _ h => h) (yieldsIf_load_mid (by rfl) _ _ (by rfl) (sx) (0) (by rfl) (([.int .i64 kd, .int .i64 z, .int .i64 o1, .int .i64 o2, .int .i64 o3, .int .i64 o4, .int .i64 o5, .int .u32 wa, .int .u32 to, .slice A2 n c2, .slice B2 m d2] : List Value)) _ (fun wv hS => blk_rngl (blk_below Vx.out hS (blk_lt Vx.out))) Try.underlying29 (by rfl) (by kernel_rfl)) hS ?_
         try simp only [Act.put, List.setIfInBounds_toArray, List.set_cons_zero, List.set_cons_succ]
         refine wpAnyH_take (i := 1) (oi := ⟨some 113, .load 29 (.tmp 10), 29, "law.go:86", #[⟨4, .gcOnly .lateStores⟩], none⟩) (v := .agg (([.int .i64 kd, .int .i64 y, .int .i64 o1, .int .i64 o2, .int .i64 o3, .int .i64 o4, .int .i64 o5, .int .u32 wa, .int .u32 to, .slice A3 n c3, .slice B3 m d3] : List Value)).toArray) rfl (by kernel_rfl) (by kernel_rfl) (by kernel_rfl) (fun _ _ _ h => h) (yieldsIf_load_mid (by rfl) _ _ (by rfl) (sy) (0) (by rfl) (([.int .i64 kd, .int .i64 y, .int .i64 o1, .int .i64 o2, .int .i64 o3, .int .i64 o4, .int .i64 o5, .int .u32 wa, .int .u32 to, .slice A3 n c3, .slice B3 m d3] : List Value)) _ (fun wv hS => blk_rngl (blk_below Vy.out hS (blk_lt Vy.out))) Try.underlying29 (by rfl) (by kernel_rfl)) hS ?_
         try simp only [Act.put, List.setIfInBounds_toArray, List.set_cons_zero, List.set_cons_succ]
         refine inv_region (fun a0 fu listed a u => ∃ (xq0 xq1 : Bool) (p13 p14 : Value) (sp sq : Nat), listed = #[true, true, xq0, xq1, false, false] ∧ a = ⟨((a0.tmps.setIfInBounds 13 p13).setIfInBounds 14 p14), a0.defers⟩ ∧ (bif xq0 then 0 else 1) + (bif xq1 then 0 else 1) + 2 ≤ fu ∧ Below w9.drew.heap.size w9.drew u ∧ (xq0 = true → p13 = .pointer (some ⟨sp, 0, none⟩) ∧ w9.drew.heap.size ≤ sp ∧ u.heap[sp]? = some (.cells #[.int .i64 0, .int .i64 0, .int .i64 0, .int .i64 0, .int .i64 0, .int .i64 0, .int .i64 0, .int .u32 0, .int .u32 0, .slice none 0 0, .slice none 0 0] 29)) ∧ (xq1 = true → p14 = .pointer (some ⟨sq, 0, none⟩) ∧ w9.drew.heap.size ≤ sq ∧ u.heap[sq]? = some (.cells #[.int .i64 0, .int .i64 0, .int .i64 0, .int .i64 0, .int .i64 0, .int .i64 0, .int .i64 0, .int .u32 0, .int .u32 0, .slice none 0 0, .slice none 0 0] 29)) ∧ (xq0 = true → xq1 = true → sp ≠ sq)) ⟨false, false, undef, undef, 0, 0, rfl, (by first | (simp only [List.setIfInBounds_toArray, List.set_cons_zero, List.set_cons_succ]; done) | rfl), (by show _ + _ ≤ _; decide), hS, (fun h => nomatch h), (fun h => nomatch h), (fun h => nomatch h)⟩ ?_
         clear hS; rintro fu listed a u ⟨xq0, xq1, p13, p14, sp, sq, rfl, rfl, hn, hS, ksp, ksq, d0⟩ IH
         try simp only [List.setIfInBounds_toArray, List.set_cons_zero, List.set_cons_succ]
         by_cases hall : (xq0 && (xq1)) = true
         rotate_left
         · have hbad : ((xq0 && (xq1))) = false := inv_not hall
           obtain ⟨fu, rfl⟩ : ∃ m, fu = m + 1 := ⟨fu - 1, by omega⟩
           refine inv_step (bad := ((xq0 && (xq1)))) (fun i => ((i == 2 && !xq0) || ((i == 3 && !xq1)))) ((show ∀ xq0 xq1 : Bool, (((xq0 && (xq1))) || (!(Region.ready _ _ #[true, true, xq0, xq1, false, false]).isEmpty && (Region.ready _ _ #[true, true, xq0, xq1, false, false]).all (fun i => ((i == 2 && !xq0) || ((i == 3 && !xq1)))))) = true from by intro xq0 xq1; cases xq0 <;> cases xq1 <;> kernel_rfl) xq0 xq1) hbad (fun i hi => ?_)
           simp only [Bool.or_eq_true, Bool.and_eq_true, beq_iff_eq, Bool.not_eq_true'] at hi
           clear hall hbad
           rcases hi with ⟨rfl, rfl⟩ | ⟨rfl, rfl⟩
           · skip
             refine inv_arm (o := ⟨some 13, .alloc 29, 0, "law.go:86", #[], none⟩) rfl (fun K hK => ?_)
             go_simp
             have zs := hS.size
             have hb := (Below.refl u.heap.size u).alloc (Nat.le_refl _) (.cells #[.int .i64 0, .int .i64 0, .int .i64 0, .int .i64 0, .int .i64 0, .int .i64 0, .int .i64 0, .int .u32 0, .int .u32 0, .slice none 0 0, .slice none 0 0] 29)
             replace hS := hS.trans (hb.mono hS.size)
             refine Shut.out hK _ _ hS (fun _ => ?_)
             clear hK K
             try simp only [Act.put, List.setIfInBounds_toArray, List.set_cons_zero, List.set_cons_succ]
             exact IH _ _ _ _ (by omega) ⟨true, xq1, _, p14, u.heap.size, sq, rfl, (by (try simp only [List.setIfInBounds_toArray, List.set_cons_zero, List.set_cons_succ]); try rfl), (by simp only [cond_true, cond_false] at hn ⊢; omega), hS, (fun _ => ⟨rfl, zs, heap_alloc_new _ _⟩), (fun h => ⟨(ksq h).1, (ksq h).2.1, blk_below (ksq h).2.2 hb (blk_lt (ksq h).2.2)⟩), (fun _ h e => absurd (e ▸ blk_lt (ksq h).2.2) (Nat.lt_irrefl _))⟩
           · skip
             refine inv_arm (o := ⟨some 14, .alloc 29, 0, "law.go:86", #[], none⟩) rfl (fun K hK => ?_)
             go_simp
             have zs := hS.size
             have hb := (Below.refl u.heap.size u).alloc (Nat.le_refl _) (.cells #[.int .i64 0, .int .i64 0, .int .i64 0, .int .i64 0, .int .i64 0, .int .i64 0, .int .i64 0, .int .u32 0, .int .u32 0, .slice none 0 0, .slice none 0 0] 29)
             replace hS := hS.trans (hb.mono hS.size)
             refine Shut.out hK _ _ hS (fun _ => ?_)
             clear hK K
             try simp only [Act.put, List.setIfInBounds_toArray, List.set_cons_zero, List.set_cons_succ]
             exact IH _ _ _ _ (by omega) ⟨xq0, true, p13, _, sp, u.heap.size, rfl, (by (try simp only [List.setIfInBounds_toArray, List.set_cons_zero, List.set_cons_succ]); try rfl), (by simp only [cond_true, cond_false] at hn ⊢; omega), hS, (fun h => ⟨(ksp h).1, (ksp h).2.1, blk_below (ksp h).2.2 hb (blk_lt (ksp h).2.2)⟩), (fun _ => ⟨rfl, zs, heap_alloc_new _ _⟩), (fun h _ e => absurd (e ▸ blk_lt (ksp h).2.2) (Nat.lt_irrefl _))⟩
         simp only [Bool.and_eq_true] at hall
         obtain ⟨rfl, rfl⟩ := hall
         obtain ⟨rfl, gsp, Vsp⟩ := ksp rfl
         obtain ⟨rfl, gsq, Vsq⟩ := ksq rfl
         replace d0 := d0 rfl rfl
         obtain ⟨fu, rfl⟩ : ∃ m, fu = m + 2 := ⟨fu - 2, by simp only [cond_true] at hn; omega⟩
         clear IH hn 
         have neo_p := Nat.ne_of_lt (Nat.lt_of_lt_of_le (blk_lt Vo.out) gsp)
         have nex_p := Nat.ne_of_lt (Nat.lt_of_lt_of_le (blk_lt Vx.out) gsp)
         have ney_p := Nat.ne_of_lt (Nat.lt_of_lt_of_le (blk_lt Vy.out) gsp)
         have neo_q := Nat.ne_of_lt (Nat.lt_of_lt_of_le (blk_lt Vo.out) gsq)
         have nex_q := Nat.ne_of_lt (Nat.lt_of_lt_of_le (blk_lt Vx.out) gsq)
         have ney_q := Nat.ne_of_lt (Nat.lt_of_lt_of_le (blk_lt Vy.out) gsq)
         have nep_q : sp ≠ sq := d0
         have gep := Nat.le_trans HB.out.2 gsp
         have geq := Nat.le_trans HB.out.2 gsq
         replace Vo := Lib.hid (blk_below Vo.out hS (blk_lt Vo.out))
         replace Vx := Lib.hid (blk_below Vx.out hS (blk_lt Vx.out))
         replace Vy := Lib.hid (blk_below Vy.out hS (blk_lt Vy.out))
         replace ON2 := Lib.hid (own_below ON2.out hS)
         replace OL2 := Lib.hid (own_below OL2.out hS)
         replace ON3 := Lib.hid (own_below ON3.out hS)
         replace OL3 := Lib.hid (own_below OL3.out hS)
         replace HB := Lib.hid (And.intro (HB.out.1.trans (hS.mono HB.out.2)) (Nat.le_trans HB.out.2 hS.size))
         have Vp := Lib.hid Vsp
         clear Vsp
         have Vq := Lib.hid Vsq
         clear Vsq
         obtain ⟨w10, hw10⟩ : ∃ W, u.setCells (sp) 0 [.int .i64 kd, .int .i64 z, .int .i64 o1, .int .i64 o2, .int .i64 o3, .int .i64 o4, .int .i64 o5, .int .u32 wa, .int .u32 to, .slice A2 n c2, .slice B2 m d2] = W := ⟨_, rfl⟩
         have Vo2 := (hw10 ▸ heap_setCells_ne neo_p [.int .i64 kd, .int .i64 z, .int .i64 o1, .int .i64 o2, .int .i64 o3, .int .i64 o4, .int .i64 o5, .int .u32 wa, .int .u32 to, .slice A2 n c2, .slice B2 m d2] 0 u : w10.heap[w.heap.size]? = _).trans Vo.out
         have Vx2 := (hw10 ▸ heap_setCells_ne nex_p [.int .i64 kd, .int .i64 z, .int .i64 o1, .int .i64 o2, .int .i64 o3, .int .i64 o4, .int .i64 o5, .int .u32 wa, .int .u32 to, .slice A2 n c2, .slice B2 m d2] 0 u : w10.heap[sx]? = _).trans Vx.out
         have Vy2 := (hw10 ▸ heap_setCells_ne ney_p [.int .i64 kd, .int .i64 z, .int .i64 o1, .int .i64 o2, .int .i64 o3, .int .i64 o4, .int .i64 o5, .int .u32 wa, .int .u32 to, .slice A2 n c2, .slice B2 m d2] 0 u : w10.heap[sy]? = _).trans Vy.out
         have Vq2 := (hw10 ▸ heap_setCells_ne nep_q.symm [.int .i64 kd, .int .i64 z, .int .i64 o1, .int .i64 o2, .int .i64 o3, .int .i64 o4, .int .i64 o5, .int .u32 wa, .int .u32 to, .slice A2 n c2, .slice B2 m d2] 0 u : w10.heap[sq]? = _).trans Vq.out
         have Vp2 : w10.heap[sp]? = some (.cells #[.int .i64 kd, .int .i64 z, .int .i64 o1, .int .i64 o2, .int .i64 o3, .int .i64 o4, .int .i64 o5, .int .u32 wa, .int .u32 to, .slice A2 n c2, .slice B2 m d2] 29) := hw10 ▸ heap_setCells [.int .i64 kd, .int .i64 z, .int .i64 o1, .int .i64 o2, .int .i64 o3, .int .i64 o4, .int .i64 o5, .int .u32 wa, .int .u32 to, .slice A2 n c2, .slice B2 m d2] u [] [.int .i64 0, .int .i64 0, .int .i64 0, .int .i64 0, .int .i64 0, .int .i64 0, .int .i64 0, .int .u32 0, .int .u32 0, .slice none 0 0, .slice none 0 0] rfl Vp.out
         have hbb : Below _ _ w10 := hw10 ▸ below_setCells gep [.int .i64 kd, .int .i64 z, .int .i64 o1, .int .i64 o2, .int .i64 o3, .int .i64 o4, .int .i64 o5, .int .u32 wa, .int .u32 to, .slice A2 n c2, .slice B2 m d2] 0 u HB.out.1
         have hbs : w10.heap.size = u.heap.size := by rw [← hw10, size_setCells]
         have thp := Lib.hid (there_blk Vp.out (k := 11) rfl)
         replace ON2 := Lib.hid (hw10 ▸ own_setCells (by decide) [.int .i64 kd, .int .i64 z, .int .i64 o1, .int .i64 o2, .int .i64 o3, .int .i64 o4, .int .i64 o5, .int .u32 wa, .int .u32 to, .slice A2 n c2, .slice B2 m d2] 0 ON2.out Vp.out)
         replace OL2 := Lib.hid (hw10 ▸ own_setCells (by decide) [.int .i64 kd, .int .i64 z, .int .i64 o1, .int .i64 o2, .int .i64 o3, .int .i64 o4, .int .i64 o5, .int .u32 wa, .int .u32 to, .slice A2 n c2, .slice B2 m d2] 0 OL2.out Vp.out)
         replace ON3 := Lib.hid (hw10 ▸ own_setCells (by decide) [.int .i64 kd, .int .i64 z, .int .i64 o1, .int .i64 o2, .int .i64 o3, .int .i64 o4, .int .i64 o5, .int .u32 wa, .int .u32 to, .slice A2 n c2, .slice B2 m d2] 0 ON3.out Vp.out)
         replace OL3 := Lib.hid (hw10 ▸ own_setCells (by decide) [.int .i64 kd, .int .i64 z, .int .i64 o1, .int .i64 o2, .int .i64 o3, .int .i64 o4, .int .i64 o5, .int .u32 wa, .int .u32 to, .slice A2 n c2, .slice B2 m d2] 0 OL3.out Vp.out)
         replace Vo := Lib.hid Vo2
         clear Vo2
         replace Vx := Lib.hid Vx2
         clear Vx2
         replace Vy := Lib.hid Vy2
         clear Vy2
         replace Vp := Lib.hid Vp2
         clear Vp2
         replace Vq := Lib.hid Vq2
         clear Vq2
         replace HB := Lib.hid (And.intro hbb (show _ ≤ w10.heap.size by rw [hbs]; exact HB.out.2))
         clear hbb hbs
         refine wpAnyH_ready (rs := [4]) (by kernel_rfl) (by simp) (AllReadyH.cons (o := ⟨none, .store 29 (.tmp 13) (.tmp 112), 0, "law.go:86", #[⟨2, .data⟩, ⟨0, .data⟩, ⟨0, .phase⟩, ⟨1, .textOnly .lateStores⟩, ⟨2, .phase⟩, ⟨3, .phase⟩], none⟩) rfl (fun K hK => ?_) AllReadyH.nil)
         refine op_storeS (by rfl) rfl rfl rfl thp.out (by kernel_rfl) (by simp [Value.oneCell']) hw10 ?_
         replace hS := hw10 ▸ below_setCells gsp [.int .i64 kd, .int .i64 z, .int .i64 o1, .int .i64 o2, .int .i64 o3, .int .i64 o4, .int .i64 o5, .int .u32 wa, .int .u32 to, .slice A2 n c2, .slice B2 m d2] 0 _ hS
         obtain ⟨w11, hw11⟩ : ∃ W, w10.setCells (sq) 0 [.int .i64 kd, .int .i64 y, .int .i64 o1, .int .i64 o2, .int .i64 o3, .int .i64 o4, .int .i64 o5, .int .u32 wa, .int .u32 to, .slice A3 n c3, .slice B3 m d3] = W := ⟨_, rfl⟩
         have Vo2 := (hw11 ▸ heap_setCells_ne neo_q [.int .i64 kd, .int .i64 y, .int .i64 o1, .int .i64 o2, .int .i64 o3, .int .i64 o4, .int .i64 o5, .int .u32 wa, .int .u32 to, .slice A3 n c3, .slice B3 m d3] 0 w10 : w11.heap[w.heap.size]? = _).trans Vo.out
         have Vx2 := (hw11 ▸ heap_setCells_ne nex_q [.int .i64 kd, .int .i64 y, .int .i64 o1, .int .i64 o2, .int .i64 o3, .int .i64 o4, .int .i64 o5, .int .u32 wa, .int .u32 to, .slice A3 n c3, .slice B3 m d3] 0 w10 : w11.heap[sx]? = _).trans Vx.out
         have Vy2 := (hw11 ▸ heap_setCells_ne ney_q [.int .i64 kd, .int .i64 y, .int .i64 o1, .int .i64 o2, .int .i64 o3, .int .i64 o4, .int .i64 o5, .int .u32 wa, .int .u32 to, .slice A3 n c3, .slice B3 m d3] 0 w10 : w11.heap[sy]? = _).trans Vy.out
         have Vp2 := (hw11 ▸ heap_setCells_ne nep_q [.int .i64 kd, .int .i64 y, .int .i64 o1, .int .i64 o2, .int .i64 o3, .int .i64 o4, .int .i64 o5, .int .u32 wa, .int .u32 to, .slice A3 n c3, .slice B3 m d3] 0 w10 : w11.heap[sp]? = _).trans Vp.out
         have Vq2 : w11.heap[sq]? = some (.cells #[.int .i64 kd, .int .i64 y, .int .i64 o1, .int .i64 o2, .int .i64 o3, .int .i64 o4, .int .i64 o5, .int .u32 wa, .int .u32 to, .slice A3 n c3, .slice B3 m d3] 29) := hw11 ▸ heap_setCells [.int .i64 kd, .int .i64 y, .int .i64 o1, .int .i64 o2, .int .i64 o3, .int .i64 o4, .int .i64 o5, .int .u32 wa, .int .u32 to, .slice A3 n c3, .slice B3 m d3] w10 [] [.int .i64 0, .int .i64 0, .int .i64 0, .int .i64 0, .int .i64 0, .int .i64 0, .int .i64 0, .int .u32 0, .int .u32 0, .slice none 0 0, .slice none 0 0] rfl Vq.out
         have hbb : Below _ _ w11 := hw11 ▸ below_setCells geq [.int .i64 kd, .int .i64 y, .int .i64 o1, .int .i64 o2, .int .i64 o3, .int .i64 o4, .int .i64 o5, .int .u32 wa, .int .u32 to, .slice A3 n c3, .slice B3 m d3] 0 w10 HB.out.1
         have hbs : w11.heap.size = w10.heap.size := by rw [← hw11, size_setCells]
         have thq := Lib.hid (there_blk Vq.out (k := 11) rfl)
         replace ON2 := Lib.hid (hw11 ▸ own_setCells (by decide) [.int .i64 kd, .int .i64 y, .int .i64 o1, .int .i64 o2, .int .i64 o3, .int .i64 o4, .int .i64 o5, .int .u32 wa, .int .u32 to, .slice A3 n c3, .slice B3 m d3] 0 ON2.out Vq.out)
         replace OL2 := Lib.hid (hw11 ▸ own_setCells (by decide) [.int .i64 kd, .int .i64 y, .int .i64 o1, .int .i64 o2, .int .i64 o3, .int .i64 o4, .int .i64 o5, .int .u32 wa, .int .u32 to, .slice A3 n c3, .slice B3 m d3] 0 OL2.out Vq.out)
         replace ON3 := Lib.hid (hw11 ▸ own_setCells (by decide) [.int .i64 kd, .int .i64 y, .int .i64 o1, .int .i64 o2, .int .i64 o3, .int .i64 o4, .int .i64 o5, .int .u32 wa, .int .u32 to, .slice A3 n c3, .slice B3 m d3] 0 ON3.out Vq.out)
         replace OL3 := Lib.hid (hw11 ▸ own_setCells (by decide) [.int .i64 kd, .int .i64 y, .int .i64 o1, .int .i64 o2, .int .i64 o3, .int .i64 o4, .int .i64 o5, .int .u32 wa, .int .u32 to, .slice A3 n c3, .slice B3 m d3] 0 OL3.out Vq.out)
         replace Vo := Lib.hid Vo2
         clear Vo2
         replace Vx := Lib.hid Vx2
         clear Vx2
         replace Vy := Lib.hid Vy2
         clear Vy2
         replace Vp := Lib.hid Vp2
         clear Vp2
         replace Vq := Lib.hid Vq2
         clear Vq2
         replace HB := Lib.hid (And.intro hbb (show _ ≤ w11.heap.size by rw [hbs]; exact HB.out.2))
         clear hbb hbs
         refine Shut.out hK _ _ hS (fun _ => ?_)
         clear hK K
         try simp only [Act.put, List.setIfInBounds_toArray, List.set_cons_zero, List.set_cons_succ]
         refine wpAnyH_ready (rs := [5]) (by kernel_rfl) (by simp) (AllReadyH.cons (o := ⟨none, .store 29 (.tmp 14) (.tmp 113), 0, "law.go:86", #[⟨3, .data⟩, ⟨1, .data⟩, ⟨4, .chain⟩, ⟨0, .phase⟩, ⟨1, .phase⟩, ⟨2, .phase⟩, ⟨3, .phase⟩, ⟨4, .phase⟩], none⟩) rfl (fun K hK => ?_) AllReadyH.nil)
         refine op_storeS (by rfl) rfl rfl rfl thq.out (by kernel_rfl) (by simp [Value.oneCell']) hw11 ?_
         replace hS := hw11 ▸ below_setCells gsq [.int .i64 kd, .int .i64 y, .int .i64 o1, .int .i64 o2, .int .i64 o3, .int .i64 o4, .int .i64 o5, .int .u32 wa, .int .u32 to, .slice A3 n c3, .slice B3 m d3] 0 _ hS
         refine Shut.out hK _ _ hS (fun _ => ?_)
         clear hK K
         try simp only [Act.put, List.setIfInBounds_toArray, List.set_cons_zero, List.set_cons_succ]
         refine wpAnyH_done (by kernel_rfl) ?_ _
         refine NoPanic.normal ?_
         clear hS gsp gsq thp thq
         go_wp2
         obtain ⟨we, hwe⟩ : ∃ W, (w11).drew = W := ⟨_, rfl⟩
         have hb : Below (w11).heap.size (w11) we := hwe ▸ (Below.refl _ _).drew
         replace Vo := Lib.hid (blk_below Vo.out hb (blk_lt Vo.out))
         replace Vx := Lib.hid (blk_below Vx.out hb (blk_lt Vx.out))
         replace Vy := Lib.hid (blk_below Vy.out hb (blk_lt Vy.out))
         replace Vp := Lib.hid (blk_below Vp.out hb (blk_lt Vp.out))
         replace Vq := Lib.hid (blk_below Vq.out hb (blk_lt Vq.out))
         replace ON2 := Lib.hid (own_below ON2.out hb)
         replace OL2 := Lib.hid (own_below OL2.out hb)
         replace ON3 := Lib.hid (own_below ON3.out hb)
         replace OL3 := Lib.hid (own_below OL3.out hb)
         replace HB := Lib.hid (And.intro (HB.out.1.trans (hb.mono HB.out.2)) (Nat.le_trans HB.out.2 hb.size))
         clear hb
         have C0 : we.cell? ⟨w.heap.size, 1, none⟩ = some (.int .i64 o0) := (blk_cell Vo.out 1).trans rfl
         have kp : we.cell? ⟨sp, 1, none⟩ = some (.int .i64 z) := (blk_cell Vp.out 1).trans rfl
         have zp : we.frozen? ⟨sp, 1, none⟩ = false := blk_frozen Vp.out 1
         obtain ⟨w12, hw12⟩ : ∃ W, we.setCell ⟨sp, 1, none⟩ (.int .i64 o0) = W := ⟨_, rfl⟩
         have Vo2 : w12.heap[w.heap.size]? = some (.cells #[.int .i64 kd, .int .i64 o0, .int .i64 o1, .int .i64 o2, .int .i64 o3, .int .i64 o4, .int .i64 o5, .int .u32 wa, .int .u32 to, .slice A n c, .slice B m d] 29) := hw12 ▸ (Below.heap_setCell _ ⟨sp, 1, none⟩ (.int .i64 o0) (w.heap.size) neo_p).trans Vo.out
         have Vx2 : w12.heap[sx]? = some (.cells #[.int .i64 kd, .int .i64 z, .int .i64 o1, .int .i64 o2, .int .i64 o3, .int .i64 o4, .int .i64 o5, .int .u32 wa, .int .u32 to, .slice A2 n c2, .slice B2 m d2] 29) := hw12 ▸ (Below.heap_setCell _ ⟨sp, 1, none⟩ (.int .i64 o0) (sx) nex_p).trans Vx.out
         have Vy2 : w12.heap[sy]? = some (.cells #[.int .i64 kd, .int .i64 y, .int .i64 o1, .int .i64 o2, .int .i64 o3, .int .i64 o4, .int .i64 o5, .int .u32 wa, .int .u32 to, .slice A3 n c3, .slice B3 m d3] 29) := hw12 ▸ (Below.heap_setCell _ ⟨sp, 1, none⟩ (.int .i64 o0) (sy) ney_p).trans Vy.out
         have Vq2 : w12.heap[sq]? = some (.cells #[.int .i64 kd, .int .i64 y, .int .i64 o1, .int .i64 o2, .int .i64 o3, .int .i64 o4, .int .i64 o5, .int .u32 wa, .int .u32 to, .slice A3 n c3, .slice B3 m d3] 29) := hw12 ▸ (Below.heap_setCell _ ⟨sp, 1, none⟩ (.int .i64 o0) (sq) nep_q.symm).trans Vq.out
         replace ON2 := Lib.hid (hw12 ▸ own_set (o := 1) (u := .int .i64 o0) ON2.out Vp.out (by decide))
         replace OL2 := Lib.hid (hw12 ▸ own_set (o := 1) (u := .int .i64 o0) OL2.out Vp.out (by decide))
         replace ON3 := Lib.hid (hw12 ▸ own_set (o := 1) (u := .int .i64 o0) ON3.out Vp.out (by decide))
         replace OL3 := Lib.hid (hw12 ▸ own_set (o := 1) (u := .int .i64 o0) OL3.out Vp.out (by decide))
         have Vp2 : w12.heap[sp]? = some (.cells #[.int .i64 kd, .int .i64 o0, .int .i64 o1, .int .i64 o2, .int .i64 o3, .int .i64 o4, .int .i64 o5, .int .u32 wa, .int .u32 to, .slice A2 n c2, .slice B2 m d2] 29) := hw12 ▸ blk_set (j := 1) Vp.out (.int .i64 o0)
         have hbb : Below _ _ w12 := hw12 ▸ HB.out.1.setCell (p := ⟨sp, 1, none⟩) gep _
         have hbs : w12.heap.size = we.heap.size := by rw [← hw12]; simp [World.setCell]
         replace Vo := Lib.hid Vo2
         clear Vo2
         replace Vx := Lib.hid Vx2
         clear Vx2
         replace Vy := Lib.hid Vy2
         clear Vy2
         replace Vp := Lib.hid Vp2
         clear Vp2
         replace Vq := Lib.hid Vq2
         clear Vq2
         replace HB := Lib.hid (And.intro hbb (show _ ≤ w12.heap.size by rw [hbs]; exact HB.out.2))
         clear hbb hbs
         have C1 : w12.cell? ⟨w.heap.size, 1, none⟩ = some (.int .i64 o0) := (blk_cell Vo.out 1).trans rfl
         have kq : w12.cell? ⟨sq, 1, none⟩ = some (.int .i64 y) := (blk_cell Vq.out 1).trans rfl
         have zq : w12.frozen? ⟨sq, 1, none⟩ = false := blk_frozen Vq.out 1
         obtain ⟨w13, hw13⟩ : ∃ W, w12.setCell ⟨sq, 1, none⟩ (.int .i64 o0) = W := ⟨_, rfl⟩
         have Vo2 : w13.heap[w.heap.size]? = some (.cells #[.int .i64 kd, .int .i64 o0, .int .i64 o1, .int .i64 o2, .int .i64 o3, .int .i64 o4, .int .i64 o5, .int .u32 wa, .int .u32 to, .slice A n c, .slice B m d] 29) := hw13 ▸ (Below.heap_setCell _ ⟨sq, 1, none⟩ (.int .i64 o0) (w.heap.size) neo_q).trans Vo.out
         have Vx2 : w13.heap[sx]? = some (.cells #[.int .i64 kd, .int .i64 z, .int .i64 o1, .int .i64 o2, .int .i64 o3, .int .i64 o4, .int .i64 o5, .int .u32 wa, .int .u32 to, .slice A2 n c2, .slice B2 m d2] 29) := hw13 ▸ (Below.heap_setCell _ ⟨sq, 1, none⟩ (.int .i64 o0) (sx) nex_q).trans Vx.out
         have Vy2 : w13.heap[sy]? = some (.cells #[.int .i64 kd, .int .i64 y, .int .i64 o1, .int .i64 o2, .int .i64 o3, .int .i64 o4, .int .i64 o5, .int .u32 wa, .int .u32 to, .slice A3 n c3, .slice B3 m d3] 29) := hw13 ▸ (Below.heap_setCell _ ⟨sq, 1, none⟩ (.int .i64 o0) (sy) ney_q).trans Vy.out
         have Vp2 : w13.heap[sp]? = some (.cells #[.int .i64 kd, .int .i64 o0, .int .i64 o1, .int .i64 o2, .int .i64 o3, .int .i64 o4, .int .i64 o5, .int .u32 wa, .int .u32 to, .slice A2 n c2, .slice B2 m d2] 29) := hw13 ▸ (Below.heap_setCell _ ⟨sq, 1, none⟩ (.int .i64 o0) (sp) nep_q).trans Vp.out
         replace ON2 := Lib.hid (hw13 ▸ own_set (o := 1) (u := .int .i64 o0) ON2.out Vq.out (by decide))
         replace OL2 := Lib.hid (hw13 ▸ own_set (o := 1) (u := .int .i64 o0) OL2.out Vq.out (by decide))
         replace ON3 := Lib.hid (hw13 ▸ own_set (o := 1) (u := .int .i64 o0) ON3.out Vq.out (by decide))
         replace OL3 := Lib.hid (hw13 ▸ own_set (o := 1) (u := .int .i64 o0) OL3.out Vq.out (by decide))
         have Vq2 : w13.heap[sq]? = some (.cells #[.int .i64 kd, .int .i64 o0, .int .i64 o1, .int .i64 o2, .int .i64 o3, .int .i64 o4, .int .i64 o5, .int .u32 wa, .int .u32 to, .slice A3 n c3, .slice B3 m d3] 29) := hw13 ▸ blk_set (j := 1) Vq.out (.int .i64 o0)
         have hbb : Below _ _ w13 := hw13 ▸ HB.out.1.setCell (p := ⟨sq, 1, none⟩) geq _
         have hbs : w13.heap.size = w12.heap.size := by rw [← hw13]; simp [World.setCell]
         replace Vo := Lib.hid Vo2
         clear Vo2
         replace Vx := Lib.hid Vx2
         clear Vx2
         replace Vy := Lib.hid Vy2
         clear Vy2
         replace Vp := Lib.hid Vp2
         clear Vp2
         replace Vq := Lib.hid Vq2
         clear Vq2
         replace HB := Lib.hid (And.intro hbb (show _ ≤ w13.heap.size by rw [hbs]; exact HB.out.2))
         clear hbb hbs
         have C2 : w13.cell? ⟨w.heap.size, 1, none⟩ = some (.int .i64 o0) := (blk_cell Vo.out 1).trans rfl
         refine wp_region_noPanic ?_
         refine wp_region_held_drew (S := (fun wv => Hid (wv.cell? ⟨w.heap.size, 1, none⟩ = some (.int .i64 o0)))) (by kernel_rfl) ((by rw [hwe]; exact Lib.hid C0)) (fun hS => ?_)
         rw [hwe] at hS ⊢
         refine wpAnyH_take (i := 0) (oi := ⟨some 114, .fieldAddr 29 (.tmp 3) 1, 0, "law.go:87", #[], none⟩) (v := ?_) rfl (by kernel_rfl) (by kernel_rfl) (by kernel_rfl) (fun _ _ _ h => h) (Or.inl ⟨by rfl, ?_⟩) hS ?_
         rotate_left
         · intro wv _; go_simp; try with_reducible rfl
         try simp only [Act.put, List.setIfInBounds_toArray, List.set_cons_zero, List.set_cons_succ]
         refine wpAnyH_take (i := 1) (oi := ⟨some 115, .indexAddr 22 (.tmp 114) (.const (Value.int IntKind.i64 0)), 0, "law.go:87", #[⟨0, .data⟩], none⟩) (v := ?_) rfl (by kernel_rfl) (by kernel_rfl) (by kernel_rfl) (fun _ _ _ h => h) (Or.inl ⟨by rfl, ?_⟩) hS ?_
         rotate_left
         · intro wv _; go_simp; try with_reducible rfl
         try simp only [Act.put, List.setIfInBounds_toArray, List.set_cons_zero, List.set_cons_succ]
         refine wpAnyH_take (i := 2) (oi := ⟨some 116, .load 2 (.tmp 115), 2, "law.go:87", #[⟨1, .data⟩], none⟩) (v := ?_) rfl (by kernel_rfl) (by kernel_rfl) (by kernel_rfl) (fun _ _ _ h => h) (Or.inl ⟨by rfl, ?_⟩) hS ?_
         rotate_left
         · intro wv hS; have hrun := hS.out; go_simp; try with_reducible rfl
         try simp only [Act.put, List.setIfInBounds_toArray, List.set_cons_zero, List.set_cons_succ]
         refine wpAnyH_take (i := 3) (oi := ⟨some 117, .fieldAddr 29 (.tmp 3) 1, 0, "law.go:87", #[⟨8, .gcOnly .lateStores⟩], none⟩) (v := ?_) rfl (by kernel_rfl) (by kernel_rfl) (by kernel_rfl) (fun _ _ _ h => h) (Or.inl ⟨by rfl, ?_⟩) hS ?_
         rotate_left
         · intro wv _; go_simp; try with_reducible rfl
         try simp only [Act.put, List.setIfInBounds_toArray, List.set_cons_zero, List.set_cons_succ]
         refine wpAnyH_take (i := 4) (oi := ⟨some 118, .indexAddr 22 (.tmp 117) (.const (Value.int IntKind.i64 0)), 0, "law.go:87", #[⟨3, .data⟩, ⟨8, .gcOnly .lateStores⟩], none⟩) (v := ?_) rfl (by kernel_rfl) (by kernel_rfl) (by kernel_rfl) (fun _ _ _ h => h) (Or.inl ⟨by rfl, ?_⟩) hS ?_
         rotate_left
         · intro wv _; go_simp; try with_reducible rfl
         try simp only [Act.put, List.setIfInBounds_toArray, List.set_cons_zero, List.set_cons_succ]
         refine wpAnyH_take (i := 5) (oi := ⟨some 119, .load 2 (.tmp 118), 2, "law.go:87", #[⟨4, .data⟩, ⟨8, .gcOnly .lateStores⟩], none⟩) (v := ?_) rfl (by kernel_rfl) (by kernel_rfl) (by kernel_rfl) (fun _ _ _ h => h) (Or.inl ⟨by rfl, ?_⟩) hS ?_
         rotate_left
         · intro wv hS; have hrun := hS.out; go_simp; try with_reducible rfl
         try simp only [Act.put, List.setIfInBounds_toArray, List.set_cons_zero, List.set_cons_succ]
         refine wpAnyH_take (i := 6) (oi := ⟨some 120, .fieldAddr 29 (.tmp 13) 1, 0, "law.go:87", #[], none⟩) (v := ?_) rfl (by kernel_rfl) (by kernel_rfl) (by kernel_rfl) (fun _ _ _ h => h) (Or.inl ⟨by rfl, ?_⟩) hS ?_
         rotate_left
         · intro wv _; go_simp; try with_reducible rfl
         try simp only [Act.put, List.setIfInBounds_toArray, List.set_cons_zero, List.set_cons_succ]
         refine wpAnyH_take (i := 7) (oi := ⟨some 121, .indexAddr 22 (.tmp 120) (.const (Value.int IntKind.i64 0)), 0, "law.go:87", #[⟨6, .data⟩, ⟨0, .phase⟩, ⟨1, .phase⟩, ⟨2, .phase⟩, ⟨3, .textOnly .lateStores⟩, ⟨4, .textOnly .lateStores⟩, ⟨5, .textOnly .lateStores⟩], none⟩) (v := ?_) rfl (by kernel_rfl) (by kernel_rfl) (by kernel_rfl) (fun _ _ _ h => h) (Or.inl ⟨by rfl, ?_⟩) hS ?_
         rotate_left
         · intro wv _; go_simp; try with_reducible rfl
         try simp only [Act.put, List.setIfInBounds_toArray, List.set_cons_zero, List.set_cons_succ]
         refine wpAnyH_take (i := 9) (oi := ⟨some 122, .fieldAddr 29 (.tmp 14) 1, 0, "law.go:87", #[], none⟩) (v := ?_) rfl (by kernel_rfl) (by kernel_rfl) (by kernel_rfl) (fun _ _ _ h => h) (Or.inl ⟨by rfl, ?_⟩) hS ?_
         rotate_left
         · intro wv _; go_simp; try with_reducible rfl
         try simp only [Act.put, List.setIfInBounds_toArray, List.set_cons_zero, List.set_cons_succ]
         refine wpAnyH_ready (rs := [8]) (by kernel_rfl) (by simp) (AllReadyH.cons (o := ⟨none, .store 2 (.tmp 121) (.tmp 116), 0, "law.go:87", #[⟨7, .data⟩, ⟨2, .data⟩, ⟨0, .phase⟩, ⟨1, .phase⟩, ⟨2, .phase⟩, ⟨3, .textOnly .lateStores⟩, ⟨4, .textOnly .lateStores⟩, ⟨5, .textOnly .lateStores⟩], none⟩) rfl (fun K hK => ?_) AllReadyH.nil)
         go_simp
         try rw [hw12]
         replace hS := Lib.hid C1
         refine Shut.out hK _ _ hS (fun _ => ?_)
         clear hK K
         try simp only [Act.put, List.setIfInBounds_toArray, List.set_cons_zero, List.set_cons_succ]
         refine wpAnyH_take (i := 10) (oi := ⟨some 123, .indexAddr 22 (.tmp 122) (.const (Value.int IntKind.i64 0)), 0, "law.go:87", #[⟨9, .data⟩, ⟨0, .phase⟩, ⟨1, .phase⟩, ⟨2, .phase⟩, ⟨3, .phase⟩, ⟨4, .phase⟩, ⟨5, .phase⟩, ⟨6, .phase⟩, ⟨7, .phase⟩, ⟨8, .phase⟩], none⟩) (v := ?_) rfl (by kernel_rfl) (by kernel_rfl) (by kernel_rfl) (fun _ _ _ h => h) (Or.inl ⟨by rfl, ?_⟩) hS ?_
         rotate_left
         · intro wv _; go_simp; try with_reducible rfl
         try simp only [Act.put, List.setIfInBounds_toArray, List.set_cons_zero, List.set_cons_succ]
         refine wpAnyH_ready (rs := [11]) (by kernel_rfl) (by simp) (AllReadyH.cons (o := ⟨none, .store 2 (.tmp 123) (.tmp 119), 0, "law.go:87", #[⟨10, .data⟩, ⟨5, .data⟩, ⟨8, .chain⟩, ⟨0, .phase⟩, ⟨1, .phase⟩, ⟨2, .phase⟩, ⟨3, .phase⟩, ⟨4, .phase⟩, ⟨5, .phase⟩, ⟨6, .phase⟩, ⟨7, .phase⟩, ⟨8, .phase⟩], none⟩) rfl (fun K hK => ?_) AllReadyH.nil)
         go_simp
         try rw [hw13]
         replace hS := Lib.hid C2
         refine Shut.out hK _ _ hS (fun _ => ?_)
         clear hK K
         try simp only [Act.put, List.setIfInBounds_toArray, List.set_cons_zero, List.set_cons_succ]
         refine wpAnyH_done (by kernel_rfl) ?_ _
         refine NoPanic.normal ?_
         clear hS C0 C1 C2 kp kq zp zq
         obtain ⟨co0, co1, co2, co3, co4, co5, co6, co7, co8, co9, co10⟩ := row11 Vo.out
         obtain ⟨cp0, cp1, cp2, cp3, cp4, cp5, cp6, cp7, cp8, cp9, cp10⟩ := row11 Vp.out
         obtain ⟨cq0, cq1, cq2, cq3, cq4, cq5, cq6, cq7, cq8, cq9, cq10⟩ := row11 Vq.out
         go_wp2_with fail
         refine (OE.out _ _ _ _ _ (own_wts ON2.out) (own_cls OL2.out) (Es.below RX.out HB.out.1) (Es.below RY.out HB.out.1)).mono ?_
         rintro e w14 ⟨rfl, hb⟩
         clear co0 co1 co2 co3 co4 co5 co6 co7 co8 co9 co10 cp0 cp1 cp2 cp3 cp4 cp5 cp6 cp7 cp8 cp9 cp10 cq0 cq1 cq2 cq3 cq4 cq5 cq6 cq7 cq8 cq9 cq10
         replace Vo := Lib.hid (blk_below Vo.out hb (blk_lt Vo.out))
         replace Vx := Lib.hid (blk_below Vx.out hb (blk_lt Vx.out))
         replace Vy := Lib.hid (blk_below Vy.out hb (blk_lt Vy.out))
         replace Vp := Lib.hid (blk_below Vp.out hb (blk_lt Vp.out))
         replace Vq := Lib.hid (blk_below Vq.out hb (blk_lt Vq.out))
         replace ON2 := Lib.hid (own_below ON2.out hb)
         replace OL2 := Lib.hid (own_below OL2.out hb)
         replace ON3 := Lib.hid (own_below ON3.out hb)
         replace OL3 := Lib.hid (own_below OL3.out hb)
         replace HB := Lib.hid (And.intro (HB.out.1.trans (hb.mono HB.out.2)) (Nat.le_trans HB.out.2 hb.size))
         clear hb
         obtain ⟨co0, co1, co2, co3, co4, co5, co6, co7, co8, co9, co10⟩ := row11 Vo.out
         obtain ⟨cp0, cp1, cp2, cp3, cp4, cp5, cp6, cp7, cp8, cp9, cp10⟩ := row11 Vp.out
         obtain ⟨cq0, cq1, cq2, cq3, cq4, cq5, cq6, cq7, cq8, cq9, cq10⟩ := row11 Vq.out
         go_wp2_with fail
         refine (OE.out _ _ _ _ _ (own_wts ON3.out) (own_cls OL3.out) (Es.below RX.out HB.out.1) (Es.below RY.out HB.out.1)).mono ?_
         rintro e w15 ⟨rfl, hb⟩
         clear co0 co1 co2 co3 co4 co5 co6 co7 co8 co9 co10 cp0 cp1 cp2 cp3 cp4 cp5 cp6 cp7 cp8 cp9 cp10 cq0 cq1 cq2 cq3 cq4 cq5 cq6 cq7 cq8 cq9 cq10
         replace Vo := Lib.hid (blk_below Vo.out hb (blk_lt Vo.out))
         replace Vx := Lib.hid (blk_below Vx.out hb (blk_lt Vx.out))
         replace Vy := Lib.hid (blk_below Vy.out hb (blk_lt Vy.out))
         replace Vp := Lib.hid (blk_below Vp.out hb (blk_lt Vp.out))
         replace Vq := Lib.hid (blk_below Vq.out hb (blk_lt Vq.out))
         replace ON2 := Lib.hid (own_below ON2.out hb)
         replace OL2 := Lib.hid (own_below OL2.out hb)
         replace ON3 := Lib.hid (own_below ON3.out hb)
         replace OL3 := Lib.hid (own_below OL3.out hb)
         replace HB := Lib.hid (And.intro (HB.out.1.trans (hb.mono HB.out.2)) (Nat.le_trans HB.out.2 hb.size))
         clear hb
         go_wp2
         go_ret
         exact ⟨rfl, HB.out.1⟩
    · have n2 : (phase == 2) = false := by simp [p2]
      clear p0 p2
      cases gdn
      · as_aux_lemma =>
         clear LX hl1 hgz hlo
         have b1 : (hft == 1) = false := by rw [hbf]; rfl
         have b0 : (hft != 0) = false := by rw [hbf]; rfl
         clear hbf
         go_enter Try.func5, Try.ntmps5
         go_wp2_with fail
         refine (AL.out _).mono ?_
         rintro e w2 ⟨rfl, hb⟩
         replace Vo := Lib.hid (blk_below Vo.out hb (blk_lt Vo.out))
         replace Vf := Lib.hid (blk_below Vf.out hb (blk_lt Vf.out))
         replace Vt := Lib.hid (blk_below Vt.out hb (blk_lt Vt.out))
         replace HB := Lib.hid (And.intro (HB.out.1.trans (hb.mono HB.out.2)) (Nat.le_trans HB.out.2 hb.size))
         clear hb
         obtain ⟨co0, co1, co2, co3, co4, co5, co6, co7, co8, co9, co10⟩ := row11 Vo.out
         go_wp2_with fail
         refine (g2.out _).mono ?_
         rintro e w3 ⟨rfl, hb⟩
         clear co0 co1 co2 co3 co4 co5 co6 co7 co8 co9 co10
         replace Vo := Lib.hid (blk_below Vo.out hb (blk_lt Vo.out))
         replace Vf := Lib.hid (blk_below Vf.out hb (blk_lt Vf.out))
         replace Vt := Lib.hid (blk_below Vt.out hb (blk_lt Vt.out))
         replace HB := Lib.hid (And.intro (HB.out.1.trans (hb.mono HB.out.2)) (Nat.le_trans HB.out.2 hb.size))
         clear hb
         obtain ⟨co0, co1, co2, co3, co4, co5, co6, co7, co8, co9, co10⟩ := row11 Vo.out
         obtain ⟨cf0, cf1, cf2, cf3, cf4, cf5, cf6, cf7, cf8, cf9⟩ := row10 Vf.out
         obtain ⟨ct0, ct1⟩ := row2 Vt.out
         go_wp2_with fail
         refine (L1.out _ (Es.below RX.out HB.out.1) (Es.below RY.out HB.out.1)).mono ?_
         rintro e w4 ⟨A2, c2, B2, d2, rfl, hon, hol, hb⟩
         clear co0 co1 co2 co3 co4 co5 co6 co7 co8 co9 co10 cf0 cf1 cf2 cf3 cf4 cf5 cf6 cf7 cf8 cf9 ct0 ct1
         replace Vo := Lib.hid (blk_below Vo.out hb (blk_lt Vo.out))
         replace Vf := Lib.hid (blk_below Vf.out hb (blk_lt Vf.out))
         replace Vt := Lib.hid (blk_below Vt.out hb (blk_lt Vt.out))
         replace HB := Lib.hid (And.intro (HB.out.1.trans (hb.mono HB.out.2)) (Nat.le_trans HB.out.2 hb.size))
         clear hb
         have ON2 := Lib.hid hon; have OL2 := Lib.hid hol
         clear hon hol
         have lto := blk_lt Vo.out
         have ltf := blk_lt Vf.out
         have ltt := blk_lt Vt.out
         have gq := HB.out.2
         obtain ⟨w5, hw5⟩ : ∃ W, (((w4.alloc (.cells #[.int .i64 kd, .int .i64 z, .int .i64 o1, .int .i64 o2, .int .i64 o3, .int .i64 o4, .int .i64 o5, .int .u32 wa, .int .u32 to, .slice A2 n c2, .slice B2 m d2] 29)).alloc (.cells #[.int .i64 gop, .int .i64 gstage, .int .i64 gphase, .int .i64 gold, .int .i64 gsince, .int .i64 gleft, .bool gawoke, .bool gstarve, .int .i64 gneed, .bool gfront] 31)).alloc (.cells #[.bool false, .bool false, .bool ghd, .int .i64 ggv, .int .i64 gft, .int .u64 0, .slice WA wn wc] 39)) = W := ⟨_, rfl⟩
         have hb : Below w4.heap.size w4 w5 := hw5 ▸ ((((Below.refl _ _).alloc (Nat.le_refl _) _).alloc (by first | (simp; done) | (simp; omega)) _).alloc (by first | (simp; done) | (simp; omega)) _)
         have hv0 : w5.heap[w4.heap.size]? = some (.cells #[.int .i64 kd, .int .i64 z, .int .i64 o1, .int .i64 o2, .int .i64 o3, .int .i64 o4, .int .i64 o5, .int .u32 wa, .int .u32 to, .slice A2 n c2, .slice B2 m d2] 29) := by
           have h0 := heap_alloc_new w4 (.cells #[.int .i64 kd, .int .i64 z, .int .i64 o1, .int .i64 o2, .int .i64 o3, .int .i64 o4, .int .i64 o5, .int .u32 wa, .int .u32 to, .slice A2 n c2, .slice B2 m d2] 29)
           rw [show w4.heap.size = w4.heap.size by simp [Nat.add_assoc]] at h0
           rw [← hw5]
           rw [heap_alloc_old _ _ (by simp <;> omega), heap_alloc_old _ _ (by simp <;> omega)]; exact h0
         have hv1 : w5.heap[w4.heap.size + 1]? = some (.cells #[.int .i64 gop, .int .i64 gstage, .int .i64 gphase, .int .i64 gold, .int .i64 gsince, .int .i64 gleft, .bool gawoke, .bool gstarve, .int .i64 gneed, .bool gfront] 31) := by
           have h0 := heap_alloc_new (w4.alloc (.cells #[.int .i64 kd, .int .i64 z, .int .i64 o1, .int .i64 o2, .int .i64 o3, .int .i64 o4, .int .i64 o5, .int .u32 wa, .int .u32 to, .slice A2 n c2, .slice B2 m d2] 29)) (.cells #[.int .i64 gop, .int .i64 gstage, .int .i64 gphase, .int .i64 gold, .int .i64 gsince, .int .i64 gleft, .bool gawoke, .bool gstarve, .int .i64 gneed, .bool gfront] 31)
           rw [show (w4.alloc (.cells #[.int .i64 kd, .int .i64 z, .int .i64 o1, .int .i64 o2, .int .i64 o3, .int .i64 o4, .int .i64 o5, .int .u32 wa, .int .u32 to, .slice A2 n c2, .slice B2 m d2] 29)).heap.size = w4.heap.size + 1 by simp [Nat.add_assoc]] at h0
           rw [← hw5]
           rw [heap_alloc_old _ _ (by simp <;> omega)]; exact h0
         have hv2 : w5.heap[w4.heap.size + 2]? = some (.cells #[.bool false, .bool false, .bool ghd, .int .i64 ggv, .int .i64 gft, .int .u64 0, .slice WA wn wc] 39) := by
           have h0 := heap_alloc_new ((w4.alloc (.cells #[.int .i64 kd, .int .i64 z, .int .i64 o1, .int .i64 o2, .int .i64 o3, .int .i64 o4, .int .i64 o5, .int .u32 wa, .int .u32 to, .slice A2 n c2, .slice B2 m d2] 29)).alloc (.cells #[.int .i64 gop, .int .i64 gstage, .int .i64 gphase, .int .i64 gold, .int .i64 gsince, .int .i64 gleft, .bool gawoke, .bool gstarve, .int .i64 gneed, .bool gfront] 31)) (.cells #[.bool false, .bool false, .bool ghd, .int .i64 ggv, .int .i64 gft, .int .u64 0, .slice WA wn wc] 39)
           rw [show ((w4.alloc (.cells #[.int .i64 kd, .int .i64 z, .int .i64 o1, .int .i64 o2, .int .i64 o3, .int .i64 o4, .int .i64 o5, .int .u32 wa, .int .u32 to, .slice A2 n c2, .slice B2 m d2] 29)).alloc (.cells #[.int .i64 gop, .int .i64 gstage, .int .i64 gphase, .int .i64 gold, .int .i64 gsince, .int .i64 gleft, .bool gawoke, .bool gstarve, .int .i64 gneed, .bool gfront] 31)).heap.size = w4.heap.size + 2 by simp [Nat.add_assoc]] at h0
           rw [← hw5]
           exact h0
         replace Vo := Lib.hid (blk_below Vo.out hb (blk_lt Vo.out))
         replace Vf := Lib.hid (blk_below Vf.out hb (blk_lt Vf.out))
         replace Vt := Lib.hid (blk_below Vt.out hb (blk_lt Vt.out))
         replace ON2 := Lib.hid (own_below ON2.out hb)
         replace OL2 := Lib.hid (own_below OL2.out hb)
         replace HB := Lib.hid (And.intro (HB.out.1.trans (hb.mono HB.out.2)) (Nat.le_trans HB.out.2 hb.size))
         have Vx := Lib.hid hv0
         have neo_x := Nat.ne_of_lt lto
         have nef_x := Nat.ne_of_lt ltf
         have net_x := Nat.ne_of_lt ltt
         have gex := gq
         have Vg := Lib.hid hv1
         have neo_g := Nat.ne_of_lt (Nat.lt_of_lt_of_le lto (Nat.le_add_right w4.heap.size 1))
         have nef_g := Nat.ne_of_lt (Nat.lt_of_lt_of_le ltf (Nat.le_add_right w4.heap.size 1))
         have net_g := Nat.ne_of_lt (Nat.lt_of_lt_of_le ltt (Nat.le_add_right w4.heap.size 1))
         have nex_g : w4.heap.size ≠ w4.heap.size + 1 := by omega
         have geg : _ ≤ w4.heap.size + 1 := Nat.le_trans gq (Nat.le_add_right _ 1)
         have Va := Lib.hid hv2
         have neo_a := Nat.ne_of_lt (Nat.lt_of_lt_of_le lto (Nat.le_add_right w4.heap.size 2))
         have nef_a := Nat.ne_of_lt (Nat.lt_of_lt_of_le ltf (Nat.le_add_right w4.heap.size 2))
         have net_a := Nat.ne_of_lt (Nat.lt_of_lt_of_le ltt (Nat.le_add_right w4.heap.size 2))
         have nex_a : w4.heap.size ≠ w4.heap.size + 2 := by omega
         have neg_a : w4.heap.size + 1 ≠ w4.heap.size + 2 := by omega
         have gea : _ ≤ w4.heap.size + 2 := Nat.le_trans gq (Nat.le_add_right _ 2)
         generalize hsx : w4.heap.size = sx at *
         clear hb gq hv0 hv1 hv2 lto ltf ltt
         obtain ⟨co0, co1, co2, co3, co4, co5, co6, co7, co8, co9, co10⟩ := row11 Vo.out
         obtain ⟨cf0, cf1, cf2, cf3, cf4, cf5, cf6, cf7, cf8, cf9⟩ := row10 Vf.out
         obtain ⟨ca0, ca1, ca2, ca3, ca4, ca5, ca6⟩ := row7 Va.out
         obtain ⟨cg0, cg1, cg2, cg3, cg4, cg5, cg6, cg7, cg8, cg9⟩ := row10 Vg.out
         go_wp2_with fail
         refine (L2.out _ (Es.below RX.out HB.out.1) (Es.below RY.out HB.out.1)).mono ?_
         rintro e w6 ⟨A3, c3, B3, d3, rfl, hon, hol, hb⟩
         clear co0 co1 co2 co3 co4 co5 co6 co7 co8 co9 co10 cf0 cf1 cf2 cf3 cf4 cf5 cf6 cf7 cf8 cf9 ca0 ca1 ca2 ca3 ca4 ca5 ca6 cg0 cg1 cg2 cg3 cg4 cg5 cg6 cg7 cg8 cg9
         replace Vo := Lib.hid (blk_below Vo.out hb (blk_lt Vo.out))
         replace Vf := Lib.hid (blk_below Vf.out hb (blk_lt Vf.out))
         replace Vt := Lib.hid (blk_below Vt.out hb (blk_lt Vt.out))
         replace Vx := Lib.hid (blk_below Vx.out hb (blk_lt Vx.out))
         replace Vg := Lib.hid (blk_below Vg.out hb (blk_lt Vg.out))
         replace Va := Lib.hid (blk_below Va.out hb (blk_lt Va.out))
         replace ON2 := Lib.hid (own_below ON2.out hb)
         replace OL2 := Lib.hid (own_below OL2.out hb)
         replace HB := Lib.hid (And.intro (HB.out.1.trans (hb.mono HB.out.2)) (Nat.le_trans HB.out.2 hb.size))
         clear hb
         have ON3 := Lib.hid hon; have OL3 := Lib.hid hol
         clear hon hol
         have lto := blk_lt Vo.out
         have ltf := blk_lt Vf.out
         have ltt := blk_lt Vt.out
         have ltx := blk_lt Vx.out
         have ltg := blk_lt Vg.out
         have lta := blk_lt Va.out
         have gq := HB.out.2
         obtain ⟨w7, hw7⟩ : ∃ W, (((w6.alloc (.cells #[.int .i64 kd, .int .i64 y, .int .i64 o1, .int .i64 o2, .int .i64 o3, .int .i64 o4, .int .i64 o5, .int .u32 wa, .int .u32 to, .slice A3 n c3, .slice B3 m d3] 29)).alloc (.cells #[.int .i64 hop, .int .i64 hstage, .int .i64 hphase, .int .i64 hold, .int .i64 hsince, .int .i64 hleft, .bool hawoke, .bool hstarve, .int .i64 hneed, .bool hfront] 31)).alloc (.cells #[.bool hdn, .bool false, .bool hhd, .int .i64 hgv, .int .i64 hft, .int .u64 0, .slice WA wn wc] 39)) = W := ⟨_, rfl⟩
         have hb : Below w6.heap.size w6 w7 := hw7 ▸ ((((Below.refl _ _).alloc (Nat.le_refl _) _).alloc (by first | (simp; done) | (simp; omega)) _).alloc (by first | (simp; done) | (simp; omega)) _)
         have hv0 : w7.heap[w6.heap.size]? = some (.cells #[.int .i64 kd, .int .i64 y, .int .i64 o1, .int .i64 o2, .int .i64 o3, .int .i64 o4, .int .i64 o5, .int .u32 wa, .int .u32 to, .slice A3 n c3, .slice B3 m d3] 29) := by
           have h0 := heap_alloc_new w6 (.cells #[.int .i64 kd, .int .i64 y, .int .i64 o1, .int .i64 o2, .int .i64 o3, .int .i64 o4, .int .i64 o5, .int .u32 wa, .int .u32 to, .slice A3 n c3, .slice B3 m d3] 29)
           rw [show w6.heap.size = w6.heap.size by simp [Nat.add_assoc]] at h0
           rw [← hw7]
           rw [heap_alloc_old _ _ (by simp <;> omega), heap_alloc_old _ _ (by simp <;> omega)]; exact h0
         have hv1 : w7.heap[w6.heap.size + 1]? = some (.cells #[.int .i64 hop, .int .i64 hstage, .int .i64 hphase, .int .i64 hold, .int .i64 hsince, .int .i64 hleft, .bool hawoke, .bool hstarve, .int .i64 hneed, .bool hfront] 31) := by
           have h0 := heap_alloc_new (w6.alloc (.cells #[.int .i64 kd, .int .i64 y, .int .i64 o1, .int .i64 o2, .int .i64 o3, .int .i64 o4, .int .i64 o5, .int .u32 wa, .int .u32 to, .slice A3 n c3, .slice B3 m d3] 29)) (.cells #[.int .i64 hop, .int .i64 hstage, .int .i64 hphase, .int .i64 hold, .int .i64 hsince, .int .i64 hleft, .bool hawoke, .bool hstarve, .int .i64 hneed, .bool hfront] 31)
           rw [show (w6.alloc (.cells #[.int .i64 kd, .int .i64 y, .int .i64 o1, .int .i64 o2, .int .i64 o3, .int .i64 o4, .int .i64 o5, .int .u32 wa, .int .u32 to, .slice A3 n c3, .slice B3 m d3] 29)).heap.size = w6.heap.size + 1 by simp [Nat.add_assoc]] at h0
           rw [← hw7]
           rw [heap_alloc_old _ _ (by simp <;> omega)]; exact h0
         have hv2 : w7.heap[w6.heap.size + 2]? = some (.cells #[.bool hdn, .bool false, .bool hhd, .int .i64 hgv, .int .i64 hft, .int .u64 0, .slice WA wn wc] 39) := by
           have h0 := heap_alloc_new ((w6.alloc (.cells #[.int .i64 kd, .int .i64 y, .int .i64 o1, .int .i64 o2, .int .i64 o3, .int .i64 o4, .int .i64 o5, .int .u32 wa, .int .u32 to, .slice A3 n c3, .slice B3 m d3] 29)).alloc (.cells #[.int .i64 hop, .int .i64 hstage, .int .i64 hphase, .int .i64 hold, .int .i64 hsince, .int .i64 hleft, .bool hawoke, .bool hstarve, .int .i64 hneed, .bool hfront] 31)) (.cells #[.bool hdn, .bool false, .bool hhd, .int .i64 hgv, .int .i64 hft, .int .u64 0, .slice WA wn wc] 39)
           rw [show ((w6.alloc (.cells #[.int .i64 kd, .int .i64 y, .int .i64 o1, .int .i64 o2, .int .i64 o3, .int .i64 o4, .int .i64 o5, .int .u32 wa, .int .u32 to, .slice A3 n c3, .slice B3 m d3] 29)).alloc (.cells #[.int .i64 hop, .int .i64 hstage, .int .i64 hphase, .int .i64 hold, .int .i64 hsince, .int .i64 hleft, .bool hawoke, .bool hstarve, .int .i64 hneed, .bool hfront] 31)).heap.size = w6.heap.size + 2 by simp [Nat.add_assoc]] at h0
           rw [← hw7]
           exact h0
         replace Vo := Lib.hid (blk_below Vo.out hb (blk_lt Vo.out))
         replace Vf := Lib.hid (blk_below Vf.out hb (blk_lt Vf.out))
         replace Vt := Lib.hid (blk_below Vt.out hb (blk_lt Vt.out))
         replace Vx := Lib.hid (blk_below Vx.out hb (blk_lt Vx.out))
         replace Vg := Lib.hid (blk_below Vg.out hb (blk_lt Vg.out))
         replace Va := Lib.hid (blk_below Va.out hb (blk_lt Va.out))
         replace ON2 := Lib.hid (own_below ON2.out hb)
         replace OL2 := Lib.hid (own_below OL2.out hb)
         replace ON3 := Lib.hid (own_below ON3.out hb)
         replace OL3 := Lib.hid (own_below OL3.out hb)
         replace HB := Lib.hid (And.intro (HB.out.1.trans (hb.mono HB.out.2)) (Nat.le_trans HB.out.2 hb.size))
         have Vy := Lib.hid hv0
         have neo_y := Nat.ne_of_lt lto
         have nef_y := Nat.ne_of_lt ltf
         have net_y := Nat.ne_of_lt ltt
         have nex_y := Nat.ne_of_lt ltx
         have neg_y := Nat.ne_of_lt ltg
         have nea_y := Nat.ne_of_lt lta
         have gey := gq
         have Vh := Lib.hid hv1
         have neo_h := Nat.ne_of_lt (Nat.lt_of_lt_of_le lto (Nat.le_add_right w6.heap.size 1))
         have nef_h := Nat.ne_of_lt (Nat.lt_of_lt_of_le ltf (Nat.le_add_right w6.heap.size 1))
         have net_h := Nat.ne_of_lt (Nat.lt_of_lt_of_le ltt (Nat.le_add_right w6.heap.size 1))
         have nex_h := Nat.ne_of_lt (Nat.lt_of_lt_of_le ltx (Nat.le_add_right w6.heap.size 1))
         have neg_h := Nat.ne_of_lt (Nat.lt_of_lt_of_le ltg (Nat.le_add_right w6.heap.size 1))
         have nea_h := Nat.ne_of_lt (Nat.lt_of_lt_of_le lta (Nat.le_add_right w6.heap.size 1))
         have ney_h : w6.heap.size ≠ w6.heap.size + 1 := by omega
         have geh : _ ≤ w6.heap.size + 1 := Nat.le_trans gq (Nat.le_add_right _ 1)
         have Vb := Lib.hid hv2
         have neo_b := Nat.ne_of_lt (Nat.lt_of_lt_of_le lto (Nat.le_add_right w6.heap.size 2))
         have nef_b := Nat.ne_of_lt (Nat.lt_of_lt_of_le ltf (Nat.le_add_right w6.heap.size 2))
         have net_b := Nat.ne_of_lt (Nat.lt_of_lt_of_le ltt (Nat.le_add_right w6.heap.size 2))
         have nex_b := Nat.ne_of_lt (Nat.lt_of_lt_of_le ltx (Nat.le_add_right w6.heap.size 2))
         have neg_b := Nat.ne_of_lt (Nat.lt_of_lt_of_le ltg (Nat.le_add_right w6.heap.size 2))
         have nea_b := Nat.ne_of_lt (Nat.lt_of_lt_of_le lta (Nat.le_add_right w6.heap.size 2))
         have ney_b : w6.heap.size ≠ w6.heap.size + 2 := by omega
         have neh_b : w6.heap.size + 1 ≠ w6.heap.size + 2 := by omega
         have geb : _ ≤ w6.heap.size + 2 := Nat.le_trans gq (Nat.le_add_right _ 2)
         generalize hsy : w6.heap.size = sy at *
         clear hb gq hv0 hv1 hv2 lto ltf ltt ltx ltg lta
         obtain ⟨co0, co1, co2, co3, co4, co5, co6, co7, co8, co9, co10⟩ := row11 Vo.out
         obtain ⟨cf0, cf1, cf2, cf3, cf4, cf5, cf6, cf7, cf8, cf9⟩ := row10 Vf.out
         obtain ⟨cy0, cy1, cy2, cy3, cy4, cy5, cy6, cy7, cy8, cy9, cy10⟩ := row11 Vy.out
         obtain ⟨ch0, ch1, ch2, ch3, ch4, ch5, ch6, ch7, ch8, ch9⟩ := row10 Vh.out
         obtain ⟨cb0, cb1, cb2, cb3, cb4, cb5, cb6⟩ := row7 Vb.out
         go_wp2
         refine wp_region_noPanic ?_
         refine wp_region_held_drew (S := (fun wv => Below w7.heap.size w7 wv)) (by kernel_rfl) ((Below.refl w7.heap.size w7).drew) (fun hS => ?_)
         refine wpAnyH_take (i := 0) (oi := ⟨some 85, .fieldAddr 31 (.tmp 4) 2, 0, "law.go:82", #[], none⟩) (v := ?_) rfl (by kernel_rfl) (by kernel_rfl) (by kernel_rfl) (fun _ _ _ h => h) (Or.inl ⟨by rfl, ?_⟩) hS ?_
         rotate_left
         · intro wv _; go_simp; try with_reducible rfl
         try simp only [Act.put, List.setIfInBounds_toArray, List.set_cons_zero, List.set_cons_succ]
         refine wpAnyH_take (i := 1) (oi := ⟨some 86, .load 3 (.tmp 85), 3, "law.go:82", #[⟨0, .data⟩], none⟩) (v := ?_) rfl (by kernel_rfl) (by kernel_rfl) (by kernel_rfl) (fun _ _ _ h => h) (Or.inl ⟨by rfl, ?_⟩) hS ?_
         rotate_left
         · intro wv hS; have hrun := (show wv.cell? ⟨w.heap.size + 1, 2, none⟩ = some (.int .i64 phase) from (blk_cell (blk_below Vf.out hS (blk_lt Vf.out)) 2).trans rfl); go_simp; try with_reducible rfl
         try simp only [Act.put, List.setIfInBounds_toArray, List.set_cons_zero, List.set_cons_succ]
         refine wpAnyH_take (i := 2) (oi := ⟨some 87, .binOp .eql 3 (.tmp 86) (.const (Value.int IntKind.i64 0)) 3, 4, "law.go:82", #[⟨1, .data⟩], none⟩) (v := ?_) rfl (by kernel_rfl) (by kernel_rfl) (by kernel_rfl) (fun _ _ _ h => h) (Or.inl ⟨by rfl, ?_⟩) hS ?_
         rotate_left
         · intro wv _; go_simp; try with_reducible rfl
         try simp only [Act.put, List.setIfInBounds_toArray, List.set_cons_zero, List.set_cons_succ]
         refine wpAnyH_take (i := 3) (oi := ⟨some 88, .move (.tmp 87), 4, "law.go:82", #[⟨2, .data⟩], none⟩) (v := ?_) rfl (by kernel_rfl) (by kernel_rfl) (by kernel_rfl) (fun _ _ _ h => h) (Or.inl ⟨by rfl, ?_⟩) hS ?_
         rotate_left
         · intro wv _; go_simp; try with_reducible rfl
         try simp only [Act.put, List.setIfInBounds_toArray, List.set_cons_zero, List.set_cons_succ]
         refine wpAnyH_take (i := 4) (oi := ⟨some 89, .fieldAddr 39 (.tmp 12) 4, 0, "law.go:82", #[⟨3, .guard⟩], some (3, true)⟩) (v := undef) rfl (by kernel_rfl) (by kernel_rfl) (by kernel_rfl) (fun _ _ _ h => h) (Or.inr ⟨by rfl, rfl⟩) hS ?_
         try simp only [Act.put, List.setIfInBounds_toArray, List.set_cons_zero, List.set_cons_succ]
         refine wpAnyH_take (i := 5) (oi := ⟨some 90, .load 35 (.tmp 89), 35, "law.go:82", #[⟨4, .data⟩, ⟨3, .guard⟩], some (3, true)⟩) (v := undef) rfl (by kernel_rfl) (by kernel_rfl) (by kernel_rfl) (fun _ _ _ h => h) (Or.inr ⟨by rfl, rfl⟩) hS ?_
         try simp only [Act.put, List.setIfInBounds_toArray, List.set_cons_zero, List.set_cons_succ]
         refine wpAnyH_take (i := 6) (oi := ⟨some 91, .binOp .eql 35 (.tmp 90) (.const (Value.int IntKind.i64 1)) 35, 4, "law.go:82", #[⟨5, .data⟩, ⟨3, .guard⟩], some (3, true)⟩) (v := undef) rfl (by kernel_rfl) (by kernel_rfl) (by kernel_rfl) (fun _ _ _ h => h) (Or.inr ⟨by rfl, rfl⟩) hS ?_
         try simp only [Act.put, List.setIfInBounds_toArray, List.set_cons_zero, List.set_cons_succ]
         refine wpAnyH_take (i := 7) (oi := ⟨some 92, .load 29 (.tmp 3), 29, "law.go:82", #[⟨3, .guard⟩], some (3, true)⟩) (v := undef) rfl (by kernel_rfl) (by kernel_rfl) (by kernel_rfl) (fun _ _ _ h => h) (Or.inr ⟨by rfl, rfl⟩) hS ?_
         try simp only [Act.put, List.setIfInBounds_toArray, List.set_cons_zero, List.set_cons_succ]
         refine wpAnyH_take (i := 8) (oi := ⟨some 93, .call { callee := .value (.func 14), args := #[.tmp 92], argTypes := #[29] }, 4, "law.go:82", #[⟨7, .data⟩, ⟨3, .chain⟩, ⟨3, .guard⟩], some (3, true)⟩) (v := undef) rfl (by kernel_rfl) (by kernel_rfl) (by kernel_rfl) (fun _ _ _ h => h) (Or.inr ⟨by rfl, rfl⟩) hS ?_
         try simp only [Act.put, List.setIfInBounds_toArray, List.set_cons_zero, List.set_cons_succ]
         refine wpAnyH_take (i := 9) (oi := ⟨some 94, .binOp .eql 4 (.tmp 91) (.tmp 93) 4, 4, "law.go:82", #[⟨6, .data⟩, ⟨8, .data⟩, ⟨3, .guard⟩], some (3, true)⟩) (v := undef) rfl (by kernel_rfl) (by kernel_rfl) (by kernel_rfl) (fun _ _ _ h => h) (Or.inr ⟨by rfl, rfl⟩) hS ?_
         try simp only [Act.put, List.setIfInBounds_toArray, List.set_cons_zero, List.set_cons_succ]
         refine wpAnyH_take (i := 10) (oi := ⟨some 95, .pick (.tmp 88) (.tmp 94) (.const (Value.bool false)), 4, "law.go:82", #[⟨3, .data⟩, ⟨9, .data⟩], none⟩) (v := ?_) rfl (by kernel_rfl) (by kernel_rfl) (by kernel_rfl) (fun _ _ _ h => h) (Or.inl ⟨by rfl, ?_⟩) hS ?_
         rotate_left
         · intro wv _; go_simp; try with_reducible rfl
         try simp only [Act.put, List.setIfInBounds_toArray, List.set_cons_zero, List.set_cons_succ]
         refine wpAnyH_take (i := 11) (oi := ⟨some 96, .move (.tmp 95), 4, "law.go:82", #[⟨10, .data⟩, ⟨8, .chain⟩], none⟩) (v := ?_) rfl (by kernel_rfl) (by kernel_rfl) (by kernel_rfl) (fun _ _ _ h => h) (Or.inl ⟨by rfl, ?_⟩) hS ?_
         rotate_left
         · intro wv _; go_simp; try with_reducible rfl
         try simp only [Act.put, List.setIfInBounds_toArray, List.set_cons_zero, List.set_cons_succ]
         refine wpAnyH_take (i := 12) (oi := ⟨some 97, .fieldAddr 39 (.tmp 12) 4, 0, "law.go:82", #[⟨11, .guard⟩], some (11, false)⟩) (v := ?_) rfl (by kernel_rfl) (by kernel_rfl) (by kernel_rfl) (fun _ _ _ h => h) (Or.inl ⟨by rfl, ?_⟩) hS ?_
         rotate_left
         · intro wv _; go_simp; try with_reducible rfl
         try simp only [Act.put, List.setIfInBounds_toArray, List.set_cons_zero, List.set_cons_succ]
         refine wpAnyH_take (i := 13) (oi := ⟨some 98, .load 35 (.tmp 97), 35, "law.go:82", #[⟨12, .data⟩, ⟨11, .guard⟩], some (11, false)⟩) (v := ?_) rfl (by kernel_rfl) (by kernel_rfl) (by kernel_rfl) (fun _ _ _ h => h) (Or.inl ⟨by rfl, ?_⟩) hS ?_
         rotate_left
         · intro wv hS; have hrun := (show wv.cell? ⟨sy + 2, 4, none⟩ = some (.int .i64 hft) from (blk_cell (blk_below Vb.out hS (blk_lt Vb.out)) 4).trans rfl); go_simp; try with_reducible rfl
         try simp only [Act.put, List.setIfInBounds_toArray, List.set_cons_zero, List.set_cons_succ]
         refine wpAnyH_take (i := 14) (oi := ⟨some 99, .binOp .neq 35 (.tmp 98) (.const (Value.int IntKind.i64 0)) 35, 4, "law.go:82", #[⟨13, .data⟩, ⟨11, .guard⟩], some (11, false)⟩) (v := ?_) rfl (by kernel_rfl) (by kernel_rfl) (by kernel_rfl) (fun _ _ _ h => h) (Or.inl ⟨by rfl, ?_⟩) hS ?_
         rotate_left
         · intro wv _; go_simp; try with_reducible rfl
         try simp only [Act.put, List.setIfInBounds_toArray, List.set_cons_zero, List.set_cons_succ]
         refine wpAnyH_take (i := 15) (oi := ⟨some 100, .move (.tmp 99), 4, "law.go:82", #[⟨14, .data⟩, ⟨11, .chain⟩, ⟨11, .guard⟩], some (11, false)⟩) (v := ?_) rfl (by kernel_rfl) (by kernel_rfl) (by kernel_rfl) (fun _ _ _ h => h) (Or.inl ⟨by rfl, ?_⟩) hS ?_
         rotate_left
         · intro wv _; go_simp; try with_reducible rfl
         try simp only [Act.put, List.setIfInBounds_toArray, List.set_cons_zero, List.set_cons_succ]
         refine wpAnyH_take (i := 16) (oi := ⟨some 101, .load 29 (.tmp 10), 29, "law.go:82", #[⟨15, .guard⟩], some (15, true)⟩) (v := undef) rfl (by kernel_rfl) (by kernel_rfl) (by kernel_rfl) (fun _ _ _ h => h) (Or.inr ⟨by rfl, rfl⟩) hS ?_
         try simp only [Act.put, List.setIfInBounds_toArray, List.set_cons_zero, List.set_cons_succ]
         refine wpAnyH_take (i := 17) (oi := ⟨some 102, .load 29 (.tmp 3), 29, "law.go:82", #[⟨15, .guard⟩], some (15, true)⟩) (v := undef) rfl (by kernel_rfl) (by kernel_rfl) (by kernel_rfl) (fun _ _ _ h => h) (Or.inr ⟨by rfl, rfl⟩) hS ?_
         try simp only [Act.put, List.setIfInBounds_toArray, List.set_cons_zero, List.set_cons_succ]
         refine wpAnyH_take (i := 18) (oi := ⟨some 103, .call { callee := .value (.func 12), args := #[.tmp 101, .tmp 102], argTypes := #[29, 29] }, 4, "law.go:82", #[⟨16, .data⟩, ⟨17, .data⟩, ⟨15, .chain⟩, ⟨15, .guard⟩], some (15, true)⟩) (v := undef) rfl (by kernel_rfl) (by kernel_rfl) (by kernel_rfl) (fun _ _ _ h => h) (Or.inr ⟨by rfl, rfl⟩) hS ?_
         try simp only [Act.put, List.setIfInBounds_toArray, List.set_cons_zero, List.set_cons_succ]
         refine wpAnyH_take (i := 19) (oi := ⟨some 104, .unOp .not 4 (.tmp 103), 4, "law.go:82", #[⟨18, .data⟩, ⟨15, .guard⟩], some (15, true)⟩) (v := undef) rfl (by kernel_rfl) (by kernel_rfl) (by kernel_rfl) (fun _ _ _ h => h) (Or.inr ⟨by rfl, rfl⟩) hS ?_
         try simp only [Act.put, List.setIfInBounds_toArray, List.set_cons_zero, List.set_cons_succ]
         refine wpAnyH_take (i := 20) (oi := ⟨some 105, .move (.tmp 104), 4, "law.go:82", #[⟨19, .data⟩, ⟨18, .chain⟩, ⟨15, .guard⟩], some (15, true)⟩) (v := undef) rfl (by kernel_rfl) (by kernel_rfl) (by kernel_rfl) (fun _ _ _ h => h) (Or.inr ⟨by rfl, rfl⟩) hS ?_
         try simp only [Act.put, List.setIfInBounds_toArray, List.set_cons_zero, List.set_cons_succ]
         refine wpAnyH_take (i := 21) (oi := ⟨some 106, .load 31 (.tmp 11), 31, "law.go:82", #[⟨20, .guard⟩], some (20, false)⟩) (v := undef) rfl (by kernel_rfl) (by kernel_rfl) (by kernel_rfl) (fun _ _ _ h => h) (Or.inr ⟨by rfl, rfl⟩) hS ?_
         try simp only [Act.put, List.setIfInBounds_toArray, List.set_cons_zero, List.set_cons_succ]
         refine wpAnyH_take (i := 22) (oi := ⟨some 107, .build 31 #[], 31, "law.go:82", #[⟨20, .guard⟩], some (20, false)⟩) (v := undef) rfl (by kernel_rfl) (by kernel_rfl) (by kernel_rfl) (fun _ _ _ h => h) (Or.inr ⟨by rfl, rfl⟩) hS ?_
         try simp only [Act.put, List.setIfInBounds_toArray, List.set_cons_zero, List.set_cons_succ]
         refine wpAnyH_take (i := 23) (oi := ⟨some 108, .binOp .neq 31 (.tmp 106) (.tmp 107) 31, 4, "law.go:82", #[⟨21, .data⟩, ⟨22, .data⟩, ⟨20, .guard⟩], some (20, false)⟩) (v := undef) rfl (by kernel_rfl) (by kernel_rfl) (by kernel_rfl) (fun _ _ _ h => h) (Or.inr ⟨by rfl, rfl⟩) hS ?_
         try simp only [Act.put, List.setIfInBounds_toArray, List.set_cons_zero, List.set_cons_succ]
         refine wpAnyH_take (i := 24) (oi := ⟨some 109, .pick (.tmp 105) (.const (Value.bool true)) (.tmp 108), 4, "law.go:82", #[⟨20, .data⟩, ⟨23, .data⟩, ⟨15, .guard⟩], some (15, true)⟩) (v := undef) rfl (by kernel_rfl) (by kernel_rfl) (by kernel_rfl) (fun _ _ _ h => h) (Or.inr ⟨by rfl, rfl⟩) hS ?_
         try simp only [Act.put, List.setIfInBounds_toArray, List.set_cons_zero, List.set_cons_succ]
         refine wpAnyH_take (i := 25) (oi := ⟨some 110, .pick (.tmp 100) (.tmp 109) (.const (Value.bool false)), 4, "law.go:82", #[⟨15, .data⟩, ⟨24, .data⟩, ⟨11, .guard⟩], some (11, false)⟩) (v := ?_) rfl (by kernel_rfl) (by kernel_rfl) (by kernel_rfl) (fun _ _ _ h => h) (Or.inl ⟨by rfl, ?_⟩) hS ?_
         rotate_left
         · intro wv _; go_simp; try with_reducible rfl
         try simp only [Act.put, List.setIfInBounds_toArray, List.set_cons_zero, List.set_cons_succ]
         refine wpAnyH_take (i := 26) (oi := ⟨some 111, .pick (.tmp 96) (.const (Value.bool true)) (.tmp 110), 4, "law.go:82", #[⟨11, .data⟩, ⟨25, .data⟩], none⟩) (v := ?_) rfl (by kernel_rfl) (by kernel_rfl) (by kernel_rfl) (fun _ _ _ h => h) (Or.inl ⟨by rfl, ?_⟩) hS ?_
         rotate_left
         · intro wv _; go_simp; try with_reducible rfl
         try simp only [Act.put, List.setIfInBounds_toArray, List.set_cons_zero, List.set_cons_succ]
         refine wpAnyH_done (by kernel_rfl) ?_ _
         refine NoPanic.normal ?_
         clear co0 co1 co2 co3 co4 co5 co6 co7 co8 co9 co10 cf0 cf1 cf2 cf3 cf4 cf5 cf6 cf7 cf8 cf9 cy0 cy1 cy2 cy3 cy4 cy5 cy6 cy7 cy8 cy9 cy10 ch0 ch1 ch2 ch3 ch4 ch5 ch6 ch7 ch8 ch9 cb0 cb1 cb2 cb3 cb4 cb5 cb6
         have hb := hS
         replace Vo := Lib.hid (blk_below Vo.out hb (blk_lt Vo.out))
         replace Vf := Lib.hid (blk_below Vf.out hb (blk_lt Vf.out))
         replace Vt := Lib.hid (blk_below Vt.out hb (blk_lt Vt.out))
         replace Vx := Lib.hid (blk_below Vx.out hb (blk_lt Vx.out))
         replace Vg := Lib.hid (blk_below Vg.out hb (blk_lt Vg.out))
         replace Va := Lib.hid (blk_below Va.out hb (blk_lt Va.out))
         replace Vy := Lib.hid (blk_below Vy.out hb (blk_lt Vy.out))
         replace Vh := Lib.hid (blk_below Vh.out hb (blk_lt Vh.out))
         replace Vb := Lib.hid (blk_below Vb.out hb (blk_lt Vb.out))
         replace ON2 := Lib.hid (own_below ON2.out hb)
         replace OL2 := Lib.hid (own_below OL2.out hb)
         replace ON3 := Lib.hid (own_below ON3.out hb)
         replace OL3 := Lib.hid (own_below OL3.out hb)
         replace HB := Lib.hid (And.intro (HB.out.1.trans (hb.mono HB.out.2)) (Nat.le_trans HB.out.2 hb.size))
         clear hb hS
         clear Vf
         clear Vt
         clear Vg
         clear Va
         clear Vh
         clear Vb
         go_wp2
         refine wp_region_noPanic ?_
         refine wp_region_held_drew (S := (fun wv => Below w7.drew.heap.size w7.drew wv)) (by kernel_rfl) ((Below.refl w7.drew.heap.size w7.drew).drew) (fun hS => ?_)
         refine wpAnyH_take (i := 0) (oi := ⟨some 112, .load 29 (.tmp 7), 29, "law.go:86", #[], none⟩) (v := .agg (([.int .i64 kd, .int .i64 z, .int .i64 o1, .int .i64 o2, .int .i64 o3, .int .i64 o4, .int .i64 o5, .int .u32 wa, .int .u32 to, .slice A2 n c2, .slice B2 m d2] : List Value)).toArray) rfl (by kernel_rfl) (by kernel_rfl) (by kernel_rfl) (fun _ _ _ h => h) (yieldsIf_load_mid (by rfl) _ _ (by rfl) (sx) (0) (by rfl) (([.int .i64 kd, .int .i64 z, .int .i64 o1, .int .i64 o2, .int .i64 o3, .int .i64 o4, .int .i64 o5, .int .u32 wa, .int .u32 to, .slice A2 n c2, .slice B2 m d2] : List Value)) _ (fun wv hS => blk_rngl (blk_below Vx.out hS (blk_lt Vx.out))) Try.underlying29 (by rfl) (by kernel_rfl)) hS ?_
         try simp only [Act.put, List.setIfInBounds_toArray, List.set_cons_zero, List.set_cons_succ]
         refine wpAnyH_take (i := 1) (oi := ⟨some 113, .load 29 (.tmp 10), 29, "law.go:86", #[⟨4, .gcOnly .lateStores⟩], none⟩) (v := .agg (([.int .i64 kd, .int .i64 y, .int .i64 o1, .int .i64 o2, .int .i64 o3, .int .i64 o4, .int .i64 o5, .int .u32 wa, .int .u32 to, .slice A3 n c3, .slice B3 m d3] : List Value)).toArray) rfl (by kernel_rfl) (by kernel_rfl) (by kernel_rfl) (fun _ _ _ h => h) (yieldsIf_load_mid (by rfl) _ _ (by rfl) (sy) (0) (by rfl) (([.int .i64 kd, .int .i64 y, .int .i64 o1, .int .i64 o2, .int .i64 o3, .int .i64 o4, .int .i64 o5, .int .u32 wa, .int .u32 to, .slice A3 n c3, .slice B3 m d3] : List Value)) _ (fun wv hS => blk_rngl (blk_below Vy.out hS (blk_lt Vy.out))) Try.underlying29 (by rfl) (by kernel_rfl)) hS ?_
         try simp only [Act.put, List.setIfInBounds_toArray, List.set_cons_zero, List.set_cons_succ]
         refine inv_region (fun a0 fu listed a u => ∃ (xq0 xq1 : Bool) (p13 p14 : Value) (sp sq : Nat), listed = #[true, true, xq0, xq1, false, false] ∧ a = ⟨((a0.tmps.setIfInBounds 13 p13).setIfInBounds 14 p14), a0.defers⟩ ∧ (bif xq0 then 0 else 1) + (bif xq1 then 0 else 1) + 2 ≤ fu ∧ Below w7.drew.heap.size w7.drew u ∧ (xq0 = true → p13 = .pointer (some ⟨sp, 0, none⟩) ∧ w7.drew.heap.size ≤ sp ∧ u.heap[sp]? = some (.cells #[.int .i64 0, .int .i64 0, .int .i64 0, .int .i64 0, .int .i64 0, .int .i64 0, .int .i64 0, .int .u32 0, .int .u32 0, .slice none 0 0, .slice none 0 0] 29)) ∧ (xq1 = true → p14 = .pointer (some ⟨sq, 0, none⟩) ∧ w7.drew.heap.size ≤ sq ∧ u.heap[sq]? = some (.cells #[.int .i64 0, .int .i64 0, .int .i64 0, .int .i64 0, .int .i64 0, .int .i64 0, .int .i64 0, .int .u32 0, .int .u32 0, .slice none 0 0, .slice none 0 0] 29)) ∧ (xq0 = true → xq1 = true → sp ≠ sq)) ⟨false, false, undef, undef, 0, 0, rfl, (by first | (simp only [List.setIfInBounds_toArray, List.set_cons_zero, List.set_cons_succ]; done) | rfl), (by show _ + _ ≤ _; decide), hS, (fun h => nomatch h), (fun h => nomatch h), (fun h => nomatch h)⟩ ?_
         clear hS; rintro fu listed a u ⟨xq0, xq1, p13, p14, sp, sq, rfl, rfl, hn, hS, ksp, ksq, d0⟩ IH
         try simp only [List.setIfInBounds_toArray, List.set_cons_zero, List.set_cons_succ]
         by_cases hall : (xq0 && (xq1)) = true
         rotate_left
         · have hbad : ((xq0 && (xq1))) = false := inv_not hall
           obtain ⟨fu, rfl⟩ : ∃ m, fu = m + 1 := ⟨fu - 1, by omega⟩
           refine inv_step (bad := ((xq0 && (xq1)))) (fun i => ((i == 2 && !xq0) || ((i == 3 && !xq1)))) ((show ∀ xq0 xq1 : Bool, (((xq0 && (xq1))) || (!(Region.ready _ _ #[true, true, xq0, xq1, false, false]).isEmpty && (Region.ready _ _ #[true, true, xq0, xq1, false, false]).all (fun i => ((i == 2 && !xq0) || ((i == 3 && !xq1)))))) = true from by intro xq0 xq1; cases xq0 <;> cases xq1 <;> kernel_rfl) xq0 xq1) hbad (fun i hi => ?_)
           simp only [Bool.or_eq_true, Bool.and_eq_true, beq_iff_eq, Bool.not_eq_true'] at hi
           clear hall hbad
           rcases hi with ⟨rfl, rfl⟩ | ⟨rfl, rfl⟩
           · skip
             refine inv_arm (o := ⟨some 13, .alloc 29, 0, "law.go:86", #[], none⟩) rfl (fun K hK => ?_)
             go_simp
             have zs := hS.size
             have hb := (Below.refl u.heap.size u).alloc (Nat.le_refl _) (.cells #[.int .i64 0, .int .i64 0, .int .i64 0, .int .i64 0, .int .i64 0, .int .i64 0, .int .i64 0, .int .u32 0, .int .u32 0, .slice none 0 0, .slice none 0 0] 29)
             replace hS := hS.trans (hb.mono hS.size)
             refine Shut.out hK _ _ hS (fun _ => ?_)
             clear hK K
             try simp only [Act.put, List.setIfInBounds_toArray, List.set_cons_zero, List.set_cons_succ]
             exact IH _ _ _ _ (by omega) ⟨true, xq1, _, p14, u.heap.size, sq, rfl, (by (try simp only [List.setIfInBounds_toArray, List.set_cons_zero, List.set_cons_succ]); try rfl), (by simp only [cond_true, cond_false] at hn ⊢; omega), hS, (fun _ => ⟨rfl, zs, heap_alloc_new _ _⟩), (fun h => ⟨(ksq h).1, (ksq h).2.1, blk_below (ksq h).2.2 hb (blk_lt (ksq h).2.2)⟩), (fun _ h e => absurd (e ▸ blk_lt (ksq h).2.2) (Nat.lt_irrefl _))⟩
           · skip
             refine inv_arm (o := ⟨some 14, .alloc 29, 0, "law.go:86", #[], none⟩) rfl (fun K hK => ?_)
             go_simp
             have zs := hS.size
             have hb := (Below.refl u.heap.size u).alloc (Nat.le_refl _) (.cells #[.int .i64 0, .int .i64 0, .int .i64 0, .int .i64 0, .int .i64 0, .int .i64 0, .int .i64 0, .int .u32 0, .int .u32 0, .slice none 0 0, .slice none 0 0] 29)
             replace hS := hS.trans (hb.mono hS.size)
             refine Shut.out hK _ _ hS (fun _ => ?_)
             clear hK K
             try simp only [Act.put, List.setIfInBounds_toArray, List.set_cons_zero, List.set_cons_succ]
             exact IH _ _ _ _ (by omega) ⟨xq0, true, p13, _, sp, u.heap.size, rfl, (by (try simp only [List.setIfInBounds_toArray, List.set_cons_zero, List.set_cons_succ]); try rfl), (by simp only [cond_true, cond_false] at hn ⊢; omega), hS, (fun h => ⟨(ksp h).1, (ksp h).2.1, blk_below (ksp h).2.2 hb (blk_lt (ksp h).2.2)⟩), (fun _ => ⟨rfl, zs, heap_alloc_new _ _⟩), (fun h _ e => absurd (e ▸ blk_lt (ksp h).2.2) (Nat.lt_irrefl _))⟩
         simp only [Bool.and_eq_true] at hall
         obtain ⟨rfl, rfl⟩ := hall
         obtain ⟨rfl, gsp, Vsp⟩ := ksp rfl
         obtain ⟨rfl, gsq, Vsq⟩ := ksq rfl
         replace d0 := d0 rfl rfl
         obtain ⟨fu, rfl⟩ : ∃ m, fu = m + 2 := ⟨fu - 2, by simp only [cond_true] at hn; omega⟩
         clear IH hn 
         have neo_p := Nat.ne_of_lt (Nat.lt_of_lt_of_le (blk_lt Vo.out) gsp)
         have nex_p := Nat.ne_of_lt (Nat.lt_of_lt_of_le (blk_lt Vx.out) gsp)
         have ney_p := Nat.ne_of_lt (Nat.lt_of_lt_of_le (blk_lt Vy.out) gsp)
         have neo_q := Nat.ne_of_lt (Nat.lt_of_lt_of_le (blk_lt Vo.out) gsq)
         have nex_q := Nat.ne_of_lt (Nat.lt_of_lt_of_le (blk_lt Vx.out) gsq)
         have ney_q := Nat.ne_of_lt (Nat.lt_of_lt_of_le (blk_lt Vy.out) gsq)
         have nep_q : sp ≠ sq := d0
         have gep := Nat.le_trans HB.out.2 gsp
         have geq := Nat.le_trans HB.out.2 gsq
         replace Vo := Lib.hid (blk_below Vo.out hS (blk_lt Vo.out))
         replace Vx := Lib.hid (blk_below Vx.out hS (blk_lt Vx.out))
         replace Vy := Lib.hid (blk_below Vy.out hS (blk_lt Vy.out))
         replace ON2 := Lib.hid (own_below ON2.out hS)
         replace OL2 := Lib.hid (own_below OL2.out hS)
         replace ON3 := Lib.hid (own_below ON3.out hS)
         replace OL3 := Lib.hid (own_below OL3.out hS)
         replace HB := Lib.hid (And.intro (HB.out.1.trans (hS.mono HB.out.2)) (Nat.le_trans HB.out.2 hS.size))
         have Vp := Lib.hid Vsp
         clear Vsp
         have Vq := Lib.hid Vsq
         clear Vsq
         obtain ⟨w8, hw8⟩ : ∃ W, u.setCells (sp) 0 [.int .i64 kd, .int .i64 z, .int .i64 o1, .int .i64 o2, .int .i64 o3, .int .i64 o4, .int .i64 o5, .int .u32 wa, .int .u32 to, .slice A2 n c2, .slice B2 m d2] = W := ⟨_, rfl⟩
         have Vo2 := (hw8 ▸ heap_setCells_ne neo_p [.int .i64 kd, .int .i64 z, .int .i64 o1, .int .i64 o2, .int .i64 o3, .int .i64 o4, .int .i64 o5, .int .u32 wa, .int .u32 to, .slice A2 n c2, .slice B2 m d2] 0 u : w8.heap[w.heap.size]? = _).trans Vo.out
         have Vx2 := (hw8 ▸ heap_setCells_ne nex_p [.int .i64 kd, .int .i64 z, .int .i64 o1, .int .i64 o2, .int .i64 o3, .int .i64 o4, .int .i64 o5, .int .u32 wa, .int .u32 to, .slice A2 n c2, .slice B2 m d2] 0 u : w8.heap[sx]? = _).trans Vx.out
         have Vy2 := (hw8 ▸ heap_setCells_ne ney_p [.int .i64 kd, .int .i64 z, .int .i64 o1, .int .i64 o2, .int .i64 o3, .int .i64 o4, .int .i64 o5, .int .u32 wa, .int .u32 to, .slice A2 n c2, .slice B2 m d2] 0 u : w8.heap[sy]? = _).trans Vy.out
         have Vq2 := (hw8 ▸ heap_setCells_ne nep_q.symm [.int .i64 kd, .int .i64 z, .int .i64 o1, .int .i64 o2, .int .i64 o3, .int .i64 o4, .int .i64 o5, .int .u32 wa, .int .u32 to, .slice A2 n c2, .slice B2 m d2] 0 u : w8.heap[sq]? = _).trans Vq.out
         have Vp2 : w8.heap[sp]? = some (.cells #[.int .i64 kd, .int .i64 z, .int .i64 o1, .int .i64 o2, .int .i64 o3, .int .i64 o4, .int .i64 o5, .int .u32 wa, .int .u32 to, .slice A2 n c2, .slice B2 m d2] 29) := hw8 ▸ heap_setCells [.int .i64 kd, .int .i64 z, .int .i64 o1, .int .i64 o2, .int .i64 o3, .int .i64 o4, .int .i64 o5, .int .u32 wa, .int .u32 to, .slice A2 n c2, .slice B2 m d2] u [] [.int .i64 0, .int .i64 0, .int .i64 0, .int .i64 0, .int .i64 0, .int .i64 0, .int .i64 0, .int .u32 0, .int .u32 0, .slice none 0 0, .slice none 0 0] rfl Vp.out
         have hbb : Below _ _ w8 := hw8 ▸ below_setCells gep [.int .i64 kd, .int .i64 z, .int .i64 o1, .int .i64 o2, .int .i64 o3, .int .i64 o4, .int .i64 o5, .int .u32 wa, .int .u32 to, .slice A2 n c2, .slice B2 m d2] 0 u HB.out.1
         have hbs : w8.heap.size = u.heap.size := by rw [← hw8, size_setCells]
         have thp := Lib.hid (there_blk Vp.out (k := 11) rfl)
         replace ON2 := Lib.hid (hw8 ▸ own_setCells (by decide) [.int .i64 kd, .int .i64 z, .int .i64 o1, .int .i64 o2, .int .i64 o3, .int .i64 o4, .int .i64 o5, .int .u32 wa, .int .u32 to, .slice A2 n c2, .slice B2 m d2] 0 ON2.out Vp.out)
         replace OL2 := Lib.hid (hw8 ▸ own_setCells (by decide) [.int .i64 kd, .int .i64 z, .int .i64 o1, .int .i64 o2, .int .i64 o3, .int .i64 o4, .int .i64 o5, .int .u32 wa, .int .u32 to, .slice A2 n c2, .slice B2 m d2] 0 OL2.out Vp.out)
         replace ON3 := Lib.hid (hw8 ▸ own_setCells (by decide) [.int .i64 kd, .int .i64 z, .int .i64 o1, .int .i64 o2, .int .i64 o3, .int .i64 o4, .int .i64 o5, .int .u32 wa, .int .u32 to, .slice A2 n c2, .slice B2 m d2] 0 ON3.out Vp.out)
         replace OL3 := Lib.hid (hw8 ▸ own_setCells (by decide) [.int .i64 kd, .int .i64 z, .int .i64 o1, .int .i64 o2, .int .i64 o3, .int .i64 o4, .int .i64 o5, .int .u32 wa, .int .u32 to, .slice A2 n c2, .slice B2 m d2] 0 OL3.out Vp.out)
         replace Vo := Lib.hid Vo2
         clear Vo2
         replace Vx := Lib.hid Vx2
         clear Vx2
         replace Vy := Lib.hid Vy2
         clear Vy2
         replace Vp := Lib.hid Vp2
         clear Vp2
         replace Vq := Lib.hid Vq2
         clear Vq2
         replace HB := Lib.hid (And.intro hbb (show _ ≤ w8.heap.size by rw [hbs]; exact HB.out.2))
         clear hbb hbs
         refine wpAnyH_ready (rs := [4]) (by kernel_rfl) (by simp) (AllReadyH.cons (o := ⟨none, .store 29 (.tmp 13) (.tmp 112), 0, "law.go:86", #[⟨2, .data⟩, ⟨0, .data⟩, ⟨0, .phase⟩, ⟨1, .textOnly .lateStores⟩, ⟨2, .phase⟩, ⟨3, .phase⟩], none⟩) rfl (fun K hK => ?_) AllReadyH.nil)
         refine op_storeS (by rfl) rfl rfl rfl thp.out (by kernel_rfl) (by simp [Value.oneCell']) hw8 ?_
         replace hS := hw8 ▸ below_setCells gsp [.int .i64 kd, .int .i64 z, .int .i64 o1, .int .i64 o2, .int .i64 o3, .int .i64 o4, .int .i64 o5, .int .u32 wa, .int .u32 to, .slice A2 n c2, .slice B2 m d2] 0 _ hS
         obtain ⟨w9, hw9⟩ : ∃ W, w8.setCells (sq) 0 [.int .i64 kd, .int .i64 y, .int .i64 o1, .int .i64 o2, .int .i64 o3, .int .i64 o4, .int .i64 o5, .int .u32 wa, .int .u32 to, .slice A3 n c3, .slice B3 m d3] = W := ⟨_, rfl⟩
         have Vo2 := (hw9 ▸ heap_setCells_ne neo_q [.int .i64 kd, .int .i64 y, .int .i64 o1, .int .i64 o2, .int .i64 o3, .int .i64 o4, .int .i64 o5, .int .u32 wa, .int .u32 to, .slice A3 n c3, .slice B3 m d3] 0 w8 : w9.heap[w.heap.size]? = _).trans Vo.out
         have Vx2 := (hw9 ▸ heap_setCells_ne nex_q [.int .i64 kd, .int .i64 y, .int .i64 o1, .int .i64 o2, .int .i64 o3, .int .i64 o4, .int .i64 o5, .int .u32 wa, .int .u32 to, .slice A3 n c3, .slice B3 m d3] 0 w8 : w9.heap[sx]? = _).trans Vx.out
         have Vy2 := (hw9 ▸ heap_setCells_ne ney_q [.int .i64 kd, .int .i64 y, .int .i64 o1, .int .i64 o2, .int .i64 o3, .int .i64 o4, .int .i64 o5, .int .u32 wa, .int .u32 to, .slice A3 n c3, .slice B3 m d3] 0 w8 : w9.heap[sy]? = _).trans Vy.out
         have Vp2 := (hw9 ▸ heap_setCells_ne nep_q [.int .i64 kd, .int .i64 y, .int .i64 o1, .int .i64 o2, .int .i64 o3, .int .i64 o4, .int .i64 o5, .int .u32 wa, .int .u32 to, .slice A3 n c3, .slice B3 m d3] 0 w8 : w9.heap[sp]? = _).trans Vp.out
         have Vq2 : w9.heap[sq]? = some (.cells #[.int .i64 kd, .int .i64 y, .int .i64 o1, .int .i64 o2, .int .i64 o3, .int .i64 o4, .int .i64 o5, .int .u32 wa, .int .u32 to, .slice A3 n c3, .slice B3 m d3] 29) := hw9 ▸ heap_setCells [.int .i64 kd, .int .i64 y, .int .i64 o1, .int .i64 o2, .int .i64 o3, .int .i64 o4, .int .i64 o5, .int .u32 wa, .int .u32 to, .slice A3 n c3, .slice B3 m d3] w8 [] [.int .i64 0, .int .i64 0, .int .i64 0, .int .i64 0, .int .i64 0, .int .i64 0, .int .i64 0, .int .u32 0, .int .u32 0, .slice none 0 0, .slice none 0 0] rfl Vq.out
         have hbb : Below _ _ w9 := hw9 ▸ below_setCells geq [.int .i64 kd, .int .i64 y, .int .i64 o1, .int .i64 o2, .int .i64 o3, .int .i64 o4, .int .i64 o5, .int .u32 wa, .int .u32 to, .slice A3 n c3, .slice B3 m d3] 0 w8 HB.out.1
         have hbs : w9.heap.size = w8.heap.size := by rw [← hw9, size_setCells]
         have thq := Lib.hid (there_blk Vq.out (k := 11) rfl)
         replace ON2 := Lib.hid (hw9 ▸ own_setCells (by decide) [.int .i64 kd, .int .i64 y, .int .i64 o1, .int .i64 o2, .int .i64 o3, .int .i64 o4, .int .i64 o5, .int .u32 wa, .int .u32 to, .slice A3 n c3, .slice B3 m d3] 0 ON2.out Vq.out)
         replace OL2 := Lib.hid (hw9 ▸ own_setCells (by decide) [.int .i64 kd, .int .i64 y, .int .i64 o1, .int .i64 o2, .int .i64 o3, .int .i64 o4, .int .i64 o5, .int .u32 wa, .int .u32 to, .slice A3 n c3, .slice B3 m d3] 0 OL2.out Vq.out)
         replace ON3 := Lib.hid (hw9 ▸ own_setCells (by decide) [.int .i64 kd, .int .i64 y, .int .i64 o1, .int .i64 o2, .int .i64 o3, .int .i64 o4, .int .i64 o5, .int .u32 wa, .int .u32 to, .slice A3 n c3, .slice B3 m d3] 0 ON3.out Vq.out)
         replace OL3 := Lib.hid (hw9 ▸ own_setCells (by decide) [.int .i64 kd, .int .i64 y, .int .i64 o1, .int .i64 o2, .int .i64 o3, .int .i64 o4, .int .i64 o5, .int .u32 wa, .int .u32 to, .slice A3 n c3, .slice B3 m d3] 0 OL3.out Vq.out)
         replace Vo := Lib.hid Vo2
         clear Vo2
         replace Vx := Lib.hid Vx2
         clear Vx2
         replace Vy := Lib.hid Vy2
         clear Vy2
         replace Vp := Lib.hid Vp2
         clear Vp2
         replace Vq := Lib.hid Vq2
         clear Vq2
         replace HB := Lib.hid (And.intro hbb (show _ ≤ w9.heap.size by rw [hbs]; exact HB.out.2))
         clear hbb hbs
         refine Shut.out hK _ _ hS (fun _ => ?_)
         clear hK K
         try simp only [Act.put, List.setIfInBounds_toArray, List.set_cons_zero, List.set_cons_succ]
         refine wpAnyH_ready (rs := [5]) (by kernel_rfl) (by simp) (AllReadyH.cons (o := ⟨none, .store 29 (.tmp 14) (.tmp 113), 0, "law.go:86", #[⟨3, .data⟩, ⟨1, .data⟩, ⟨4, .chain⟩, ⟨0, .phase⟩, ⟨1, .phase⟩, ⟨2, .phase⟩, ⟨3, .phase⟩, ⟨4, .phase⟩], none⟩) rfl (fun K hK => ?_) AllReadyH.nil)
         refine op_storeS (by rfl) rfl rfl rfl thq.out (by kernel_rfl) (by simp [Value.oneCell']) hw9 ?_
         replace hS := hw9 ▸ below_setCells gsq [.int .i64 kd, .int .i64 y, .int .i64 o1, .int .i64 o2, .int .i64 o3, .int .i64 o4, .int .i64 o5, .int .u32 wa, .int .u32 to, .slice A3 n c3, .slice B3 m d3] 0 _ hS
         refine Shut.out hK _ _ hS (fun _ => ?_)
         clear hK K
         try simp only [Act.put, List.setIfInBounds_toArray, List.set_cons_zero, List.set_cons_succ]
         refine wpAnyH_done (by kernel_rfl) ?_ _
         refine NoPanic.normal ?_
         clear hS gsp gsq thp thq
         go_wp2
         obtain ⟨we, hwe⟩ : ∃ W, (w9).drew = W := ⟨_, rfl⟩
         have hb : Below (w9).heap.size (w9) we := hwe ▸ (Below.refl _ _).drew
         replace Vo := Lib.hid (blk_below Vo.out hb (blk_lt Vo.out))
         replace Vx := Lib.hid (blk_below Vx.out hb (blk_lt Vx.out))
         replace Vy := Lib.hid (blk_below Vy.out hb (blk_lt Vy.out))
         replace Vp := Lib.hid (blk_below Vp.out hb (blk_lt Vp.out))
         replace Vq := Lib.hid (blk_below Vq.out hb (blk_lt Vq.out))
         replace ON2 := Lib.hid (own_below ON2.out hb)
         replace OL2 := Lib.hid (own_below OL2.out hb)
         replace ON3 := Lib.hid (own_below ON3.out hb)
         replace OL3 := Lib.hid (own_below OL3.out hb)
         replace HB := Lib.hid (And.intro (HB.out.1.trans (hb.mono HB.out.2)) (Nat.le_trans HB.out.2 hb.size))
         clear hb
         have C0 : we.cell? ⟨w.heap.size, 1, none⟩ = some (.int .i64 o0) := (blk_cell Vo.out 1).trans rfl
         have kp : we.cell? ⟨sp, 1, none⟩ = some (.int .i64 z) := (blk_cell Vp.out 1).trans rfl
         have zp : we.frozen? ⟨sp, 1, none⟩ = false := blk_frozen Vp.out 1
         obtain ⟨w10, hw10⟩ : ∃ W, we.setCell ⟨sp, 1, none⟩ (.int .i64 o0) = W := ⟨_, rfl⟩
         have Vo2 : w10.heap[w.heap.size]? = some (.cells #[.int .i64 kd, .int .i64 o0, .int .i64 o1, .int .i64 o2, .int .i64 o3, .int .i64 o4, .int .i64 o5, .int .u32 wa, .int .u32 to, .slice A n c, .slice B m d] 29) := hw10 ▸ (Below.heap_setCell _ ⟨sp, 1, none⟩ (.int .i64 o0) (w.heap.size) neo_p).trans Vo.out
         have Vx2 : w10.heap[sx]? = some (.cells #[.int .i64 kd, .int .i64 z, .int .i64 o1, .int .i64 o2, .int .i64 o3, .int .i64 o4, .int .i64 o5, .int .u32 wa, .int .u32 to, .slice A2 n c2, .slice B2 m d2] 29) := hw10 ▸ (Below.heap_setCell _ ⟨sp, 1, none⟩ (.int .i64 o0) (sx) nex_p).trans Vx.out
         have Vy2 : w10.heap[sy]? = some (.cells #[.int .i64 kd, .int .i64 y, .int .i64 o1, .int .i64 o2, .int .i64 o3, .int .i64 o4, .int .i64 o5, .int .u32 wa, .int .u32 to, .slice A3 n c3, .slice B3 m d3] 29) := hw10 ▸ (Below.heap_setCell _ ⟨sp, 1, none⟩ (.int .i64 o0) (sy) ney_p).trans Vy.out
         have Vq2 : w10.heap[sq]? = some (.cells #[.int .i64 kd, .int .i64 y, .int .i64 o1, .int .i64 o2, .int .i64 o3, .int .i64 o4, .int .i64 o5, .int .u32 wa, .int .u32 to, .slice A3 n c3, .slice B3 m d3] 29) := hw10 ▸ (Below.heap_setCell _ ⟨sp, 1, none⟩ (.int .i64 o0) (sq) nep_q.symm).trans Vq.out
         replace ON2 := Lib.hid (hw10 ▸ own_set (o := 1) (u := .int .i64 o0) ON2.out Vp.out (by decide))
         replace OL2 := Lib.hid (hw10 ▸ own_set (o := 1) (u := .int .i64 o0) OL2.out Vp.out (by decide))
         replace ON3 := Lib.hid (hw10 ▸ own_set (o := 1) (u := .int .i64 o0) ON3.out Vp.out (by decide))
         replace OL3 := Lib.hid (hw10 ▸ own_set (o := 1) (u := .int .i64 o0) OL3.out Vp.out (by decide))
         have Vp2 : w10.heap[sp]? = some (.cells #[.int .i64 kd, .int .i64 o0, .int .i64 o1, .int .i64 o2, .int .i64 o3, .int .i64 o4, .int .i64 o5, .int .u32 wa, .int .u32 to, .slice A2 n c2, .slice B2 m d2] 29) := hw10 ▸ blk_set (j := 1) Vp.out (.int .i64 o0)
         have hbb : Below _ _ w10 := hw10 ▸ HB.out.1.setCell (p := ⟨sp, 1, none⟩) gep _
         have hbs : w10.heap.size = we.heap.size := by rw [← hw10]; simp [World.setCell]
         replace Vo := Lib.hid Vo2
         clear Vo2
         replace Vx := Lib.hid Vx2
         clear Vx2
         replace Vy := Lib.hid Vy2
         clear Vy2
         replace Vp := Lib.hid Vp2
         clear Vp2
         replace Vq := Lib.hid Vq2
         clear Vq2
         replace HB := Lib.hid (And.intro hbb (show _ ≤ w10.heap.size by rw [hbs]; exact HB.out.2))
         clear hbb hbs
         have C1 : w10.cell? ⟨w.heap.size, 1, none⟩ = some (.int .i64 o0) := (blk_cell Vo.out 1).trans rfl
         have kq : w10.cell? ⟨sq, 1, none⟩ = some (.int .i64 y) := (blk_cell Vq.out 1).trans rfl
         have zq : w10.frozen? ⟨sq, 1, none⟩ = false := blk_frozen Vq.out 1
         obtain ⟨w11, hw11⟩ : ∃ W, w10.setCell ⟨sq, 1, none⟩ (.int .i64 o0) = W := ⟨_, rfl⟩
         have Vo2 : w11.heap[w.heap.size]? = some (.cells #[.int .i64 kd, .int .i64 o0, .int .i64 o1, .int .i64 o2, .int .i64 o3, .int .i64 o4, .int .i64 o5, .int .u32 wa, .int .u32 to, .slice A n c, .slice B m d] 29) := hw11 ▸ (Below.heap_setCell _ ⟨sq, 1, none⟩ (.int .i64 o0) (w.heap.size) neo_q).trans Vo.out
         have Vx2 : w11.heap[sx]? = some (.cells #[.int .i64 kd, .int .i64 z, .int .i64 o1, .int .i64 o2, .int .i64 o3, .int .i64 o4, .int .i64 o5, .int .u32 wa, .int .u32 to, .slice A2 n c2, .slice B2 m d2] 29) := hw11 ▸ (Below.heap_setCell _ ⟨sq, 1, none⟩ (.int .i64 o0) (sx) nex_q).trans Vx.out
         have Vy2 : w11.heap[sy]? = some (.cells #[.int .i64 kd, .int .i64 y, .int .i64 o1, .int .i64 o2, .int .i64 o3, .int .i64 o4, .int .i64 o5, .int .u32 wa, .int .u32 to, .slice A3 n c3, .slice B3 m d3] 29) := hw11 ▸ (Below.heap_setCell _ ⟨sq, 1, none⟩ (.int .i64 o0) (sy) ney_q).trans Vy.out
         have Vp2 : w11.heap[sp]? = some (.cells #[.int .i64 kd, .int .i64 o0, .int .i64 o1, .int .i64 o2, .int .i64 o3, .int .i64 o4, .int .i64 o5, .int .u32 wa, .int .u32 to, .slice A2 n c2, .slice B2 m d2] 29) := hw11 ▸ (Below.heap_setCell _ ⟨sq, 1, none⟩ (.int .i64 o0) (sp) nep_q).trans Vp.out
         replace ON2 := Lib.hid (hw11 ▸ own_set (o := 1) (u := .int .i64 o0) ON2.out Vq.out (by decide))
         replace OL2 := Lib.hid (hw11 ▸ own_set (o := 1) (u := .int .i64 o0) OL2.out Vq.out (by decide))
         replace ON3 := Lib.hid (hw11 ▸ own_set (o := 1) (u := .int .i64 o0) ON3.out Vq.out (by decide))
         replace OL3 := Lib.hid (hw11 ▸ own_set (o := 1) (u := .int .i64 o0) OL3.out Vq.out (by decide))
         have Vq2 : w11.heap[sq]? = some (.cells #[.int .i64 kd, .int .i64 o0, .int .i64 o1, .int .i64 o2, .int .i64 o3, .int .i64 o4, .int .i64 o5, .int .u32 wa, .int .u32 to, .slice A3 n c3, .slice B3 m d3] 29) := hw11 ▸ blk_set (j := 1) Vq.out (.int .i64 o0)
         have hbb : Below _ _ w11 := hw11 ▸ HB.out.1.setCell (p := ⟨sq, 1, none⟩) geq _
         have hbs : w11.heap.size = w10.heap.size := by rw [← hw11]; simp [World.setCell]
         replace Vo := Lib.hid Vo2
         clear Vo2
         replace Vx := Lib.hid Vx2
         clear Vx2
         replace Vy := Lib.hid Vy2
         clear Vy2
         replace Vp := Lib.hid Vp2
         clear Vp2
         replace Vq := Lib.hid Vq2
         clear Vq2
         replace HB := Lib.hid (And.intro hbb (show _ ≤ w11.heap.size by rw [hbs]; exact HB.out.2))
         clear hbb hbs
         have C2 : w11.cell? ⟨w.heap.size, 1, none⟩ = some (.int .i64 o0) := (blk_cell Vo.out 1).trans rfl
         refine wp_region_noPanic ?_
         refine wp_region_held_drew (S := (fun wv => Hid (wv.cell? ⟨w.heap.size, 1, none⟩ = some (.int .i64 o0)))) (by kernel_rfl) ((by rw [hwe]; exact Lib.hid C0)) (fun hS => ?_)
         rw [hwe] at hS ⊢
         refine wpAnyH_take (i := 0) (oi := ⟨some 114, .fieldAddr 29 (.tmp 3) 1, 0, "law.go:87", #[], none⟩) (v := ?_) rfl (by kernel_rfl) (by kernel_rfl) (by kernel_rfl) (fun _ _ _ h => h) (Or.inl ⟨by rfl, ?_⟩) hS ?_
         rotate_left
         · intro wv _; go_simp; try with_reducible rfl
         try simp only [Act.put, List.setIfInBounds_toArray, List.set_cons_zero, List.set_cons_succ]
         refine wpAnyH_take (i := 1) (oi := ⟨some 115, .indexAddr 22 (.tmp 114) (.const (Value.int IntKind.i64 0)), 0, "law.go:87", #[⟨0, .data⟩], none⟩) (v := ?_) rfl (by kernel_rfl) (by kernel_rfl) (by kernel_rfl) (fun _ _ _ h => h) (Or.inl ⟨by rfl, ?_⟩) hS ?_
         rotate_left
         · intro wv _; go_simp; try with_reducible rfl
         try simp only [Act.put, List.setIfInBounds_toArray, List.set_cons_zero, List.set_cons_succ]
         refine wpAnyH_take (i := 2) (oi := ⟨some 116, .load 2 (.tmp 115), 2, "law.go:87", #[⟨1, .data⟩], none⟩) (v := ?_) rfl (by kernel_rfl) (by kernel_rfl) (by kernel_rfl) (fun _ _ _ h => h) (Or.inl ⟨by rfl, ?_⟩) hS ?_
         rotate_left
         · intro wv hS; have hrun := hS.out; go_simp; try with_reducible rfl
         try simp only [Act.put, List.setIfInBounds_toArray, List.set_cons_zero, List.set_cons_succ]
         refine wpAnyH_take (i := 3) (oi := ⟨some 117, .fieldAddr 29 (.tmp 3) 1, 0, "law.go:87", #[⟨8, .gcOnly .lateStores⟩], none⟩) (v := ?_) rfl (by kernel_rfl) (by kernel_rfl) (by kernel_rfl) (fun _ _ _ h => h) (Or.inl ⟨by rfl, ?_⟩) hS ?_
         rotate_left
         · intro wv _; go_simp; try with_reducible rfl
         try simp only [Act.put, List.setIfInBounds_toArray, List.set_cons_zero, List.set_cons_succ]
         refine wpAnyH_take (i := 4) (oi := ⟨some 118, .indexAddr 22 (.tmp 117) (.const (Value.int IntKind.i64 0)), 0, "law.go:87", #[⟨3, .data⟩, ⟨8, .gcOnly .lateStores⟩], none⟩) (v := ?_) rfl (by kernel_rfl) (by kernel_rfl) (by kernel_rfl) (fun _ _ _ h => h) (Or.inl ⟨by rfl, ?_⟩) hS ?_
         rotate_left
         · intro wv _; go_simp; try with_reducible rfl
         try simp only [Act.put, List.setIfInBounds_toArray, List.set_cons_zero, List.set_cons_succ]
         refine wpAnyH_take (i := 5) (oi := ⟨some 119, .load 2 (.tmp 118), 2, "law.go:87", #[⟨4, .data⟩, ⟨8, .gcOnly .lateStores⟩], none⟩) (v := ?_) rfl (by kernel_rfl) (by kernel_rfl) (by kernel_rfl) (fun _ _ _ h => h) (Or.inl ⟨by rfl, ?_⟩) hS ?_
         rotate_left
         · intro wv hS; have hrun := hS.out; go_simp; try with_reducible rfl
         try simp only [Act.put, List.setIfInBounds_toArray, List.set_cons_zero, List.set_cons_succ]
         refine wpAnyH_take (i := 6) (oi := ⟨some 120, .fieldAddr 29 (.tmp 13) 1, 0, "law.go:87", #[], none⟩) (v := ?_) rfl (by kernel_rfl) (by kernel_rfl) (by kernel_rfl) (fun _ _ _ h => h) (Or.inl ⟨by rfl, ?_⟩) hS ?_
         rotate_left
         · intro wv _; go_simp; try with_reducible rfl
         try simp only [Act.put, List.setIfInBounds_toArray, List.set_cons_zero, List.set_cons_succ]
         refine wpAnyH_take (i := 7) (oi := ⟨some 121, .indexAddr 22 (.tmp 120) (.const (Value.int IntKind.i64 0)), 0, "law.go:87", #[⟨6, .data⟩, ⟨0, .phase⟩, ⟨1, .phase⟩, ⟨2, .phase⟩, ⟨3, .textOnly .lateStores⟩, ⟨4, .textOnly .lateStores⟩, ⟨5, .textOnly .lateStores⟩], none⟩) (v := ?_) rfl (by kernel_rfl) (by kernel_rfl) (by kernel_rfl) (fun _ _ _ h => h) (Or.inl ⟨by rfl, ?_⟩) hS ?_
         rotate_left
         · intro wv _; go_simp; try with_reducible rfl
         try simp only [Act.put, List.setIfInBounds_toArray, List.set_cons_zero, List.set_cons_succ]
         refine wpAnyH_take (i := 9) (oi := ⟨some 122, .fieldAddr 29 (.tmp 14) 1, 0, "law.go:87", #[], none⟩) (v := ?_) rfl (by kernel_rfl) (by kernel_rfl) (by kernel_rfl) (fun _ _ _ h => h) (Or.inl ⟨by rfl, ?_⟩) hS ?_
         rotate_left
         · intro wv _; go_simp; try with_reducible rfl
         try simp only [Act.put, List.setIfInBounds_toArray, List.set_cons_zero, List.set_cons_succ]
         refine wpAnyH_ready (rs := [8]) (by kernel_rfl) (by simp) (AllReadyH.cons (o := ⟨none, .store 2 (.tmp 121) (.tmp 116), 0, "law.go:87", #[⟨7, .data⟩, ⟨2, .data⟩, ⟨0, .phase⟩, ⟨1, .phase⟩, ⟨2, .phase⟩, ⟨3, .textOnly .lateStores⟩, ⟨4, .textOnly .lateStores⟩, ⟨5, .textOnly .lateStores⟩], none⟩) rfl (fun K hK => ?_) AllReadyH.nil)
         go_simp
         try rw [hw10]
         replace hS := Lib.hid C1
         refine Shut.out hK _ _ hS (fun _ => ?_)
         clear hK K
         try simp only [Act.put, List.setIfInBounds_toArray, List.set_cons_zero, List.set_cons_succ]
         refine wpAnyH_take (i := 10) (oi := ⟨some 123, .indexAddr 22 (.tmp 122) (.const (Value.int IntKind.i64 0)), 0, "law.go:87", #[⟨9, .data⟩, ⟨0, .phase⟩, ⟨1, .phase⟩, ⟨2, .phase⟩, ⟨3, .phase⟩, ⟨4, .phase⟩, ⟨5, .phase⟩, ⟨6, .phase⟩, ⟨7, .phase⟩, ⟨8, .phase⟩], none⟩) (v := ?_) rfl (by kernel_rfl) (by kernel_rfl) (by kernel_rfl) (fun _ _ _ h => h) (Or.inl ⟨by rfl, ?_⟩) hS ?_
         rotate_left
         · intro wv _; go_simp; try with_reducible rfl
         try simp only [Act.put, List.setIfInBounds_toArray, List.set_cons_zero, List.set_cons_succ]
         refine wpAnyH_ready (rs := [11]) (by kernel_rfl) (by simp) (AllReadyH.cons (o := ⟨none, .store 2 (.tmp 123) (.tmp 119), 0, "law.go:87", #[⟨10, .data⟩, ⟨5, .data⟩, ⟨8, .chain⟩, ⟨0, .phase⟩, ⟨1, .phase⟩, ⟨2, .phase⟩, ⟨3, .phase⟩, ⟨4, .phase⟩, ⟨5, .phase⟩, ⟨6, .phase⟩, ⟨7, .phase⟩, ⟨8, .phase⟩], none⟩) rfl (fun K hK => ?_) AllReadyH.nil)
         go_simp
         try rw [hw11]
         replace hS := Lib.hid C2
         refine Shut.out hK _ _ hS (fun _ => ?_)
         clear hK K
         try simp only [Act.put, List.setIfInBounds_toArray, List.set_cons_zero, List.set_cons_succ]
         refine wpAnyH_done (by kernel_rfl) ?_ _
         refine NoPanic.normal ?_
         clear hS C0 C1 C2 kp kq zp zq
         obtain ⟨co0, co1, co2, co3, co4, co5, co6, co7, co8, co9, co10⟩ := row11 Vo.out
         obtain ⟨cp0, cp1, cp2, cp3, cp4, cp5, cp6, cp7, cp8, cp9, cp10⟩ := row11 Vp.out
         obtain ⟨cq0, cq1, cq2, cq3, cq4, cq5, cq6, cq7, cq8, cq9, cq10⟩ := row11 Vq.out
         go_wp2_with fail
         refine (OE.out _ _ _ _ _ (own_wts ON2.out) (own_cls OL2.out) (Es.below RX.out HB.out.1) (Es.below RY.out HB.out.1)).mono ?_
         rintro e w12 ⟨rfl, hb⟩
         clear co0 co1 co2 co3 co4 co5 co6 co7 co8 co9 co10 cp0 cp1 cp2 cp3 cp4 cp5 cp6 cp7 cp8 cp9 cp10 cq0 cq1 cq2 cq3 cq4 cq5 cq6 cq7 cq8 cq9 cq10
         replace Vo := Lib.hid (blk_below Vo.out hb (blk_lt Vo.out))
         replace Vx := Lib.hid (blk_below Vx.out hb (blk_lt Vx.out))
         replace Vy := Lib.hid (blk_below Vy.out hb (blk_lt Vy.out))
         replace Vp := Lib.hid (blk_below Vp.out hb (blk_lt Vp.out))
         replace Vq := Lib.hid (blk_below Vq.out hb (blk_lt Vq.out))
         replace ON2 := Lib.hid (own_below ON2.out hb)
         replace OL2 := Lib.hid (own_below OL2.out hb)
         replace ON3 := Lib.hid (own_below ON3.out hb)
         replace OL3 := Lib.hid (own_below OL3.out hb)
         replace HB := Lib.hid (And.intro (HB.out.1.trans (hb.mono HB.out.2)) (Nat.le_trans HB.out.2 hb.size))
         clear hb
         obtain ⟨co0, co1, co2, co3, co4, co5, co6, co7, co8, co9, co10⟩ := row11 Vo.out
         obtain ⟨cp0, cp1, cp2, cp3, cp4, cp5, cp6, cp7, cp8, cp9, cp10⟩ := row11 Vp.out
         obtain ⟨cq0, cq1, cq2, cq3, cq4, cq5, cq6, cq7, cq8, cq9, cq10⟩ := row11 Vq.out
         go_wp2_with fail
         refine (OE.out _ _ _ _ _ (own_wts ON3.out) (own_cls OL3.out) (Es.below RX.out HB.out.1) (Es.below RY.out HB.out.1)).mono ?_
         rintro e w13 ⟨rfl, hb⟩
         clear co0 co1 co2 co3 co4 co5 co6 co7 co8 co9 co10 cp0 cp1 cp2 cp3 cp4 cp5 cp6 cp7 cp8 cp9 cp10 cq0 cq1 cq2 cq3 cq4 cq5 cq6 cq7 cq8 cq9 cq10
         replace Vo := Lib.hid (blk_below Vo.out hb (blk_lt Vo.out))
         replace Vx := Lib.hid (blk_below Vx.out hb (blk_lt Vx.out))
         replace Vy := Lib.hid (blk_below Vy.out hb (blk_lt Vy.out))
         replace Vp := Lib.hid (blk_below Vp.out hb (blk_lt Vp.out))
         replace Vq := Lib.hid (blk_below Vq.out hb (blk_lt Vq.out))
         replace ON2 := Lib.hid (own_below ON2.out hb)
         replace OL2 := Lib.hid (own_below OL2.out hb)
         replace ON3 := Lib.hid (own_below ON3.out hb)
         replace OL3 := Lib.hid (own_below OL3.out hb)
         replace HB := Lib.hid (And.intro (HB.out.1.trans (hb.mono HB.out.2)) (Nat.le_trans HB.out.2 hb.size))
         clear hb
         go_wp2
         go_ret
         exact ⟨rfl, HB.out.1⟩
      · as_aux_lemma =>
         have HGN := Lib.hid (hgz.out rfl)
         clear LX hl1 hgz hlo
         have b1 : (hft == 1) = false := by rw [hbf]; rfl
         have b0 : (hft != 0) = false := by rw [hbf]; rfl
         clear hbf
         go_enter Try.func5, Try.ntmps5
         go_wp2_with fail
         refine (AL.out _).mono ?_
         rintro e w2 ⟨rfl, hb⟩
         replace Vo := Lib.hid (blk_below Vo.out hb (blk_lt Vo.out))
         replace Vf := Lib.hid (blk_below Vf.out hb (blk_lt Vf.out))
         replace Vt := Lib.hid (blk_below Vt.out hb (blk_lt Vt.out))
         replace HB := Lib.hid (And.intro (HB.out.1.trans (hb.mono HB.out.2)) (Nat.le_trans HB.out.2 hb.size))
         clear hb
         obtain ⟨co0, co1, co2, co3, co4, co5, co6, co7, co8, co9, co10⟩ := row11 Vo.out
         go_wp2_with fail
         refine (g2.out _).mono ?_
         rintro e w3 ⟨rfl, hb⟩
         clear co0 co1 co2 co3 co4 co5 co6 co7 co8 co9 co10
         replace Vo := Lib.hid (blk_below Vo.out hb (blk_lt Vo.out))
         replace Vf := Lib.hid (blk_below Vf.out hb (blk_lt Vf.out))
         replace Vt := Lib.hid (blk_below Vt.out hb (blk_lt Vt.out))
         replace HB := Lib.hid (And.intro (HB.out.1.trans (hb.mono HB.out.2)) (Nat.le_trans HB.out.2 hb.size))
         clear hb
         obtain ⟨co0, co1, co2, co3, co4, co5, co6, co7, co8, co9, co10⟩ := row11 Vo.out
         obtain ⟨cf0, cf1, cf2, cf3, cf4, cf5, cf6, cf7, cf8, cf9⟩ := row10 Vf.out
         obtain ⟨ct0, ct1⟩ := row2 Vt.out
         go_wp2_with fail
         refine (L1.out _ (Es.below RX.out HB.out.1) (Es.below RY.out HB.out.1)).mono ?_
         rintro e w4 ⟨A2, c2, B2, d2, rfl, hon, hol, hb⟩
         clear co0 co1 co2 co3 co4 co5 co6 co7 co8 co9 co10 cf0 cf1 cf2 cf3 cf4 cf5 cf6 cf7 cf8 cf9 ct0 ct1
         replace Vo := Lib.hid (blk_below Vo.out hb (blk_lt Vo.out))
         replace Vf := Lib.hid (blk_below Vf.out hb (blk_lt Vf.out))
         replace Vt := Lib.hid (blk_below Vt.out hb (blk_lt Vt.out))
         replace HB := Lib.hid (And.intro (HB.out.1.trans (hb.mono HB.out.2)) (Nat.le_trans HB.out.2 hb.size))
         clear hb
         have ON2 := Lib.hid hon; have OL2 := Lib.hid hol
         clear hon hol
         have lto := blk_lt Vo.out
         have ltf := blk_lt Vf.out
         have ltt := blk_lt Vt.out
         have gq := HB.out.2
         obtain ⟨w5, hw5⟩ : ∃ W, (((w4.alloc (.cells #[.int .i64 kd, .int .i64 z, .int .i64 o1, .int .i64 o2, .int .i64 o3, .int .i64 o4, .int .i64 o5, .int .u32 wa, .int .u32 to, .slice A2 n c2, .slice B2 m d2] 29)).alloc (.cells #[.int .i64 gop, .int .i64 gstage, .int .i64 gphase, .int .i64 gold, .int .i64 gsince, .int .i64 gleft, .bool gawoke, .bool gstarve, .int .i64 gneed, .bool gfront] 31)).alloc (.cells #[.bool true, .bool false, .bool ghd, .int .i64 ggv, .int .i64 gft, .int .u64 0, .slice WA wn wc] 39)) = W := ⟨_, rfl⟩
         have hb : Below w4.heap.size w4 w5 := hw5 ▸ ((((Below.refl _ _).alloc (Nat.le_refl _) _).alloc (by first | (simp; done) | (simp; omega)) _).alloc (by first | (simp; done) | (simp; omega)) _)
         have hv0 : w5.heap[w4.heap.size]? = some (.cells #[.int .i64 kd, .int .i64 z, .int .i64 o1, .int .i64 o2, .int .i64 o3, .int .i64 o4, .int .i64 o5, .int .u32 wa, .int .u32 to, .slice A2 n c2, .slice B2 m d2] 29) := by
           have h0 := heap_alloc_new w4 (.cells #[.int .i64 kd, .int .i64 z, .int .i64 o1, .int .i64 o2, .int .i64 o3, .int .i64 o4, .int .i64 o5, .int .u32 wa, .int .u32 to, .slice A2 n c2, .slice B2 m d2] 29)
           rw [show w4.heap.size = w4.heap.size by simp [Nat.add_assoc]] at h0
           rw [← hw5]
           rw [heap_alloc_old _ _ (by simp <;> omega), heap_alloc_old _ _ (by simp <;> omega)]; exact h0
         have hv1 : w5.heap[w4.heap.size + 1]? = some (.cells #[.int .i64 gop, .int .i64 gstage, .int .i64 gphase, .int .i64 gold, .int .i64 gsince, .int .i64 gleft, .bool gawoke, .bool gstarve, .int .i64 gneed, .bool gfront] 31) := by
           have h0 := heap_alloc_new (w4.alloc (.cells #[.int .i64 kd, .int .i64 z, .int .i64 o1, .int .i64 o2, .int .i64 o3, .int .i64 o4, .int .i64 o5, .int .u32 wa, .int .u32 to, .slice A2 n c2, .slice B2 m d2] 29)) (.cells #[.int .i64 gop, .int .i64 gstage, .int .i64 gphase, .int .i64 gold, .int .i64 gsince, .int .i64 gleft, .bool gawoke, .bool gstarve, .int .i64 gneed, .bool gfront] 31)
           rw [show (w4.alloc (.cells #[.int .i64 kd, .int .i64 z, .int .i64 o1, .int .i64 o2, .int .i64 o3, .int .i64 o4, .int .i64 o5, .int .u32 wa, .int .u32 to, .slice A2 n c2, .slice B2 m d2] 29)).heap.size = w4.heap.size + 1 by simp [Nat.add_assoc]] at h0
           rw [← hw5]
           rw [heap_alloc_old _ _ (by simp <;> omega)]; exact h0
         have hv2 : w5.heap[w4.heap.size + 2]? = some (.cells #[.bool true, .bool false, .bool ghd, .int .i64 ggv, .int .i64 gft, .int .u64 0, .slice WA wn wc] 39) := by
           have h0 := heap_alloc_new ((w4.alloc (.cells #[.int .i64 kd, .int .i64 z, .int .i64 o1, .int .i64 o2, .int .i64 o3, .int .i64 o4, .int .i64 o5, .int .u32 wa, .int .u32 to, .slice A2 n c2, .slice B2 m d2] 29)).alloc (.cells #[.int .i64 gop, .int .i64 gstage, .int .i64 gphase, .int .i64 gold, .int .i64 gsince, .int .i64 gleft, .bool gawoke, .bool gstarve, .int .i64 gneed, .bool gfront] 31)) (.cells #[.bool true, .bool false, .bool ghd, .int .i64 ggv, .int .i64 gft, .int .u64 0, .slice WA wn wc] 39)
           rw [show ((w4.alloc (.cells #[.int .i64 kd, .int .i64 z, .int .i64 o1, .int .i64 o2, .int .i64 o3, .int .i64 o4, .int .i64 o5, .int .u32 wa, .int .u32 to, .slice A2 n c2, .slice B2 m d2] 29)).alloc (.cells #[.int .i64 gop, .int .i64 gstage, .int .i64 gphase, .int .i64 gold, .int .i64 gsince, .int .i64 gleft, .bool gawoke, .bool gstarve, .int .i64 gneed, .bool gfront] 31)).heap.size = w4.heap.size + 2 by simp [Nat.add_assoc]] at h0
           rw [← hw5]
           exact h0
         replace Vo := Lib.hid (blk_below Vo.out hb (blk_lt Vo.out))
         replace Vf := Lib.hid (blk_below Vf.out hb (blk_lt Vf.out))
         replace Vt := Lib.hid (blk_below Vt.out hb (blk_lt Vt.out))
         replace ON2 := Lib.hid (own_below ON2.out hb)
         replace OL2 := Lib.hid (own_below OL2.out hb)
         replace HB := Lib.hid (And.intro (HB.out.1.trans (hb.mono HB.out.2)) (Nat.le_trans HB.out.2 hb.size))
         have Vx := Lib.hid hv0
         have neo_x := Nat.ne_of_lt lto
         have nef_x := Nat.ne_of_lt ltf
         have net_x := Nat.ne_of_lt ltt
         have gex := gq
         have Vg := Lib.hid hv1
         have neo_g := Nat.ne_of_lt (Nat.lt_of_lt_of_le lto (Nat.le_add_right w4.heap.size 1))
         have nef_g := Nat.ne_of_lt (Nat.lt_of_lt_of_le ltf (Nat.le_add_right w4.heap.size 1))
         have net_g := Nat.ne_of_lt (Nat.lt_of_lt_of_le ltt (Nat.le_add_right w4.heap.size 1))
         have nex_g : w4.heap.size ≠ w4.heap.size + 1 := by omega
         have geg : _ ≤ w4.heap.size + 1 := Nat.le_trans gq (Nat.le_add_right _ 1)
         have Va := Lib.hid hv2
         have neo_a := Nat.ne_of_lt (Nat.lt_of_lt_of_le lto (Nat.le_add_right w4.heap.size 2))
         have nef_a := Nat.ne_of_lt (Nat.lt_of_lt_of_le ltf (Nat.le_add_right w4.heap.size 2))
         have net_a := Nat.ne_of_lt (Nat.lt_of_lt_of_le ltt (Nat.le_add_right w4.heap.size 2))
         have nex_a : w4.heap.size ≠ w4.heap.size + 2 := by omega
         have neg_a : w4.heap.size + 1 ≠ w4.heap.size + 2 := by omega
         have gea : _ ≤ w4.heap.size + 2 := Nat.le_trans gq (Nat.le_add_right _ 2)
         generalize hsx : w4.heap.size = sx at *
         clear hb gq hv0 hv1 hv2 lto ltf ltt
         have hgn := HGN.out
         obtain ⟨co0, co1, co2, co3, co4, co5, co6, co7, co8, co9, co10⟩ := row11 Vo.out
         obtain ⟨cf0, cf1, cf2, cf3, cf4, cf5, cf6, cf7, cf8, cf9⟩ := row10 Vf.out
         obtain ⟨ca0, ca1, ca2, ca3, ca4, ca5, ca6⟩ := row7 Va.out
         obtain ⟨cg0, cg1, cg2, cg3, cg4, cg5, cg6, cg7, cg8, cg9⟩ := row10 Vg.out
         go_wp2_with fail
         refine (L2.out _ (Es.below RX.out HB.out.1) (Es.below RY.out HB.out.1)).mono ?_
         rintro e w6 ⟨A3, c3, B3, d3, rfl, hon, hol, hb⟩
         clear co0 co1 co2 co3 co4 co5 co6 co7 co8 co9 co10 cf0 cf1 cf2 cf3 cf4 cf5 cf6 cf7 cf8 cf9 ca0 ca1 ca2 ca3 ca4 ca5 ca6 cg0 cg1 cg2 cg3 cg4 cg5 cg6 cg7 cg8 cg9
         replace Vo := Lib.hid (blk_below Vo.out hb (blk_lt Vo.out))
         replace Vf := Lib.hid (blk_below Vf.out hb (blk_lt Vf.out))
         replace Vt := Lib.hid (blk_below Vt.out hb (blk_lt Vt.out))
         replace Vx := Lib.hid (blk_below Vx.out hb (blk_lt Vx.out))
         replace Vg := Lib.hid (blk_below Vg.out hb (blk_lt Vg.out))
         replace Va := Lib.hid (blk_below Va.out hb (blk_lt Va.out))
         replace ON2 := Lib.hid (own_below ON2.out hb)
         replace OL2 := Lib.hid (own_below OL2.out hb)
         replace HB := Lib.hid (And.intro (HB.out.1.trans (hb.mono HB.out.2)) (Nat.le_trans HB.out.2 hb.size))
         clear hb
         have ON3 := Lib.hid hon; have OL3 := Lib.hid hol
         clear hon hol
         have lto := blk_lt Vo.out
         have ltf := blk_lt Vf.out
         have ltt := blk_lt Vt.out
         have ltx := blk_lt Vx.out
         have ltg := blk_lt Vg.out
         have lta := blk_lt Va.out
         have gq := HB.out.2
         obtain ⟨w7, hw7⟩ : ∃ W, (((w6.alloc (.cells #[.int .i64 kd, .int .i64 y, .int .i64 o1, .int .i64 o2, .int .i64 o3, .int .i64 o4, .int .i64 o5, .int .u32 wa, .int .u32 to, .slice A3 n c3, .slice B3 m d3] 29)).alloc (.cells #[.int .i64 hop, .int .i64 hstage, .int .i64 hphase, .int .i64 hold, .int .i64 hsince, .int .i64 hleft, .bool hawoke, .bool hstarve, .int .i64 hneed, .bool hfront] 31)).alloc (.cells #[.bool hdn, .bool false, .bool hhd, .int .i64 hgv, .int .i64 hft, .int .u64 0, .slice WA wn wc] 39)) = W := ⟨_, rfl⟩
         have hb : Below w6.heap.size w6 w7 := hw7 ▸ ((((Below.refl _ _).alloc (Nat.le_refl _) _).alloc (by first | (simp; done) | (simp; omega)) _).alloc (by first | (simp; done) | (simp; omega)) _)
         have hv0 : w7.heap[w6.heap.size]? = some (.cells #[.int .i64 kd, .int .i64 y, .int .i64 o1, .int .i64 o2, .int .i64 o3, .int .i64 o4, .int .i64 o5, .int .u32 wa, .int .u32 to, .slice A3 n c3, .slice B3 m d3] 29) := by
           have h0 := heap_alloc_new w6 (.cells #[.int .i64 kd, .int .i64 y, .int .i64 o1, .int .i64 o2, .int .i64 o3, .int .i64 o4, .int .i64 o5, .int .u32 wa, .int .u32 to, .slice A3 n c3, .slice B3 m d3] 29)
           rw [show w6.heap.size = w6.heap.size by simp [Nat.add_assoc]] at h0
           rw [← hw7]
           rw [heap_alloc_old _ _ (by simp <;> omega), heap_alloc_old _ _ (by simp <;> omega)]; exact h0
         have hv1 : w7.heap[w6.heap.size + 1]? = some (.cells #[.int .i64 hop, .int .i64 hstage, .int .i64 hphase, .int .i64 hold, .int .i64 hsince, .int .i64 hleft, .bool hawoke, .bool hstarve, .int .i64 hneed, .bool hfront] 31) := by
           have h0 := heap_alloc_new (w6.alloc (.cells #[.int .i64 kd, .int .i64 y, .int .i64 o1, .int .i64 o2, .int .i64 o3, .int .i64 o4, .int .i64 o5, .int .u32 wa, .int .u32 to, .slice A3 n c3, .slice B3 m d3] 29)) (.cells #[.int .i64 hop, .int .i64 hstage, .int .i64 hphase, .int .i64 hold, .int .i64 hsince, .int .i64 hleft, .bool hawoke, .bool hstarve, .int .i64 hneed, .bool hfront] 31)
           rw [show (w6.alloc (.cells #[.int .i64 kd, .int .i64 y, .int .i64 o1, .int .i64 o2, .int .i64 o3, .int .i64 o4, .int .i64 o5, .int .u32 wa, .int .u32 to, .slice A3 n c3, .slice B3 m d3] 29)).heap.size = w6.heap.size + 1 by simp [Nat.add_assoc]] at h0
           rw [← hw7]
           rw [heap_alloc_old _ _ (by simp <;> omega)]; exact h0
         have hv2 : w7.heap[w6.heap.size + 2]? = some (.cells #[.bool hdn, .bool false, .bool hhd, .int .i64 hgv, .int .i64 hft, .int .u64 0, .slice WA wn wc] 39) := by
           have h0 := heap_alloc_new ((w6.alloc (.cells #[.int .i64 kd, .int .i64 y, .int .i64 o1, .int .i64 o2, .int .i64 o3, .int .i64 o4, .int .i64 o5, .int .u32 wa, .int .u32 to, .slice A3 n c3, .slice B3 m d3] 29)).alloc (.cells #[.int .i64 hop, .int .i64 hstage, .int .i64 hphase, .int .i64 hold, .int .i64 hsince, .int .i64 hleft, .bool hawoke, .bool hstarve, .int .i64 hneed, .bool hfront] 31)) (.cells #[.bool hdn, .bool false, .bool hhd, .int .i64 hgv, .int .i64 hft, .int .u64 0, .slice WA wn wc] 39)
           rw [show ((w6.alloc (.cells #[.int .i64 kd, .int .i64 y, .int .i64 o1, .int .i64 o2, .int .i64 o3, .int .i64 o4, .int .i64 o5, .int .u32 wa, .int .u32 to, .slice A3 n c3, .slice B3 m d3] 29)).alloc (.cells #[.int .i64 hop, .int .i64 hstage, .int .i64 hphase, .int .i64 hold, .int .i64 hsince, .int .i64 hleft, .bool hawoke, .bool hstarve, .int .i64 hneed, .bool hfront] 31)).heap.size = w6.heap.size + 2 by simp [Nat.add_assoc]] at h0
           rw [← hw7]
           exact h0
         replace Vo := Lib.hid (blk_below Vo.out hb (blk_lt Vo.out))
         replace Vf := Lib.hid (blk_below Vf.out hb (blk_lt Vf.out))
         replace Vt := Lib.hid (blk_below Vt.out hb (blk_lt Vt.out))
         replace Vx := Lib.hid (blk_below Vx.out hb (blk_lt Vx.out))
         replace Vg := Lib.hid (blk_below Vg.out hb (blk_lt Vg.out))
         replace Va := Lib.hid (blk_below Va.out hb (blk_lt Va.out))
         replace ON2 := Lib.hid (own_below ON2.out hb)
         replace OL2 := Lib.hid (own_below OL2.out hb)
         replace ON3 := Lib.hid (own_below ON3.out hb)
         replace OL3 := Lib.hid (own_below OL3.out hb)
         replace HB := Lib.hid (And.intro (HB.out.1.trans (hb.mono HB.out.2)) (Nat.le_trans HB.out.2 hb.size))
         have Vy := Lib.hid hv0
         have neo_y := Nat.ne_of_lt lto
         have nef_y := Nat.ne_of_lt ltf
         have net_y := Nat.ne_of_lt ltt
         have nex_y := Nat.ne_of_lt ltx
         have neg_y := Nat.ne_of_lt ltg
         have nea_y := Nat.ne_of_lt lta
         have gey := gq
         have Vh := Lib.hid hv1
         have neo_h := Nat.ne_of_lt (Nat.lt_of_lt_of_le lto (Nat.le_add_right w6.heap.size 1))
         have nef_h := Nat.ne_of_lt (Nat.lt_of_lt_of_le ltf (Nat.le_add_right w6.heap.size 1))
         have net_h := Nat.ne_of_lt (Nat.lt_of_lt_of_le ltt (Nat.le_add_right w6.heap.size 1))
         have nex_h := Nat.ne_of_lt (Nat.lt_of_lt_of_le ltx (Nat.le_add_right w6.heap.size 1))
         have neg_h := Nat.ne_of_lt (Nat.lt_of_lt_of_le ltg (Nat.le_add_right w6.heap.size 1))
         have nea_h := Nat.ne_of_lt (Nat.lt_of_lt_of_le lta (Nat.le_add_right w6.heap.size 1))
         have ney_h : w6.heap.size ≠ w6.heap.size + 1 := by omega
         have geh : _ ≤ w6.heap.size + 1 := Nat.le_trans gq (Nat.le_add_right _ 1)
         have Vb := Lib.hid hv2
         have neo_b := Nat.ne_of_lt (Nat.lt_of_lt_of_le lto (Nat.le_add_right w6.heap.size 2))
         have nef_b := Nat.ne_of_lt (Nat.lt_of_lt_of_le ltf (Nat.le_add_right w6.heap.size 2))
         have net_b := Nat.ne_of_lt (Nat.lt_of_lt_of_le ltt (Nat.le_add_right w6.heap.size 2))
         have nex_b := Nat.ne_of_lt (Nat.lt_of_lt_of_le ltx (Nat.le_add_right w6.heap.size 2))
         have neg_b := Nat.ne_of_lt (Nat.lt_of_lt_of_le ltg (Nat.le_add_right w6.heap.size 2))
         have nea_b := Nat.ne_of_lt (Nat.lt_of_lt_of_le lta (Nat.le_add_right w6.heap.size 2))
         have ney_b : w6.heap.size ≠ w6.heap.size + 2 := by omega
         have neh_b : w6.heap.size + 1 ≠ w6.heap.size + 2 := by omega
         have geb : _ ≤ w6.heap.size + 2 := Nat.le_trans gq (Nat.le_add_right _ 2)
         generalize hsy : w6.heap.size = sy at *
         clear hb gq hv0 hv1 hv2 lto ltf ltt ltx ltg lta
         clear hgn
         obtain ⟨co0, co1, co2, co3, co4, co5, co6, co7, co8, co9, co10⟩ := row11 Vo.out
         obtain ⟨cf0, cf1, cf2, cf3, cf4, cf5, cf6, cf7, cf8, cf9⟩ := row10 Vf.out
         obtain ⟨cy0, cy1, cy2, cy3, cy4, cy5, cy6, cy7, cy8, cy9, cy10⟩ := row11 Vy.out
         obtain ⟨ch0, ch1, ch2, ch3, ch4, ch5, ch6, ch7, ch8, ch9⟩ := row10 Vh.out
         obtain ⟨cb0, cb1, cb2, cb3, cb4, cb5, cb6⟩ := row7 Vb.out
         go_wp2
         refine wp_region_noPanic ?_
         refine wp_region_held_drew (S := (fun wv => Below w7.heap.size w7 wv)) (by kernel_rfl) ((Below.refl w7.heap.size w7).drew) (fun hS => ?_)
         refine wpAnyH_take (i := 0) (oi := ⟨some 85, .fieldAddr 31 (.tmp 4) 2, 0, "law.go:82", #[], none⟩) (v := ?_) rfl (by kernel_rfl) (by kernel_rfl) (by kernel_rfl) (fun _ _ _ h => h) (Or.inl ⟨by rfl, ?_⟩) hS ?_
         rotate_left
         · intro wv _; go_simp; try with_reducible rfl
         try simp only [Act.put, List.setIfInBounds_toArray, List.set_cons_zero, List.set_cons_succ]
         refine wpAnyH_take (i := 1) (oi := ⟨some 86, .load 3 (.tmp 85), 3, "law.go:82", #[⟨0, .data⟩], none⟩) (v := ?_) rfl (by kernel_rfl) (by kernel_rfl) (by kernel_rfl) (fun _ _ _ h => h) (Or.inl ⟨by rfl, ?_⟩) hS ?_
         rotate_left
         · intro wv hS; have hrun := (show wv.cell? ⟨w.heap.size + 1, 2, none⟩ = some (.int .i64 phase) from (blk_cell (blk_below Vf.out hS (blk_lt Vf.out)) 2).trans rfl); go_simp; try with_reducible rfl
         try simp only [Act.put, List.setIfInBounds_toArray, List.set_cons_zero, List.set_cons_succ]
         refine wpAnyH_take (i := 2) (oi := ⟨some 87, .binOp .eql 3 (.tmp 86) (.const (Value.int IntKind.i64 0)) 3, 4, "law.go:82", #[⟨1, .data⟩], none⟩) (v := ?_) rfl (by kernel_rfl) (by kernel_rfl) (by kernel_rfl) (fun _ _ _ h => h) (Or.inl ⟨by rfl, ?_⟩) hS ?_
         rotate_left
         · intro wv _; go_simp; try with_reducible rfl
         try simp only [Act.put, List.setIfInBounds_toArray, List.set_cons_zero, List.set_cons_succ]
         refine wpAnyH_take (i := 3) (oi := ⟨some 88, .move (.tmp 87), 4, "law.go:82", #[⟨2, .data⟩], none⟩) (v := ?_) rfl (by kernel_rfl) (by kernel_rfl) (by kernel_rfl) (fun _ _ _ h => h) (Or.inl ⟨by rfl, ?_⟩) hS ?_
         rotate_left
         · intro wv _; go_simp; try with_reducible rfl
         try simp only [Act.put, List.setIfInBounds_toArray, List.set_cons_zero, List.set_cons_succ]
         refine wpAnyH_take (i := 4) (oi := ⟨some 89, .fieldAddr 39 (.tmp 12) 4, 0, "law.go:82", #[⟨3, .guard⟩], some (3, true)⟩) (v := undef) rfl (by kernel_rfl) (by kernel_rfl) (by kernel_rfl) (fun _ _ _ h => h) (Or.inr ⟨by rfl, rfl⟩) hS ?_
         try simp only [Act.put, List.setIfInBounds_toArray, List.set_cons_zero, List.set_cons_succ]
         refine wpAnyH_take (i := 5) (oi := ⟨some 90, .load 35 (.tmp 89), 35, "law.go:82", #[⟨4, .data⟩, ⟨3, .guard⟩], some (3, true)⟩) (v := undef) rfl (by kernel_rfl) (by kernel_rfl) (by kernel_rfl) (fun _ _ _ h => h) (Or.inr ⟨by rfl, rfl⟩) hS ?_
         try simp only [Act.put, List.setIfInBounds_toArray, List.set_cons_zero, List.set_cons_succ]
         refine wpAnyH_take (i := 6) (oi := ⟨some 91, .binOp .eql 35 (.tmp 90) (.const (Value.int IntKind.i64 1)) 35, 4, "law.go:82", #[⟨5, .data⟩, ⟨3, .guard⟩], some (3, true)⟩) (v := undef) rfl (by kernel_rfl) (by kernel_rfl) (by kernel_rfl) (fun _ _ _ h => h) (Or.inr ⟨by rfl, rfl⟩) hS ?_
         try simp only [Act.put, List.setIfInBounds_toArray, List.set_cons_zero, List.set_cons_succ]
         refine wpAnyH_take (i := 7) (oi := ⟨some 92, .load 29 (.tmp 3), 29, "law.go:82", #[⟨3, .guard⟩], some (3, true)⟩) (v := undef) rfl (by kernel_rfl) (by kernel_rfl) (by kernel_rfl) (fun _ _ _ h => h) (Or.inr ⟨by rfl, rfl⟩) hS ?_
         try simp only [Act.put, List.setIfInBounds_toArray, List.set_cons_zero, List.set_cons_succ]
         refine wpAnyH_take (i := 8) (oi := ⟨some 93, .call { callee := .value (.func 14), args := #[.tmp 92], argTypes := #[29] }, 4, "law.go:82", #[⟨7, .data⟩, ⟨3, .chain⟩, ⟨3, .guard⟩], some (3, true)⟩) (v := undef) rfl (by kernel_rfl) (by kernel_rfl) (by kernel_rfl) (fun _ _ _ h => h) (Or.inr ⟨by rfl, rfl⟩) hS ?_
         try simp only [Act.put, List.setIfInBounds_toArray, List.set_cons_zero, List.set_cons_succ]
         refine wpAnyH_take (i := 9) (oi := ⟨some 94, .binOp .eql 4 (.tmp 91) (.tmp 93) 4, 4, "law.go:82", #[⟨6, .data⟩, ⟨8, .data⟩, ⟨3, .guard⟩], some (3, true)⟩) (v := undef) rfl (by kernel_rfl) (by kernel_rfl) (by kernel_rfl) (fun _ _ _ h => h) (Or.inr ⟨by rfl, rfl⟩) hS ?_
         try simp only [Act.put, List.setIfInBounds_toArray, List.set_cons_zero, List.set_cons_succ]
         refine wpAnyH_take (i := 10) (oi := ⟨some 95, .pick (.tmp 88) (.tmp 94) (.const (Value.bool false)), 4, "law.go:82", #[⟨3, .data⟩, ⟨9, .data⟩], none⟩) (v := ?_) rfl (by kernel_rfl) (by kernel_rfl) (by kernel_rfl) (fun _ _ _ h => h) (Or.inl ⟨by rfl, ?_⟩) hS ?_
         rotate_left
         · intro wv _; go_simp; try with_reducible rfl
         try simp only [Act.put, List.setIfInBounds_toArray, List.set_cons_zero, List.set_cons_succ]
         refine wpAnyH_take (i := 11) (oi := ⟨some 96, .move (.tmp 95), 4, "law.go:82", #[⟨10, .data⟩, ⟨8, .chain⟩], none⟩) (v := ?_) rfl (by kernel_rfl) (by kernel_rfl) (by kernel_rfl) (fun _ _ _ h => h) (Or.inl ⟨by rfl, ?_⟩) hS ?_
         rotate_left
         · intro wv _; go_simp; try with_reducible rfl
         try simp only [Act.put, List.setIfInBounds_toArray, List.set_cons_zero, List.set_cons_succ]
         refine wpAnyH_take (i := 12) (oi := ⟨some 97, .fieldAddr 39 (.tmp 12) 4, 0, "law.go:82", #[⟨11, .guard⟩], some (11, false)⟩) (v := ?_) rfl (by kernel_rfl) (by kernel_rfl) (by kernel_rfl) (fun _ _ _ h => h) (Or.inl ⟨by rfl, ?_⟩) hS ?_
         rotate_left
         · intro wv _; go_simp; try with_reducible rfl
         try simp only [Act.put, List.setIfInBounds_toArray, List.set_cons_zero, List.set_cons_succ]
         refine wpAnyH_take (i := 13) (oi := ⟨some 98, .load 35 (.tmp 97), 35, "law.go:82", #[⟨12, .data⟩, ⟨11, .guard⟩], some (11, false)⟩) (v := ?_) rfl (by kernel_rfl) (by kernel_rfl) (by kernel_rfl) (fun _ _ _ h => h) (Or.inl ⟨by rfl, ?_⟩) hS ?_
         rotate_left
         · intro wv hS; have hrun := (show wv.cell? ⟨sy + 2, 4, none⟩ = some (.int .i64 hft) from (blk_cell (blk_below Vb.out hS (blk_lt Vb.out)) 4).trans rfl); go_simp; try with_reducible rfl
         try simp only [Act.put, List.setIfInBounds_toArray, List.set_cons_zero, List.set_cons_succ]
         refine wpAnyH_take (i := 14) (oi := ⟨some 99, .binOp .neq 35 (.tmp 98) (.const (Value.int IntKind.i64 0)) 35, 4, "law.go:82", #[⟨13, .data⟩, ⟨11, .guard⟩], some (11, false)⟩) (v := ?_) rfl (by kernel_rfl) (by kernel_rfl) (by kernel_rfl) (fun _ _ _ h => h) (Or.inl ⟨by rfl, ?_⟩) hS ?_
         rotate_left
         · intro wv _; go_simp; try with_reducible rfl
         try simp only [Act.put, List.setIfInBounds_toArray, List.set_cons_zero, List.set_cons_succ]
         refine wpAnyH_take (i := 15) (oi := ⟨some 100, .move (.tmp 99), 4, "law.go:82", #[⟨14, .data⟩, ⟨11, .chain⟩, ⟨11, .guard⟩], some (11, false)⟩) (v := ?_) rfl (by kernel_rfl) (by kernel_rfl) (by kernel_rfl) (fun _ _ _ h => h) (Or.inl ⟨by rfl, ?_⟩) hS ?_
         rotate_left
         · intro wv _; go_simp; try with_reducible rfl
         try simp only [Act.put, List.setIfInBounds_toArray, List.set_cons_zero, List.set_cons_succ]
         refine wpAnyH_take (i := 16) (oi := ⟨some 101, .load 29 (.tmp 10), 29, "law.go:82", #[⟨15, .guard⟩], some (15, true)⟩) (v := undef) rfl (by kernel_rfl) (by kernel_rfl) (by kernel_rfl) (fun _ _ _ h => h) (Or.inr ⟨by rfl, rfl⟩) hS ?_
         try simp only [Act.put, List.setIfInBounds_toArray, List.set_cons_zero, List.set_cons_succ]
         refine wpAnyH_take (i := 17) (oi := ⟨some 102, .load 29 (.tmp 3), 29, "law.go:82", #[⟨15, .guard⟩], some (15, true)⟩) (v := undef) rfl (by kernel_rfl) (by kernel_rfl) (by kernel_rfl) (fun _ _ _ h => h) (Or.inr ⟨by rfl, rfl⟩) hS ?_
         try simp only [Act.put, List.setIfInBounds_toArray, List.set_cons_zero, List.set_cons_succ]
         refine wpAnyH_take (i := 18) (oi := ⟨some 103, .call { callee := .value (.func 12), args := #[.tmp 101, .tmp 102], argTypes := #[29, 29] }, 4, "law.go:82", #[⟨16, .data⟩, ⟨17, .data⟩, ⟨15, .chain⟩, ⟨15, .guard⟩], some (15, true)⟩) (v := undef) rfl (by kernel_rfl) (by kernel_rfl) (by kernel_rfl) (fun _ _ _ h => h) (Or.inr ⟨by rfl, rfl⟩) hS ?_
         try simp only [Act.put, List.setIfInBounds_toArray, List.set_cons_zero, List.set_cons_succ]
         refine wpAnyH_take (i := 19) (oi := ⟨some 104, .unOp .not 4 (.tmp 103), 4, "law.go:82", #[⟨18, .data⟩, ⟨15, .guard⟩], some (15, true)⟩) (v := undef) rfl (by kernel_rfl) (by kernel_rfl) (by kernel_rfl) (fun _ _ _ h => h) (Or.inr ⟨by rfl, rfl⟩) hS ?_
         try simp only [Act.put, List.setIfInBounds_toArray, List.set_cons_zero, List.set_cons_succ]
         refine wpAnyH_take (i := 20) (oi := ⟨some 105, .move (.tmp 104), 4, "law.go:82", #[⟨19, .data⟩, ⟨18, .chain⟩, ⟨15, .guard⟩], some (15, true)⟩) (v := undef) rfl (by kernel_rfl) (by kernel_rfl) (by kernel_rfl) (fun _ _ _ h => h) (Or.inr ⟨by rfl, rfl⟩) hS ?_
         try simp only [Act.put, List.setIfInBounds_toArray, List.set_cons_zero, List.set_cons_succ]
         refine wpAnyH_take (i := 21) (oi := ⟨some 106, .load 31 (.tmp 11), 31, "law.go:82", #[⟨20, .guard⟩], some (20, false)⟩) (v := undef) rfl (by kernel_rfl) (by kernel_rfl) (by kernel_rfl) (fun _ _ _ h => h) (Or.inr ⟨by rfl, rfl⟩) hS ?_
         try simp only [Act.put, List.setIfInBounds_toArray, List.set_cons_zero, List.set_cons_succ]
         refine wpAnyH_take (i := 22) (oi := ⟨some 107, .build 31 #[], 31, "law.go:82", #[⟨20, .guard⟩], some (20, false)⟩) (v := undef) rfl (by kernel_rfl) (by kernel_rfl) (by kernel_rfl) (fun _ _ _ h => h) (Or.inr ⟨by rfl, rfl⟩) hS ?_
         try simp only [Act.put, List.setIfInBounds_toArray, List.set_cons_zero, List.set_cons_succ]
         refine wpAnyH_take (i := 23) (oi := ⟨some 108, .binOp .neq 31 (.tmp 106) (.tmp 107) 31, 4, "law.go:82", #[⟨21, .data⟩, ⟨22, .data⟩, ⟨20, .guard⟩], some (20, false)⟩) (v := undef) rfl (by kernel_rfl) (by kernel_rfl) (by kernel_rfl) (fun _ _ _ h => h) (Or.inr ⟨by rfl, rfl⟩) hS ?_
         try simp only [Act.put, List.setIfInBounds_toArray, List.set_cons_zero, List.set_cons_succ]
         refine wpAnyH_take (i := 24) (oi := ⟨some 109, .pick (.tmp 105) (.const (Value.bool true)) (.tmp 108), 4, "law.go:82", #[⟨20, .data⟩, ⟨23, .data⟩, ⟨15, .guard⟩], some (15, true)⟩) (v := undef) rfl (by kernel_rfl) (by kernel_rfl) (by kernel_rfl) (fun _ _ _ h => h) (Or.inr ⟨by rfl, rfl⟩) hS ?_
         try simp only [Act.put, List.setIfInBounds_toArray, List.set_cons_zero, List.set_cons_succ]
         refine wpAnyH_take (i := 25) (oi := ⟨some 110, .pick (.tmp 100) (.tmp 109) (.const (Value.bool false)), 4, "law.go:82", #[⟨15, .data⟩, ⟨24, .data⟩, ⟨11, .guard⟩], some (11, false)⟩) (v := ?_) rfl (by kernel_rfl) (by kernel_rfl) (by kernel_rfl) (fun _ _ _ h => h) (Or.inl ⟨by rfl, ?_⟩) hS ?_
         rotate_left
         · intro wv _; go_simp; try with_reducible rfl
         try simp only [Act.put, List.setIfInBounds_toArray, List.set_cons_zero, List.set_cons_succ]
         refine wpAnyH_take (i := 26) (oi := ⟨some 111, .pick (.tmp 96) (.const (Value.bool true)) (.tmp 110), 4, "law.go:82", #[⟨11, .data⟩, ⟨25, .data⟩], none⟩) (v := ?_) rfl (by kernel_rfl) (by kernel_rfl) (by kernel_rfl) (fun _ _ _ h => h) (Or.inl ⟨by rfl, ?_⟩) hS ?_
         rotate_left
         · intro wv _; go_simp; try with_reducible rfl
         try simp only [Act.put, List.setIfInBounds_toArray, List.set_cons_zero, List.set_cons_succ]
         refine wpAnyH_done (by kernel_rfl) ?_ _
         refine NoPanic.normal ?_
         clear co0 co1 co2 co3 co4 co5 co6 co7 co8 co9 co10 cf0 cf1 cf2 cf3 cf4 cf5 cf6 cf7 cf8 cf9 cy0 cy1 cy2 cy3 cy4 cy5 cy6 cy7 cy8 cy9 cy10 ch0 ch1 ch2 ch3 ch4 ch5 ch6 ch7 ch8 ch9 cb0 cb1 cb2 cb3 cb4 cb5 cb6
         have hb := hS
         replace Vo := Lib.hid (blk_below Vo.out hb (blk_lt Vo.out))
         replace Vf := Lib.hid (blk_below Vf.out hb (blk_lt Vf.out))
         replace Vt := Lib.hid (blk_below Vt.out hb (blk_lt Vt.out))
         replace Vx := Lib.hid (blk_below Vx.out hb (blk_lt Vx.out))
         replace Vg := Lib.hid (blk_below Vg.out hb (blk_lt Vg.out))
         replace Va := Lib.hid (blk_below Va.out hb (blk_lt Va.out))
         replace Vy := Lib.hid (blk_below Vy.out hb (blk_lt Vy.out))
         replace Vh := Lib.hid (blk_below Vh.out hb (blk_lt Vh.out))
         replace Vb := Lib.hid (blk_below Vb.out hb (blk_lt Vb.out))
         replace ON2 := Lib.hid (own_below ON2.out hb)
         replace OL2 := Lib.hid (own_below OL2.out hb)
         replace ON3 := Lib.hid (own_below ON3.out hb)
         replace OL3 := Lib.hid (own_below OL3.out hb)
         replace HB := Lib.hid (And.intro (HB.out.1.trans (hb.mono HB.out.2)) (Nat.le_trans HB.out.2 hb.size))
         clear hb hS
         clear Vf
         clear Vt
         clear Vg
         clear Va
         clear Vh
         clear Vb
         go_wp2
         refine wp_region_noPanic ?_
         refine wp_region_held_drew (S := (fun wv => Below w7.drew.heap.size w7.drew wv)) (by kernel_rfl) ((Below.refl w7.drew.heap.size w7.drew).drew) (fun hS => ?_)
         refine wpAnyH_take (i := 0) (oi := ⟨some 112, .load 29 (.tmp 7), 29, "law.go:86", #[], none⟩) (v := .agg (([.int .i64 kd, .int .i64 z, .int .i64 o1, .int .i64 o2, .int .i64 o3, .int .i64 o4, .int .i64 o5, .int .u32 wa, .int .u32 to, .slice A2 n c2, .slice B2 m d2] : List Value)).toArray) rfl (by kernel_rfl) (by kernel_rfl) (by kernel_rfl) (fun _ _ _ h => h) (yieldsIf_load_mid (by rfl) _ _ (by rfl) (sx) (0) (by rfl) (([.int .i64 kd, .int .i64 z, .int .i64 o1, .int .i64 o2, .int .i64 o3, .int .i64 o4, .int .i64 o5, .int .u32 wa, .int .u32 to, .slice A2 n c2, .slice B2 m d2] : List Value)) _ (fun wv hS => blk_rngl (blk_below Vx.out hS (blk_lt Vx.out))) Try.underlying29 (by rfl) (by kernel_rfl)) hS ?_
         try simp only [Act.put, List.setIfInBounds_toArray, List.set_cons_zero, List.set_cons_succ]
         refine wpAnyH_take (i := 1) (oi := ⟨some 113, .load 29 (.tmp 10), 29, "law.go:86", #[⟨4, .gcOnly .lateStores⟩], none⟩) (v := .agg (([.int .i64 kd, .int .i64 y, .int .i64 o1, .int .i64 o2, .int .i64 o3, .int .i64 o4, .int .i64 o5, .int .u32 wa, .int .u32 to, .slice A3 n c3, .slice B3 m d3] : List Value)).toArray) rfl (by kernel_rfl) (by kernel_rfl) (by kernel_rfl) (fun _ _ _ h => h) (yieldsIf_load_mid (by rfl) _ _ (by rfl) (sy) (0) (by rfl) (([.int .i64 kd, .int .i64 y, .int .i64 o1, .int .i64 o2, .int .i64 o3, .int .i64 o4, .int .i64 o5, .int .u32 wa, .int .u32 to, .slice A3 n c3, .slice B3 m d3] : List Value)) _ (fun wv hS => blk_rngl (blk_below Vy.out hS (blk_lt Vy.out))) Try.underlying29 (by rfl) (by kernel_rfl)) hS ?_
         try simp only [Act.put, List.setIfInBounds_toArray, List.set_cons_zero, List.set_cons_succ]
         refine inv_region (fun a0 fu listed a u => ∃ (xq0 xq1 : Bool) (p13 p14 : Value) (sp sq : Nat), listed = #[true, true, xq0, xq1, false, false] ∧ a = ⟨((a0.tmps.setIfInBounds 13 p13).setIfInBounds 14 p14), a0.defers⟩ ∧ (bif xq0 then 0 else 1) + (bif xq1 then 0 else 1) + 2 ≤ fu ∧ Below w7.drew.heap.size w7.drew u ∧ (xq0 = true → p13 = .pointer (some ⟨sp, 0, none⟩) ∧ w7.drew.heap.size ≤ sp ∧ u.heap[sp]? = some (.cells #[.int .i64 0, .int .i64 0, .int .i64 0, .int .i64 0, .int .i64 0, .int .i64 0, .int .i64 0, .int .u32 0, .int .u32 0, .slice none 0 0, .slice none 0 0] 29)) ∧ (xq1 = true → p14 = .pointer (some ⟨sq, 0, none⟩) ∧ w7.drew.heap.size ≤ sq ∧ u.heap[sq]? = some (.cells #[.int .i64 0, .int .i64 0, .int .i64 0, .int .i64 0, .int .i64 0, .int .i64 0, .int .i64 0, .int .u32 0, .int .u32 0, .slice none 0 0, .slice none 0 0] 29)) ∧ (xq0 = true → xq1 = true → sp ≠ sq)) ⟨false, false, undef, undef, 0, 0, rfl, (by first | (simp only [List.setIfInBounds_toArray, List.set_cons_zero, List.set_cons_succ]; done) | rfl), (by show _ + _ ≤ _; decide), hS, (fun h => nomatch h), (fun h => nomatch h), (fun h => nomatch h)⟩ ?_
         clear hS; rintro fu listed a u ⟨xq0, xq1, p13, p14, sp, sq, rfl, rfl, hn, hS, ksp, ksq, d0⟩ IH
         try simp only [List.setIfInBounds_toArray, List.set_cons_zero, List.set_cons_succ]
         by_cases hall : (xq0 && (xq1)) = true
         rotate_left
         · have hbad : ((xq0 && (xq1))) = false := inv_not hall
           obtain ⟨fu, rfl⟩ : ∃ m, fu = m + 1 := ⟨fu - 1, by omega⟩
           refine inv_step (bad := ((xq0 && (xq1)))) (fun i => ((i == 2 && !xq0) || ((i == 3 && !xq1)))) ((show ∀ xq0 xq1 : Bool, (((xq0 && (xq1))) || (!(Region.ready _ _ #[true, true, xq0, xq1, false, false]).isEmpty && (Region.ready _ _ #[true, true, xq0, xq1, false, false]).all (fun i => ((i == 2 && !xq0) || ((i == 3 && !xq1)))))) = true from by intro xq0 xq1; cases xq0 <;> cases xq1 <;> kernel_rfl) xq0 xq1) hbad (fun i hi => ?_)
           simp only [Bool.or_eq_true, Bool.and_eq_true, beq_iff_eq, Bool.not_eq_true'] at hi
           clear hall hbad
           rcases hi with ⟨rfl, rfl⟩ | ⟨rfl, rfl⟩
           · skip
             refine inv_arm (o := ⟨some 13, .alloc 29, 0, "law.go:86", #[], none⟩) rfl (fun K hK => ?_)
             go_simp
             have zs := hS.size
             have hb := (Below.refl u.heap.size u).alloc (Nat.le_refl _) (.cells #[.int .i64 0, .int .i64 0, .int .i64 0, .int .i64 0, .int .i64 0, .int .i64 0, .int .i64 0, .int .u32 0, .int .u32 0, .slice none 0 0, .slice none 0 0] 29)
             replace hS := hS.trans (hb.mono hS.size)
             refine Shut.out hK _ _ hS (fun _ => ?_)
             clear hK K
             try simp only [Act.put, List.setIfInBounds_toArray, List.set_cons_zero, List.set_cons_succ]
             exact IH _ _ _ _ (by omega) ⟨true, xq1, _, p14, u.heap.size, sq, rfl, (by (try simp only [List.setIfInBounds_toArray, List.set_cons_zero, List.set_cons_succ]); try rfl), (by simp only [cond_true, cond_false] at hn ⊢; omega), hS, (fun _ => ⟨rfl, zs, heap_alloc_new _ _⟩), (fun h => ⟨(ksq h).1, (ksq h).2.1, blk_below (ksq h).2.2 hb (blk_lt (ksq h).2.2)⟩), (fun _ h e => absurd (e ▸ blk_lt (ksq h).2.2) (Nat.lt_irrefl _))⟩
           · skip
             refine inv_arm (o := ⟨some 14, .alloc 29, 0, "law.go:86", #[], none⟩) rfl (fun K hK => ?_)
             go_simp
             have zs := hS.size
             have hb := (Below.refl u.heap.size u).alloc (Nat.le_refl _) (.cells #[.int .i64 0, .int .i64 0, .int .i64 0, .int .i64 0, .int .i64 0, .int .i64 0, .int .i64 0, .int .u32 0, .int .u32 0, .slice none 0 0, .slice none 0 0] 29)
             replace hS := hS.trans (hb.mono hS.size)
             refine Shut.out hK _ _ hS (fun _ => ?_)
             clear hK K
             try simp only [Act.put, List.setIfInBounds_toArray, List.set_cons_zero, List.set_cons_succ]
             exact IH _ _ _ _ (by omega) ⟨xq0, true, p13, _, sp, u.heap.size, rfl, (by (try simp only [List.setIfInBounds_toArray, List.set_cons_zero, List.set_cons_succ]); try rfl), (by simp only [cond_true, cond_false] at hn ⊢; omega), hS, (fun h => ⟨(ksp h).1, (ksp h).2.1, blk_below (ksp h).2.2 hb (blk_lt (ksp h).2.2)⟩), (fun _ => ⟨rfl, zs, heap_alloc_new _ _⟩), (fun h _ e => absurd (e ▸ blk_lt (ksp h).2.2) (Nat.lt_irrefl _))⟩
         simp only [Bool.and_eq_true] at hall
         obtain ⟨rfl, rfl⟩ := hall
         obtain ⟨rfl, gsp, Vsp⟩ := ksp rfl
         obtain ⟨rfl, gsq, Vsq⟩ := ksq rfl
         replace d0 := d0 rfl rfl
         obtain ⟨fu, rfl⟩ : ∃ m, fu = m + 2 := ⟨fu - 2, by simp only [cond_true] at hn; omega⟩
         clear IH hn 
         have neo_p := Nat.ne_of_lt (Nat.lt_of_lt_of_le (blk_lt Vo.out) gsp)
         have nex_p := Nat.ne_of_lt (Nat.lt_of_lt_of_le (blk_lt Vx.out) gsp)
         have ney_p := Nat.ne_of_lt (Nat.lt_of_lt_of_le (blk_lt Vy.out) gsp)
         have neo_q := Nat.ne_of_lt (Nat.lt_of_lt_of_le (blk_lt Vo.out) gsq)
         have nex_q := Nat.ne_of_lt (Nat.lt_of_lt_of_le (blk_lt Vx.out) gsq)
         have ney_q := Nat.ne_of_lt (Nat.lt_of_lt_of_le (blk_lt Vy.out) gsq)
         have nep_q : sp ≠ sq := d0
         have gep := Nat.le_trans HB.out.2 gsp
         have geq := Nat.le_trans HB.out.2 gsq
         replace Vo := Lib.hid (blk_below Vo.out hS (blk_lt Vo.out))
         replace Vx := Lib.hid (blk_below Vx.out hS (blk_lt Vx.out))
         replace Vy := Lib.hid (blk_below Vy.out hS (blk_lt Vy.out))
         replace ON2 := Lib.hid (own_below ON2.out hS)
         replace OL2 := Lib.hid (own_below OL2.out hS)
         replace ON3 := Lib.hid (own_below ON3.out hS)
         replace OL3 := Lib.hid (own_below OL3.out hS)
         replace HB := Lib.hid (And.intro (HB.out.1.trans (hS.mono HB.out.2)) (Nat.le_trans HB.out.2 hS.size))
         have Vp := Lib.hid Vsp
         clear Vsp
         have Vq := Lib.hid Vsq
         clear Vsq
         obtain ⟨w8, hw8⟩ : ∃ W, u.setCells (sp) 0 [.int .i64 kd, .int .i64 z, .int .i64 o1, .int .i64 o2, .int .i64 o3, .int .i64 o4, .int .i64 o5, .int .u32 wa, .int .u32 to, .slice A2 n c2, .slice B2 m d2] = W := ⟨_, rfl⟩
         have Vo2 := (hw8 ▸ heap_setCells_ne neo_p [.int .i64 kd, .int .i64 z, .int .i64 o1, .int .i64 o2, .int .i64 o3, .int .i64 o4, .int .i64 o5, .int .u32 wa, .int .u32 to, .slice A2 n c2, .slice B2 m d2] 0 u : w8.heap[w.heap.size]? = _).trans Vo.out
         have Vx2 := (hw8 ▸ heap_setCells_ne nex_p [.int .i64 kd, .int .i64 z, .int .i64 o1, .int .i64 o2, .int .i64 o3, .int .i64 o4, .int .i64 o5, .int .u32 wa, .int .u32 to, .slice A2 n c2, .slice B2 m d2] 0 u : w8.heap[sx]? = _).trans Vx.out
         have Vy2 := (hw8 ▸ heap_setCells_ne ney_p [.int .i64 kd, .int .i64 z, .int .i64 o1, .int .i64 o2, .int .i64 o3, .int .i64 o4, .int .i64 o5, .int .u32 wa, .int .u32 to, .slice A2 n c2, .slice B2 m d2] 0 u : w8.heap[sy]? = _).trans Vy.out
         have Vq2 := (hw8 ▸ heap_setCells_ne nep_q.symm [.int .i64 kd, .int .i64 z, .int .i64 o1, .int .i64 o2, .int .i64 o3, .int .i64 o4, .int .i64 o5, .int .u32 wa, .int .u32 to, .slice A2 n c2, .slice B2 m d2] 0 u : w8.heap[sq]? = _).trans Vq.out
         have Vp2 : w8.heap[sp]? = some (.cells #[.int .i64 kd, .int .i64 z, .int .i64 o1, .int .i64 o2, .int .i64 o3, .int .i64 o4, .int .i64 o5, .int .u32 wa, .int .u32 to, .slice A2 n c2, .slice B2 m d2] 29) := hw8 ▸ heap_setCells [.int .i64 kd, .int .i64 z, .int .i64 o1, .int .i64 o2, .int .i64 o3, .int .i64 o4, .int .i64 o5, .int .u32 wa, .int .u32 to, .slice A2 n c2, .slice B2 m d2] u [] [.int .i64 0, .int .i64 0, .int .i64 0, .int .i64 0, .int .i64 0, .int .i64 0, .int .i64 0, .int .u32 0, .int .u32 0, .slice none 0 0, .slice none 0 0] rfl Vp.out
         have hbb : Below _ _ w8 := hw8 ▸ below_setCells gep [.int .i64 kd, .int .i64 z, .int .i64 o1, .int .i64 o2, .int .i64 o3, .int .i64 o4, .int .i64 o5, .int .u32 wa, .int .u32 to, .slice A2 n c2, .slice B2 m d2] 0 u HB.out.1
         have hbs : w8.heap.size = u.heap.size := by rw [← hw8, size_setCells]
         have thp := Lib.hid (there_blk Vp.out (k := 11) rfl)
         replace ON2 := Lib.hid (hw8 ▸ own_setCells (by decide) [.int .i64 kd, .int .i64 z, .int .i64 o1, .int .i64 o2, .int .i64 o3, .int .i64 o4, .int .i64 o5, .int .u32 wa, .int .u32 to, .slice A2 n c2, .slice B2 m d2] 0 ON2.out Vp.out)
         replace OL2 := Lib.hid (hw8 ▸ own_setCells (by decide) [.int .i64 kd, .int .i64 z, .int .i64 o1, .int .i64 o2, .int .i64 o3, .int .i64 o4, .int .i64 o5, .int .u32 wa, .int .u32 to, .slice A2 n c2, .slice B2 m d2] 0 OL2.out Vp.out)
         replace ON3 := Lib.hid (hw8 ▸ own_setCells (by decide) [.int .i64 kd, .int .i64 z, .int .i64 o1, .int .i64 o2, .int .i64 o3, .int .i64 o4, .int .i64 o5, .int .u32 wa, .int .u32 to, .slice A2 n c2, .slice B2 m d2] 0 ON3.out Vp.out)
         replace OL3 := Lib.hid (hw8 ▸ own_setCells (by decide) [.int .i64 kd, .int .i64 z, .int .i64 o1, .int .i64 o2, .int .i64 o3, .int .i64 o4, .int .i64 o5, .int .u32 wa, .int .u32 to, .slice A2 n c2, .slice B2 m d2] 0 OL3.out Vp.out)
         replace Vo := Lib.hid Vo2
         clear Vo2
         replace Vx := Lib.hid Vx2
         clear Vx2
         replace Vy := Lib.hid Vy2
         clear Vy2
         replace Vp := Lib.hid Vp2
         clear Vp2
         replace Vq := Lib.hid Vq2
         clear Vq2
         replace HB := Lib.hid (And.intro hbb (show _ ≤ w8.heap.size by rw [hbs]; exact HB.out.2))
         clear hbb hbs
         refine wpAnyH_ready (rs := [4]) (by kernel_rfl) (by simp) (AllReadyH.cons (o := ⟨none, .store 29 (.tmp 13) (.tmp 112), 0, "law.go:86", #[⟨2, .data⟩, ⟨0, .data⟩, ⟨0, .phase⟩, ⟨1, .textOnly .lateStores⟩, ⟨2, .phase⟩, ⟨3, .phase⟩], none⟩) rfl (fun K hK => ?_) AllReadyH.nil)
         refine op_storeS (by rfl) rfl rfl rfl thp.out (by kernel_rfl) (by simp [Value.oneCell']) hw8 ?_
         replace hS := hw8 ▸ below_setCells gsp [.int .i64 kd, .int .i64 z, .int .i64 o1, .int .i64 o2, .int .i64 o3, .int .i64 o4, .int .i64 o5, .int .u32 wa, .int .u32 to, .slice A2 n c2, .slice B2 m d2] 0 _ hS
         obtain ⟨w9, hw9⟩ : ∃ W, w8.setCells (sq) 0 [.int .i64 kd, .int .i64 y, .int .i64 o1, .int .i64 o2, .int .i64 o3, .int .i64 o4, .int .i64 o5, .int .u32 wa, .int .u32 to, .slice A3 n c3, .slice B3 m d3] = W := ⟨_, rfl⟩
         have Vo2 := (hw9 ▸ heap_setCells_ne neo_q [.int .i64 kd, .int .i64 y, .int .i64 o1, .int .i64 o2, .int .i64 o3, .int .i64 o4, .int .i64 o5, .int .u32 wa, .int .u32 to, .slice A3 n c3, .slice B3 m d3] 0 w8 : w9.heap[w.heap.size]? = _).trans Vo.out
         have Vx2 := (hw9 ▸ heap_setCells_ne nex_q [.int .i64 kd, .int .i64 y, .int .i64 o1, .int .i64 o2, .int .i64 o3, .int .i64 o4, .int .i64 o5, .int .u32 wa, .int .u32 to, .slice A3 n c3, .slice B3 m d3] 0 w8 : w9.heap[sx]? = _).trans Vx.out
         have Vy2 := (hw9 ▸ heap_setCells_ne ney_q [.int .i64 kd, .int .i64 y, .int .i64 o1, .int .i64 o2, .int .i64 o3, .int .i64 o4, .int .i64 o5, .int .u32 wa, .int .u32 to, .slice A3 n c3, .slice B3 m d3] 0 w8 : w9.heap[sy]? = _).trans Vy.out
         have Vp2 := (hw9 ▸ heap_setCells_ne nep_q [.int .i64 kd, .int .i64 y, .int .i64 o1, .int .i64 o2, .int .i64 o3, .int .i64 o4, .int .i64 o5, .int .u32 wa, .int .u32 to, .slice A3 n c3, .slice B3 m d3] 0 w8 : w9.heap[sp]? = _).trans Vp.out
         have Vq2 : w9.heap[sq]? = some (.cells #[.int .i64 kd, .int .i64 y, .int .i64 o1, .int .i64 o2, .int .i64 o3, .int .i64 o4, .int .i64 o5, .int .u32 wa, .int .u32 to, .slice A3 n c3, .slice B3 m d3] 29) := hw9 ▸ heap_setCells [.int .i64 kd, .int .i64 y, .int .i64 o1, .int .i64 o2, .int .i64 o3, .int .i64 o4, .int .i64 o5, .int .u32 wa, .int .u32 to, .slice A3 n c3, .slice B3 m d3] w8 [] [.int .i64 0, .int .i64 0, .int .i64 0, .int .i64 0, .int .i64 0, .int .i64 0, .int .i64 0, .int .u32 0, .int .u32 0, .slice none 0 0, .slice none 0 0] rfl Vq.out
         have hbb : Below _ _ w9 := hw9 ▸ below_setCells geq [.int .i64 kd, .int .i64 y, .int .i64 o1, .int .i64 o2, .int .i64 o3, .int .i64 o4, .int .i64 o5, .int .u32 wa, .int .u32 to, .slice A3 n c3, .slice B3 m d3] 0 w8 HB.out.1
         have hbs : w9.heap.size = w8.heap.size := by rw [← hw9, size_setCells]
         have thq := Lib.hid (there_blk Vq.out (k := 11) rfl)
         replace ON2 := Lib.hid (hw9 ▸ own_setCells (by decide) [.int .i64 kd, .int .i64 y, .int .i64 o1, .int .i64 o2, .int .i64 o3, .int .i64 o4, .int .i64 o5, .int .u32 wa, .int .u32 to, .slice A3 n c3, .slice B3 m d3] 0 ON2.out Vq.out)
         replace OL2 := Lib.hid (hw9 ▸ own_setCells (by decide) [.int .i64 kd, .int .i64 y, .int .i64 o1, .int .i64 o2, .int .i64 o3, .int .i64 o4, .int .i64 o5, .int .u32 wa, .int .u32 to, .slice A3 n c3, .slice B3 m d3] 0 OL2.out Vq.out)
         replace ON3 := Lib.hid (hw9 ▸ own_setCells (by decide) [.int .i64 kd, .int .i64 y, .int .i64 o1, .int .i64 o2, .int .i64 o3, .int .i64 o4, .int .i64 o5, .int .u32 wa, .int .u32 to, .slice A3 n c3, .slice B3 m d3] 0 ON3.out Vq.out)
         replace OL3 := Lib.hid (hw9 ▸ own_setCells (by decide) [.int .i64 kd, .int .i64 y, .int .i64 o1, .int .i64 o2, .int .i64 o3, .int .i64 o4, .int .i64 o5, .int .u32 wa, .int .u32 to, .slice A3 n c3, .slice B3 m d3] 0 OL3.out Vq.out)
         replace Vo := Lib.hid Vo2
         clear Vo2
         replace Vx := Lib.hid Vx2
         clear Vx2
         replace Vy := Lib.hid Vy2
         clear Vy2
         replace Vp := Lib.hid Vp2
         clear Vp2
         replace Vq := Lib.hid Vq2
         clear Vq2
         replace HB := Lib.hid (And.intro hbb (show _ ≤ w9.heap.size by rw [hbs]; exact HB.out.2))
         clear hbb hbs
         refine Shut.out hK _ _ hS (fun _ => ?_)
         clear hK K
         try simp only [Act.put, List.setIfInBounds_toArray, List.set_cons_zero, List.set_cons_succ]
         refine wpAnyH_ready (rs := [5]) (by kernel_rfl) (by simp) (AllReadyH.cons (o := ⟨none, .store 29 (.tmp 14) (.tmp 113), 0, "law.go:86", #[⟨3, .data⟩, ⟨1, .data⟩, ⟨4, .chain⟩, ⟨0, .phase⟩, ⟨1, .phase⟩, ⟨2, .phase⟩, ⟨3, .phase⟩, ⟨4, .phase⟩], none⟩) rfl (fun K hK => ?_) AllReadyH.nil)
         refine op_storeS (by rfl) rfl rfl rfl thq.out (by kernel_rfl) (by simp [Value.oneCell']) hw9 ?_
         replace hS := hw9 ▸ below_setCells gsq [.int .i64 kd, .int .i64 y, .int .i64 o1, .int .i64 o2, .int .i64 o3, .int .i64 o4, .int .i64 o5, .int .u32 wa, .int .u32 to, .slice A3 n c3, .slice B3 m d3] 0 _ hS
         refine Shut.out hK _ _ hS (fun _ => ?_)
         clear hK K
         try simp only [Act.put, List.setIfInBounds_toArray, List.set_cons_zero, List.set_cons_succ]
         refine wpAnyH_done (by kernel_rfl) ?_ _
         refine NoPanic.normal ?_
         clear hS gsp gsq thp thq
         go_wp2
         obtain ⟨we, hwe⟩ : ∃ W, (w9).drew = W := ⟨_, rfl⟩
         have hb : Below (w9).heap.size (w9) we := hwe ▸ (Below.refl _ _).drew
         replace Vo := Lib.hid (blk_below Vo.out hb (blk_lt Vo.out))
         replace Vx := Lib.hid (blk_below Vx.out hb (blk_lt Vx.out))
         replace Vy := Lib.hid (blk_below Vy.out hb (blk_lt Vy.out))
         replace Vp := Lib.hid (blk_below Vp.out hb (blk_lt Vp.out))
         replace Vq := Lib.hid (blk_below Vq.out hb (blk_lt Vq.out))
         replace ON2 := Lib.hid (own_below ON2.out hb)
         replace OL2 := Lib.hid (own_below OL2.out hb)
         replace ON3 := Lib.hid (own_below ON3.out hb)
         replace OL3 := Lib.hid (own_below OL3.out hb)
         replace HB := Lib.hid (And.intro (HB.out.1.trans (hb.mono HB.out.2)) (Nat.le_trans HB.out.2 hb.size))
         clear hb
         have C0 : we.cell? ⟨w.heap.size, 1, none⟩ = some (.int .i64 o0) := (blk_cell Vo.out 1).trans rfl
         have kp : we.cell? ⟨sp, 1, none⟩ = some (.int .i64 z) := (blk_cell Vp.out 1).trans rfl
         have zp : we.frozen? ⟨sp, 1, none⟩ = false := blk_frozen Vp.out 1
         obtain ⟨w10, hw10⟩ : ∃ W, we.setCell ⟨sp, 1, none⟩ (.int .i64 o0) = W := ⟨_, rfl⟩
         have Vo2 : w10.heap[w.heap.size]? = some (.cells #[.int .i64 kd, .int .i64 o0, .int .i64 o1, .int .i64 o2, .int .i64 o3, .int .i64 o4, .int .i64 o5, .int .u32 wa, .int .u32 to, .slice A n c, .slice B m d] 29) := hw10 ▸ (Below.heap_setCell _ ⟨sp, 1, none⟩ (.int .i64 o0) (w.heap.size) neo_p).trans Vo.out
         have Vx2 : w10.heap[sx]? = some (.cells #[.int .i64 kd, .int .i64 z, .int .i64 o1, .int .i64 o2, .int .i64 o3, .int .i64 o4, .int .i64 o5, .int .u32 wa, .int .u32 to, .slice A2 n c2, .slice B2 m d2] 29) := hw10 ▸ (Below.heap_setCell _ ⟨sp, 1, none⟩ (.int .i64 o0) (sx) nex_p).trans Vx.out
         have Vy2 : w10.heap[sy]? = some (.cells #[.int .i64 kd, .int .i64 y, .int .i64 o1, .int .i64 o2, .int .i64 o3, .int .i64 o4, .int .i64 o5, .int .u32 wa, .int .u32 to, .slice A3 n c3, .slice B3 m d3] 29) := hw10 ▸ (Below.heap_setCell _ ⟨sp, 1, none⟩ (.int .i64 o0) (sy) ney_p).trans Vy.out
         have Vq2 : w10.heap[sq]? = some (.cells #[.int .i64 kd, .int .i64 y, .int .i64 o1, .int .i64 o2, .int .i64 o3, .int .i64 o4, .int .i64 o5, .int .u32 wa, .int .u32 to, .slice A3 n c3, .slice B3 m d3] 29) := hw10 ▸ (Below.heap_setCell _ ⟨sp, 1, none⟩ (.int .i64 o0) (sq) nep_q.symm).trans Vq.out
         replace ON2 := Lib.hid (hw10 ▸ own_set (o := 1) (u := .int .i64 o0) ON2.out Vp.out (by decide))
         replace OL2 := Lib.hid (hw10 ▸ own_set (o := 1) (u := .int .i64 o0) OL2.out Vp.out (by decide))
         replace ON3 := Lib.hid (hw10 ▸ own_set (o := 1) (u := .int .i64 o0) ON3.out Vp.out (by decide))
         replace OL3 := Lib.hid (hw10 ▸ own_set (o := 1) (u := .int .i64 o0) OL3.out Vp.out (by decide))
         have Vp2 : w10.heap[sp]? = some (.cells #[.int .i64 kd, .int .i64 o0, .int .i64 o1, .int .i64 o2, .int .i64 o3, .int .i64 o4, .int .i64 o5, .int .u32 wa, .int .u32 to, .slice A2 n c2, .slice B2 m d2] 29) := hw10 ▸ blk_set (j := 1) Vp.out (.int .i64 o0)
         have hbb : Below _ _ w10 := hw10 ▸ HB.out.1.setCell (p := ⟨sp, 1, none⟩) gep _
         have hbs : w10.heap.size = we.heap.size := by rw [← hw10]; simp [World.setCell]
         replace Vo := Lib.hid Vo2
         clear Vo2
         replace Vx := Lib.hid Vx2
         clear Vx2
         replace Vy := Lib.hid Vy2
         clear Vy2
         replace Vp := Lib.hid Vp2
         clear Vp2
         replace Vq := Lib.hid Vq2
         clear Vq2
         replace HB := Lib.hid (And.intro hbb (show _ ≤ w10.heap.size by rw [hbs]; exact HB.out.2))
         clear hbb hbs
         have C1 : w10.cell? ⟨w.heap.size, 1, none⟩ = some (.int .i64 o0) := (blk_cell Vo.out 1).trans rfl
         have kq : w10.cell? ⟨sq, 1, none⟩ = some (.int .i64 y) := (blk_cell Vq.out 1).trans rfl
         have zq : w10.frozen? ⟨sq, 1, none⟩ = false := blk_frozen Vq.out 1
         obtain ⟨w11, hw11⟩ : ∃ W, w10.setCell ⟨sq, 1, none⟩ (.int .i64 o0) = W := ⟨_, rfl⟩
         have Vo2 : w11.heap[w.heap.size]? = some (.cells #[.int .i64 kd, .int .i64 o0, .int .i64 o1, .int .i64 o2, .int .i64 o3, .int .i64 o4, .int .i64 o5, .int .u32 wa, .int .u32 to, .slice A n c, .slice B m d] 29) := hw11 ▸ (Below.heap_setCell _ ⟨sq, 1, none⟩ (.int .i64 o0) (w.heap.size) neo_q).trans Vo.out
         have Vx2 : w11.heap[sx]? = some (.cells #[.int .i64 kd, .int .i64 z, .int .i64 o1, .int .i64 o2, .int .i64 o3, .int .i64 o4, .int .i64 o5, .int .u32 wa, .int .u32 to, .slice A2 n c2, .slice B2 m d2] 29) := hw11 ▸ (Below.heap_setCell _ ⟨sq, 1, none⟩ (.int .i64 o0) (sx) nex_q).trans Vx.out
         have Vy2 : w11.heap[sy]? = some (.cells #[.int .i64 kd, .int .i64 y, .int .i64 o1, .int .i64 o2, .int .i64 o3, .int .i64 o4, .int .i64 o5, .int .u32 wa, .int .u32 to, .slice A3 n c3, .slice B3 m d3] 29) := hw11 ▸ (Below.heap_setCell _ ⟨sq, 1, none⟩ (.int .i64 o0) (sy) ney_q).trans Vy.out
         have Vp2 : w11.heap[sp]? = some (.cells #[.int .i64 kd, .int .i64 o0, .int .i64 o1, .int .i64 o2, .int .i64 o3, .int .i64 o4, .int .i64 o5, .int .u32 wa, .int .u32 to, .slice A2 n c2, .slice B2 m d2] 29) := hw11 ▸ (Below.heap_setCell _ ⟨sq, 1, none⟩ (.int .i64 o0) (sp) nep_q).trans Vp.out
         replace ON2 := Lib.hid (hw11 ▸ own_set (o := 1) (u := .int .i64 o0) ON2.out Vq.out (by decide))
         replace OL2 := Lib.hid (hw11 ▸ own_set (o := 1) (u := .int .i64 o0) OL2.out Vq.out (by decide))
         replace ON3 := Lib.hid (hw11 ▸ own_set (o := 1) (u := .int .i64 o0) ON3.out Vq.out (by decide))
         replace OL3 := Lib.hid (hw11 ▸ own_set (o := 1) (u := .int .i64 o0) OL3.out Vq.out (by decide))
         have Vq2 : w11.heap[sq]? = some (.cells #[.int .i64 kd, .int .i64 o0, .int .i64 o1, .int .i64 o2, .int .i64 o3, .int .i64 o4, .int .i64 o5, .int .u32 wa, .int .u32 to, .slice A3 n c3, .slice B3 m d3] 29) := hw11 ▸ blk_set (j := 1) Vq.out (.int .i64 o0)
         have hbb : Below _ _ w11 := hw11 ▸ HB.out.1.setCell (p := ⟨sq, 1, none⟩) geq _
         have hbs : w11.heap.size = w10.heap.size := by rw [← hw11]; simp [World.setCell]
         replace Vo := Lib.hid Vo2
         clear Vo2
         replace Vx := Lib.hid Vx2
         clear Vx2
         replace Vy := Lib.hid Vy2
         clear Vy2
         replace Vp := Lib.hid Vp2
         clear Vp2
         replace Vq := Lib.hid Vq2
         clear Vq2
         replace HB := Lib.hid (And.intro hbb (show _ ≤ w11.heap.size by rw [hbs]; exact HB.out.2))
         clear hbb hbs
         have C2 : w11.cell? ⟨w.heap.size, 1, none⟩ = some (.int .i64 o0) := (blk_cell Vo.out 1).trans rfl
         refine wp_region_noPanic ?_
         refine wp_region_held_drew (S := (fun wv => Hid (wv.cell? ⟨w.heap.size, 1, none⟩ = some (.int .i64 o0)))) (by kernel_rfl) ((by rw [hwe]; exact Lib.hid C0)) (fun hS => ?_)
         rw [hwe] at hS ⊢
         refine wpAnyH_take (i := 0) (oi := ⟨some 114, .fieldAddr 29 (.tmp 3) 1, 0, "law.go:87", #[], none⟩) (v := ?_) rfl (by kernel_rfl) (by kernel_rfl) (by kernel_rfl) (fun _ _ _ h => h) (Or.inl ⟨by rfl, ?_⟩) hS ?_
         rotate_left
         · intro wv _; go_simp; try with_reducible rfl
         try simp only [Act.put, List.setIfInBounds_toArray, List.set_cons_zero, List.set_cons_succ]
         refine wpAnyH_take (i := 1) (oi := ⟨some 115, .indexAddr 22 (.tmp 114) (.const (Value.int IntKind.i64 0)), 0, "law.go:87", #[⟨0, .data⟩], none⟩) (v := ?_) rfl (by kernel_rfl) (by kernel_rfl) (by kernel_rfl) (fun _ _ _ h => h) (Or.inl ⟨by rfl, ?_⟩) hS ?_
         rotate_left
         · intro wv _; go_simp; try with_reducible rfl
         try simp only [Act.put, List.setIfInBounds_toArray, List.set_cons_zero, List.set_cons_succ]
         refine wpAnyH_take (i := 2) (oi := ⟨some 116, .load 2 (.tmp 115), 2, "law.go:87", #[⟨1, .data⟩], none⟩) (v := ?_) rfl (by kernel_rfl) (by kernel_rfl) (by kernel_rfl) (fun _ _ _ h => h) (Or.inl ⟨by rfl, ?_⟩) hS ?_
         rotate_left
         · intro wv hS; have hrun := hS.out; go_simp; try with_reducible rfl
         try simp only [Act.put, List.setIfInBounds_toArray, List.set_cons_zero, List.set_cons_succ]
         refine wpAnyH_take (i := 3) (oi := ⟨some 117, .fieldAddr 29 (.tmp 3) 1, 0, "law.go:87", #[⟨8, .gcOnly .lateStores⟩], none⟩) (v := ?_) rfl (by kernel_rfl) (by kernel_rfl) (by kernel_rfl) (fun _ _ _ h => h) (Or.inl ⟨by rfl, ?_⟩) hS ?_
         rotate_left
         · intro wv _; go_simp; try with_reducible rfl
         try simp only [Act.put, List.setIfInBounds_toArray, List.set_cons_zero, List.set_cons_succ]
         refine wpAnyH_take (i := 4) (oi := ⟨some 118, .indexAddr 22 (.tmp 117) (.const (Value.int IntKind.i64 0)), 0, "law.go:87", #[⟨3, .data⟩, ⟨8, .gcOnly .lateStores⟩], none⟩) (v := ?_) rfl (by kernel_rfl) (by kernel_rfl) (by kernel_rfl) (fun _ _ _ h => h) (Or.inl ⟨by rfl, ?_⟩) hS ?_
         rotate_left
         · intro wv _; go_simp; try with_reducible rfl
         try simp only [Act.put, List.setIfInBounds_toArray, List.set_cons_zero, List.set_cons_succ]
         refine wpAnyH_take (i := 5) (oi := ⟨some 119, .load 2 (.tmp 118), 2, "law.go:87", #[⟨4, .data⟩, ⟨8, .gcOnly .lateStores⟩], none⟩) (v := ?_) rfl (by kernel_rfl) (by kernel_rfl) (by kernel_rfl) (fun _ _ _ h => h) (Or.inl ⟨by rfl, ?_⟩) hS ?_
         rotate_left
         · intro wv hS; have hrun := hS.out; go_simp; try with_reducible rfl
         try simp only [Act.put, List.setIfInBounds_toArray, List.set_cons_zero, List.set_cons_succ]
         refine wpAnyH_take (i := 6) (oi := ⟨some 120, .fieldAddr 29 (.tmp 13) 1, 0, "law.go:87", #[], none⟩) (v := ?_) rfl (by kernel_rfl) (by kernel_rfl) (by kernel_rfl) (fun _ _ _ h => h) (Or.inl ⟨by rfl, ?_⟩) hS ?_
         rotate_left
         · intro wv _; go_simp; try with_reducible rfl
         try simp only [Act.put, List.setIfInBounds_toArray, List.set_cons_zero, List.set_cons_succ]
         refine wpAnyH_take (i := 7) (oi := ⟨some 121, .indexAddr 22 (.tmp 120) (.const (Value.int IntKind.i64 0)), 0, "law.go:87", #[⟨6, .data⟩, ⟨0, .phase⟩, ⟨1, .phase⟩, ⟨2, .phase⟩, ⟨3, .textOnly .lateStores⟩, ⟨4, .textOnly .lateStores⟩, ⟨5, .textOnly .lateStores⟩], none⟩) (v := ?_) rfl (by kernel_rfl) (by kernel_rfl) (by kernel_rfl) (fun _ _ _ h => h) (Or.inl ⟨by rfl, ?_⟩) hS ?_
         rotate_left
         · intro wv _; go_simp; try with_reducible rfl
         try simp only [Act.put, List.setIfInBounds_toArray, List.set_cons_zero, List.set_cons_succ]
         refine wpAnyH_take (i := 9) (oi := ⟨some 122, .fieldAddr 29 (.tmp 14) 1, 0, "law.go:87", #[], none⟩) (v := ?_) rfl (by kernel_rfl) (by kernel_rfl) (by kernel_rfl) (fun _ _ _ h => h) (Or.inl ⟨by rfl, ?_⟩) hS ?_
         rotate_left
         · intro wv _; go_simp; try with_reducible rfl
         try simp only [Act.put, List.setIfInBounds_toArray, List.set_cons_zero, List.set_cons_succ]
         refine wpAnyH_ready (rs := [8]) (by kernel_rfl) (by simp) (AllReadyH.cons (o := ⟨none, .store 2 (.tmp 121) (.tmp 116), 0, "law.go:87", #[⟨7, .data⟩, ⟨2, .data⟩, ⟨0, .phase⟩, ⟨1, .phase⟩, ⟨2, .phase⟩, ⟨3, .textOnly .lateStores⟩, ⟨4, .textOnly .lateStores⟩, ⟨5, .textOnly .lateStores⟩], none⟩) rfl (fun K hK => ?_) AllReadyH.nil)
         go_simp
         try rw [hw10]
         replace hS := Lib.hid C1
         refine Shut.out hK _ _ hS (fun _ => ?_)
         clear hK K
         try simp only [Act.put, List.setIfInBounds_toArray, List.set_cons_zero, List.set_cons_succ]
         refine wpAnyH_take (i := 10) (oi := ⟨some 123, .indexAddr 22 (.tmp 122) (.const (Value.int IntKind.i64 0)), 0, "law.go:87", #[⟨9, .data⟩, ⟨0, .phase⟩, ⟨1, .phase⟩, ⟨2, .phase⟩, ⟨3, .phase⟩, ⟨4, .phase⟩, ⟨5, .phase⟩, ⟨6, .phase⟩, ⟨7, .phase⟩, ⟨8, .phase⟩], none⟩) (v := ?_) rfl (by kernel_rfl) (by kernel_rfl) (by kernel_rfl) (fun _ _ _ h => h) (Or.inl ⟨by rfl, ?_⟩) hS ?_
         rotate_left
         · intro wv _; go_simp; try with_reducible rfl
         try simp only [Act.put, List.setIfInBounds_toArray, List.set_cons_zero, List.set_cons_succ]
         refine wpAnyH_ready (rs := [11]) (by kernel_rfl) (by simp) (AllReadyH.cons (o := ⟨none, .store 2 (.tmp 123) (.tmp 119), 0, "law.go:87", #[⟨10, .data⟩, ⟨5, .data⟩, ⟨8, .chain⟩, ⟨0, .phase⟩, ⟨1, .phase⟩, ⟨2, .phase⟩, ⟨3, .phase⟩, ⟨4, .phase⟩, ⟨5, .phase⟩, ⟨6, .phase⟩, ⟨7, .phase⟩, ⟨8, .phase⟩], none⟩) rfl (fun K hK => ?_) AllReadyH.nil)
         go_simp
         try rw [hw11]
         replace hS := Lib.hid C2
         refine Shut.out hK _ _ hS (fun _ => ?_)
         clear hK K
         try simp only [Act.put, List.setIfInBounds_toArray, List.set_cons_zero, List.set_cons_succ]
         refine wpAnyH_done (by kernel_rfl) ?_ _
         refine NoPanic.normal ?_
         clear hS C0 C1 C2 kp kq zp zq
         obtain ⟨co0, co1, co2, co3, co4, co5, co6, co7, co8, co9, co10⟩ := row11 Vo.out
         obtain ⟨cp0, cp1, cp2, cp3, cp4, cp5, cp6, cp7, cp8, cp9, cp10⟩ := row11 Vp.out
         obtain ⟨cq0, cq1, cq2, cq3, cq4, cq5, cq6, cq7, cq8, cq9, cq10⟩ := row11 Vq.out
         go_wp2_with fail
         refine (OE.out _ _ _ _ _ (own_wts ON2.out) (own_cls OL2.out) (Es.below RX.out HB.out.1) (Es.below RY.out HB.out.1)).mono ?_
         rintro e w12 ⟨rfl, hb⟩
         clear co0 co1 co2 co3 co4 co5 co6 co7 co8 co9 co10 cp0 cp1 cp2 cp3 cp4 cp5 cp6 cp7 cp8 cp9 cp10 cq0 cq1 cq2 cq3 cq4 cq5 cq6 cq7 cq8 cq9 cq10
         replace Vo := Lib.hid (blk_below Vo.out hb (blk_lt Vo.out))
         replace Vx := Lib.hid (blk_below Vx.out hb (blk_lt Vx.out))
         replace Vy := Lib.hid (blk_below Vy.out hb (blk_lt Vy.out))
         replace Vp := Lib.hid (blk_below Vp.out hb (blk_lt Vp.out))
         replace Vq := Lib.hid (blk_below Vq.out hb (blk_lt Vq.out))
         replace ON2 := Lib.hid (own_below ON2.out hb)
         replace OL2 := Lib.hid (own_below OL2.out hb)
         replace ON3 := Lib.hid (own_below ON3.out hb)
         replace OL3 := Lib.hid (own_below OL3.out hb)
         replace HB := Lib.hid (And.intro (HB.out.1.trans (hb.mono HB.out.2)) (Nat.le_trans HB.out.2 hb.size))
         clear hb
         obtain ⟨co0, co1, co2, co3, co4, co5, co6, co7, co8, co9, co10⟩ := row11 Vo.out
         obtain ⟨cp0, cp1, cp2, cp3, cp4, cp5, cp6, cp7, cp8, cp9, cp10⟩ := row11 Vp.out
         obtain ⟨cq0, cq1, cq2, cq3, cq4, cq5, cq6, cq7, cq8, cq9, cq10⟩ := row11 Vq.out
         go_wp2_with fail
         refine (OE.out _ _ _ _ _ (own_wts ON3.out) (own_cls OL3.out) (Es.below RX.out HB.out.1) (Es.below RY.out HB.out.1)).mono ?_
         rintro e w13 ⟨rfl, hb⟩
         clear co0 co1 co2 co3 co4 co5 co6 co7 co8 co9 co10 cp0 cp1 cp2 cp3 cp4 cp5 cp6 cp7 cp8 cp9 cp10 cq0 cq1 cq2 cq3 cq4 cq5 cq6 cq7 cq8 cq9 cq10
         replace Vo := Lib.hid (blk_below Vo.out hb (blk_lt Vo.out))
         replace Vx := Lib.hid (blk_below Vx.out hb (blk_lt Vx.out))
         replace Vy := Lib.hid (blk_below Vy.out hb (blk_lt Vy.out))
         replace Vp := Lib.hid (blk_below Vp.out hb (blk_lt Vp.out))
         replace Vq := Lib.hid (blk_below Vq.out hb (blk_lt Vq.out))
         replace ON2 := Lib.hid (own_below ON2.out hb)
         replace OL2 := Lib.hid (own_below OL2.out hb)
         replace ON3 := Lib.hid (own_below ON3.out hb)
         replace OL3 := Lib.hid (own_below OL3.out hb)
         replace HB := Lib.hid (And.intro (HB.out.1.trans (hb.mono HB.out.2)) (Nat.le_trans HB.out.2 hb.size))
         clear hb
         go_wp2
         go_ret
         exact ⟨rfl, HB.out.1⟩
end Go.Proofs.Ytagaijghfikdoaa
