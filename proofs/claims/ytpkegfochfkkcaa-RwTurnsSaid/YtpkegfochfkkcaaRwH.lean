/- Layer 16: what the landed rw's lockWriters, WLock and WUnlock answer; for lists of up to 16384, a word within 64 bits where it is unlocked. -/
import Derived.Test.YtpkegfochfkkcaaRwG
import Derived.Test.YtpkegfochfkkcaaMutO
import Derived.Test.YtpkegfochfkkcaaThen
namespace Go.Proofs.Ytpkegfochfkkcaa
set_option linter.unusedVariables false
set_option linter.unusedSimpArgs false
open Go.RowKit
theorem load_blk {w : World} {b : Nat} {cs : List Value} {T : TypeId} {fs : Array Field} (h : w.heap[b]? = some (.cells cs.toArray T)) (hu : Try.prog.underlying T = some (.struct fs)) (hk : (Try.prog.info? T).map (·.size) = some cs.toArray.size) : (loadVar T ⟨b, 0, none⟩).run Try.prog w = .ok (.agg cs.toArray) w :=
  run_loadVar_row (P := Try.prog) w b T T cs.toArray (0, 0) _ h hu (by rfl) hk
set_option maxRecDepth 100000 in
set_option maxHeartbeats 16000000 in
theorem rwLockW_any (kd o0 o1 o2 o3 o4 o5 wa to : Int) (A : Option Addr) (n c : Nat) (B : Option Addr) (m d : Nat) (nl : List Wt) (ll : List Cl) (f : MFr) (hp : f.stage = 0) (now pat : Int) (w : World) (hx : Wts w A n c nl) (hy : Cls w B m d ll) (hn : n ≤ 16384) (hm : m ≤ 16384) : Calls Try.prog 31 #[obV kd o0 o1 o2 o3 o4 o5 wa to A n c B m d, frV f, .int .i64 now, .int .i64 pat] w (CopR w kd o1 o2 o3 wa to A n B m nl ll (wlockW o0 o4 o5 f now pat)) := by
  have RX := Lib.hid hx; have RY := Lib.hid hy
  clear hx hy
  obtain ⟨op, stage, phase, old, since, left, awoke, starve, need, front⟩ := f
  have hp2 : stage = 0 := hp
  subst hp2
  clear hp
  obtain ⟨⟨z, ⟨gop, gstage, gphase, gold, gsince, gleft, gawoke, gstarve, gneed, gfront⟩, ⟨gdn, ggv, ghd, gft⟩⟩, hr⟩ : ∃ r, lockM o0 ⟨op, 0, phase, old, since, left, awoke, starve, need, front⟩ now pat = r := ⟨_, rfl⟩
  have HO : wlockW o0 o4 o5 ⟨op, 0, phase, old, since, left, awoke, starve, need, front⟩ now pat = (if gdn = true then ((z, o4, o5), stageF ⟨op, 0, phase, old, since, left, awoke, starve, need, front⟩ 1, noA) else ((z, o4, o5), ⟨gop, gstage, gphase, gold, gsince, gleft, gawoke, gstarve, gneed, gfront⟩, ⟨gdn, ggv, ghd, gft⟩)) := by
    unfold wlockW
    rw [if_pos rfl, hr]
  obtain ⟨WA, wn, wc, hwk⟩ : ∃ (X : Option Addr) (i j : Nat), (Value.slice X i j) = .slice none 0 0 := ⟨_, _, _, rfl⟩
  have HG := Lib.hid (show ggv = 0 ∧ ghd = false from by
    have ha := lock_act (w := o0) (f := ⟨op, 0, phase, old, since, left, awoke, starve, need, front⟩) (now := now) (pat := pat)
    rw [hr] at ha
    rcases ha with h | h
    · injection h with a1 a2 a3 a4; exact ⟨a2, a3⟩
    · injection h with a1 a2 a3 a4; exact ⟨a2, a3⟩)
  have LC := Lib.hid (show ∀ W : World, Wts W A n c nl → Cls W B m d ll → Calls Try.prog 44 #[.agg #[.int .i64 kd, .int .i64 o0, .int .i64 o1, .int .i64 o2, .int .i64 o3, .int .i64 o4, .int .i64 o5, .int .u32 wa, .int .u32 to, .slice A n c, .slice B m d], .agg #[.int .i64 op, .int .i64 0, .int .i64 phase, .int .i64 old, .int .i64 since, .int .i64 left, .bool awoke, .bool starve, .int .i64 need, .bool front], .int .i64 now, .int .i64 pat] W (fun e w' => ∃ A2 c2 B2 d2, e = .returned (.tuple #[.agg #[.int .i64 kd, .int .i64 z, .int .i64 o1, .int .i64 o2, .int .i64 o3, .int .i64 o4, .int .i64 o5, .int .u32 wa, .int .u32 to, .slice A2 n c2, .slice B2 m d2], .agg #[.int .i64 gop, .int .i64 gstage, .int .i64 gphase, .int .i64 gold, .int .i64 gsince, .int .i64 gleft, .bool gawoke, .bool gstarve, .int .i64 gneed, .bool gfront], .agg #[.bool gdn, .bool false, .bool ghd, .int .i64 ggv, .int .i64 gft, .int .u64 0, .slice WA wn wc]]) ∧ w'.ownsRow W.heap.size 67 2 (.slice A2 n c2) n (wtC nl) ∧ w'.ownsRow W.heap.size 62 2 (.slice B2 m d2) m (clC ll) ∧ Below W.heap.size W w' ∧ (A = none → A2 = none ∧ c2 = 0) ∧ (B = none → B2 = none ∧ d2 = 0)) from fun W h1 h2 => by
    have h := muLock_any kd o0 o1 o2 o3 o4 o5 wa to A n c B m d nl ll ⟨op, 0, phase, old, since, left, awoke, starve, need, front⟩ now pat W h1 h2 hn hm
    rw [hr] at h
    rw [hwk]
    exact h)
  have HWK := Lib.hid hwk
  clear hr hwk hn hm
  have BG := Lib.hid (show ∀ W : World, Calls Try.prog 43 #[.int .i64 op] W (fun e w' => e = .returned (.agg #[.int .i64 op, .int .i64 0, .int .i64 0, .int .i64 0, .int .i64 (-1), .int .i64 0, .bool false, .bool false, .int .i64 0, .bool false]) ∧ Below W.heap.size W w') from fun W => muBegin_any op W)
  unfold obV frV frC
  simp only
  cases gdn
  · have HE := Lib.hid (HO.trans (if_neg (fun h => nomatch h)))
    clear HO
    have HB := Lib.hid (And.intro (Below.refl w.heap.size w) (Nat.le_refl w.heap.size))
    have gq := HB.out.2
    obtain ⟨w1, hw1⟩ : ∃ W, (((((w.alloc (.cells #[.int .i64 kd, .int .i64 o0, .int .i64 o1, .int .i64 o2, .int .i64 o3, .int .i64 o4, .int .i64 o5, .int .u32 wa, .int .u32 to, .slice A n c, .slice B m d] 29)).alloc (.cells #[.int .i64 op, .int .i64 0, .int .i64 phase, .int .i64 old, .int .i64 since, .int .i64 left, .bool awoke, .bool starve, .int .i64 need, .bool front] 31)).alloc (.cells #[.int .i64 0, .int .i64 0, .int .i64 0, .int .i64 0, .int .i64 0, .int .i64 0, .int .i64 0, .int .u32 0, .int .u32 0, .slice none 0 0, .slice none 0 0] 29)).alloc (.cells #[.int .i64 0, .int .i64 0, .int .i64 0, .int .i64 0, .int .i64 0, .int .i64 0, .bool false, .bool false, .int .i64 0, .bool false] 31)).alloc (.cells #[.bool false, .bool false, .bool false, .int .i64 0, .int .i64 0, .int .u64 0, .slice none 0 0] 38)) = W := ⟨_, rfl⟩
    have hb : Below w.heap.size w w1 := hw1 ▸ ((((((Below.refl _ _).alloc (Nat.le_refl _) _).alloc (by first | (simp; done) | (simp; omega)) _).alloc (by first | (simp; done) | (simp; omega)) _).alloc (by first | (simp; done) | (simp; omega)) _).alloc (by first | (simp; done) | (simp; omega)) _)
    have hv0 : w1.heap[w.heap.size]? = some (.cells #[.int .i64 kd, .int .i64 o0, .int .i64 o1, .int .i64 o2, .int .i64 o3, .int .i64 o4, .int .i64 o5, .int .u32 wa, .int .u32 to, .slice A n c, .slice B m d] 29) := by
      have h0 := heap_alloc_new w (.cells #[.int .i64 kd, .int .i64 o0, .int .i64 o1, .int .i64 o2, .int .i64 o3, .int .i64 o4, .int .i64 o5, .int .u32 wa, .int .u32 to, .slice A n c, .slice B m d] 29)
      rw [show w.heap.size = w.heap.size by simp [Nat.add_assoc]] at h0
      rw [← hw1]
      rw [heap_alloc_old _ _ (by simp <;> omega), heap_alloc_old _ _ (by simp <;> omega), heap_alloc_old _ _ (by simp <;> omega), heap_alloc_old _ _ (by simp <;> omega)]; exact h0
    have hv1 : w1.heap[w.heap.size + 1]? = some (.cells #[.int .i64 op, .int .i64 0, .int .i64 phase, .int .i64 old, .int .i64 since, .int .i64 left, .bool awoke, .bool starve, .int .i64 need, .bool front] 31) := by
      have h0 := heap_alloc_new (w.alloc (.cells #[.int .i64 kd, .int .i64 o0, .int .i64 o1, .int .i64 o2, .int .i64 o3, .int .i64 o4, .int .i64 o5, .int .u32 wa, .int .u32 to, .slice A n c, .slice B m d] 29)) (.cells #[.int .i64 op, .int .i64 0, .int .i64 phase, .int .i64 old, .int .i64 since, .int .i64 left, .bool awoke, .bool starve, .int .i64 need, .bool front] 31)
      rw [show (w.alloc (.cells #[.int .i64 kd, .int .i64 o0, .int .i64 o1, .int .i64 o2, .int .i64 o3, .int .i64 o4, .int .i64 o5, .int .u32 wa, .int .u32 to, .slice A n c, .slice B m d] 29)).heap.size = w.heap.size + 1 by simp [Nat.add_assoc]] at h0
      rw [← hw1]
      rw [heap_alloc_old _ _ (by simp <;> omega), heap_alloc_old _ _ (by simp <;> omega), heap_alloc_old _ _ (by simp <;> omega)]; exact h0
    have hv2 : w1.heap[w.heap.size + 2]? = some (.cells #[.int .i64 0, .int .i64 0, .int .i64 0, .int .i64 0, .int .i64 0, .int .i64 0, .int .i64 0, .int .u32 0, .int .u32 0, .slice none 0 0, .slice none 0 0] 29) := by
      have h0 := heap_alloc_new ((w.alloc (.cells #[.int .i64 kd, .int .i64 o0, .int .i64 o1, .int .i64 o2, .int .i64 o3, .int .i64 o4, .int .i64 o5, .int .u32 wa, .int .u32 to, .slice A n c, .slice B m d] 29)).alloc (.cells #[.int .i64 op, .int .i64 0, .int .i64 phase, .int .i64 old, .int .i64 since, .int .i64 left, .bool awoke, .bool starve, .int .i64 need, .bool front] 31)) (.cells #[.int .i64 0, .int .i64 0, .int .i64 0, .int .i64 0, .int .i64 0, .int .i64 0, .int .i64 0, .int .u32 0, .int .u32 0, .slice none 0 0, .slice none 0 0] 29)
      rw [show ((w.alloc (.cells #[.int .i64 kd, .int .i64 o0, .int .i64 o1, .int .i64 o2, .int .i64 o3, .int .i64 o4, .int .i64 o5, .int .u32 wa, .int .u32 to, .slice A n c, .slice B m d] 29)).alloc (.cells #[.int .i64 op, .int .i64 0, .int .i64 phase, .int .i64 old, .int .i64 since, .int .i64 left, .bool awoke, .bool starve, .int .i64 need, .bool front] 31)).heap.size = w.heap.size + 2 by simp [Nat.add_assoc]] at h0
      rw [← hw1]
      rw [heap_alloc_old _ _ (by simp <;> omega), heap_alloc_old _ _ (by simp <;> omega)]; exact h0
    have hv3 : w1.heap[w.heap.size + 3]? = some (.cells #[.int .i64 0, .int .i64 0, .int .i64 0, .int .i64 0, .int .i64 0, .int .i64 0, .bool false, .bool false, .int .i64 0, .bool false] 31) := by
      have h0 := heap_alloc_new (((w.alloc (.cells #[.int .i64 kd, .int .i64 o0, .int .i64 o1, .int .i64 o2, .int .i64 o3, .int .i64 o4, .int .i64 o5, .int .u32 wa, .int .u32 to, .slice A n c, .slice B m d] 29)).alloc (.cells #[.int .i64 op, .int .i64 0, .int .i64 phase, .int .i64 old, .int .i64 since, .int .i64 left, .bool awoke, .bool starve, .int .i64 need, .bool front] 31)).alloc (.cells #[.int .i64 0, .int .i64 0, .int .i64 0, .int .i64 0, .int .i64 0, .int .i64 0, .int .i64 0, .int .u32 0, .int .u32 0, .slice none 0 0, .slice none 0 0] 29)) (.cells #[.int .i64 0, .int .i64 0, .int .i64 0, .int .i64 0, .int .i64 0, .int .i64 0, .bool false, .bool false, .int .i64 0, .bool false] 31)
      rw [show (((w.alloc (.cells #[.int .i64 kd, .int .i64 o0, .int .i64 o1, .int .i64 o2, .int .i64 o3, .int .i64 o4, .int .i64 o5, .int .u32 wa, .int .u32 to, .slice A n c, .slice B m d] 29)).alloc (.cells #[.int .i64 op, .int .i64 0, .int .i64 phase, .int .i64 old, .int .i64 since, .int .i64 left, .bool awoke, .bool starve, .int .i64 need, .bool front] 31)).alloc (.cells #[.int .i64 0, .int .i64 0, .int .i64 0, .int .i64 0, .int .i64 0, .int .i64 0, .int .i64 0, .int .u32 0, .int .u32 0, .slice none 0 0, .slice none 0 0] 29)).heap.size = w.heap.size + 3 by simp [Nat.add_assoc]] at h0
      rw [← hw1]
      rw [heap_alloc_old _ _ (by simp <;> omega)]; exact h0
    have hv4 : w1.heap[w.heap.size + 4]? = some (.cells #[.bool false, .bool false, .bool false, .int .i64 0, .int .i64 0, .int .u64 0, .slice none 0 0] 38) := by
      have h0 := heap_alloc_new ((((w.alloc (.cells #[.int .i64 kd, .int .i64 o0, .int .i64 o1, .int .i64 o2, .int .i64 o3, .int .i64 o4, .int .i64 o5, .int .u32 wa, .int .u32 to, .slice A n c, .slice B m d] 29)).alloc (.cells #[.int .i64 op, .int .i64 0, .int .i64 phase, .int .i64 old, .int .i64 since, .int .i64 left, .bool awoke, .bool starve, .int .i64 need, .bool front] 31)).alloc (.cells #[.int .i64 0, .int .i64 0, .int .i64 0, .int .i64 0, .int .i64 0, .int .i64 0, .int .i64 0, .int .u32 0, .int .u32 0, .slice none 0 0, .slice none 0 0] 29)).alloc (.cells #[.int .i64 0, .int .i64 0, .int .i64 0, .int .i64 0, .int .i64 0, .int .i64 0, .bool false, .bool false, .int .i64 0, .bool false] 31)) (.cells #[.bool false, .bool false, .bool false, .int .i64 0, .int .i64 0, .int .u64 0, .slice none 0 0] 38)
      rw [show ((((w.alloc (.cells #[.int .i64 kd, .int .i64 o0, .int .i64 o1, .int .i64 o2, .int .i64 o3, .int .i64 o4, .int .i64 o5, .int .u32 wa, .int .u32 to, .slice A n c, .slice B m d] 29)).alloc (.cells #[.int .i64 op, .int .i64 0, .int .i64 phase, .int .i64 old, .int .i64 since, .int .i64 left, .bool awoke, .bool starve, .int .i64 need, .bool front] 31)).alloc (.cells #[.int .i64 0, .int .i64 0, .int .i64 0, .int .i64 0, .int .i64 0, .int .i64 0, .int .i64 0, .int .u32 0, .int .u32 0, .slice none 0 0, .slice none 0 0] 29)).alloc (.cells #[.int .i64 0, .int .i64 0, .int .i64 0, .int .i64 0, .int .i64 0, .int .i64 0, .bool false, .bool false, .int .i64 0, .bool false] 31)).heap.size = w.heap.size + 4 by simp [Nat.add_assoc]] at h0
      rw [← hw1]
      exact h0
    replace HB := Lib.hid (And.intro (HB.out.1.trans (hb.mono HB.out.2)) (Nat.le_trans HB.out.2 hb.size))
    have Vo := Lib.hid hv0
    have geo := gq
    have Vf := Lib.hid hv1
    have neo_f : w.heap.size ≠ w.heap.size + 1 := by omega
    have gef : _ ≤ w.heap.size + 1 := Nat.le_trans gq (Nat.le_add_right _ 1)
    have Vro := Lib.hid hv2
    have neo_ro : w.heap.size ≠ w.heap.size + 2 := by omega
    have nef_ro : w.heap.size + 1 ≠ w.heap.size + 2 := by omega
    have gero : _ ≤ w.heap.size + 2 := Nat.le_trans gq (Nat.le_add_right _ 2)
    have Vrf := Lib.hid hv3
    have neo_rf : w.heap.size ≠ w.heap.size + 3 := by omega
    have nef_rf : w.heap.size + 1 ≠ w.heap.size + 3 := by omega
    have nero_rf : w.heap.size + 2 ≠ w.heap.size + 3 := by omega
    have gerf : _ ≤ w.heap.size + 3 := Nat.le_trans gq (Nat.le_add_right _ 3)
    have Vra := Lib.hid hv4
    have neo_ra : w.heap.size ≠ w.heap.size + 4 := by omega
    have nef_ra : w.heap.size + 1 ≠ w.heap.size + 4 := by omega
    have nero_ra : w.heap.size + 2 ≠ w.heap.size + 4 := by omega
    have nerf_ra : w.heap.size + 3 ≠ w.heap.size + 4 := by omega
    have gera : _ ≤ w.heap.size + 4 := Nat.le_trans gq (Nat.le_add_right _ 4)
    generalize hso : w.heap.size = so at *
    clear hb gq hv0 hv1 hv2 hv3 hv4
    subst hso
    go_enter Try.func31, Try.ntmps31
    have cf := row10 Vf.out
    go_wp2_with fail
    refine (BG.out _).mono ?_
    rintro e w2 ⟨rfl, hb⟩
    clear cf
    replace Vo := Lib.hid (blk_below Vo.out hb (blk_lt Vo.out))
    replace Vf := Lib.hid (blk_below Vf.out hb (blk_lt Vf.out))
    replace Vro := Lib.hid (blk_below Vro.out hb (blk_lt Vro.out))
    replace Vrf := Lib.hid (blk_below Vrf.out hb (blk_lt Vrf.out))
    replace Vra := Lib.hid (blk_below Vra.out hb (blk_lt Vra.out))
    replace HB := Lib.hid (And.intro (HB.out.1.trans (hb.mono HB.out.2)) (Nat.le_trans HB.out.2 hb.size))
    clear hb
    have lto := blk_lt Vo.out
    have ltf := blk_lt Vf.out
    have ltro := blk_lt Vro.out
    have ltrf := blk_lt Vrf.out
    have ltra := blk_lt Vra.out
    have gq := HB.out.2
    obtain ⟨w3, hw3⟩ : ∃ W, (w2.alloc (.cells #[.int .i64 0, .int .i64 0, .int .i64 0, .int .i64 0, .int .i64 0, .int .i64 0, .bool false, .bool false, .int .i64 0, .bool false] 31)) = W := ⟨_, rfl⟩
    have hb : Below w2.heap.size w2 w3 := hw3 ▸ ((Below.refl _ _).alloc (Nat.le_refl _) _)
    have hv0 : w3.heap[w2.heap.size]? = some (.cells #[.int .i64 0, .int .i64 0, .int .i64 0, .int .i64 0, .int .i64 0, .int .i64 0, .bool false, .bool false, .int .i64 0, .bool false] 31) := by
      have h0 := heap_alloc_new w2 (.cells #[.int .i64 0, .int .i64 0, .int .i64 0, .int .i64 0, .int .i64 0, .int .i64 0, .bool false, .bool false, .int .i64 0, .bool false] 31)
      rw [show w2.heap.size = w2.heap.size by simp [Nat.add_assoc]] at h0
      rw [← hw3]
      exact h0
    replace Vo := Lib.hid (blk_below Vo.out hb (blk_lt Vo.out))
    replace Vf := Lib.hid (blk_below Vf.out hb (blk_lt Vf.out))
    replace Vro := Lib.hid (blk_below Vro.out hb (blk_lt Vro.out))
    replace Vrf := Lib.hid (blk_below Vrf.out hb (blk_lt Vrf.out))
    replace Vra := Lib.hid (blk_below Vra.out hb (blk_lt Vra.out))
    replace HB := Lib.hid (And.intro (HB.out.1.trans (hb.mono HB.out.2)) (Nat.le_trans HB.out.2 hb.size))
    have Vnx := Lib.hid hv0
    have neo_nx := Nat.ne_of_lt lto
    have nef_nx := Nat.ne_of_lt ltf
    have nero_nx := Nat.ne_of_lt ltro
    have nerf_nx := Nat.ne_of_lt ltrf
    have nera_nx := Nat.ne_of_lt ltra
    have genx := gq
    generalize hsnx : w2.heap.size = snx at *
    clear hb gq hv0 lto ltf ltro ltrf ltra
    obtain ⟨mw4, w4, hw4, hse, VN⟩ := set10 Vnx.out (.int .i64 op) (.int .i64 0) (.int .i64 0) (.int .i64 0) (.int .i64 (-1)) (.int .i64 0) (.bool false) (.bool false) (.int .i64 0) (.bool false)
    replace Vo := Lib.hid (stayS hse neo_nx Vo.out)
    replace Vf := Lib.hid (stayS hse nef_nx Vf.out)
    replace Vro := Lib.hid (stayS hse nero_nx Vro.out)
    replace Vrf := Lib.hid (stayS hse nerf_nx Vrf.out)
    replace Vra := Lib.hid (stayS hse nera_nx Vra.out)
    replace Vnx := VN
    replace HB := Lib.hid (belS hse genx HB.out)
    clear VN hse
    have knx : w4.cell? ⟨snx, 1, none⟩ = some (.int .i64 0) := (blk_cell Vnx.out 1).trans rfl
    have znx : w4.frozen? ⟨snx, 1, none⟩ = false := blk_frozen Vnx.out 1
    obtain ⟨w5, hw5⟩ : ∃ W, w4.setCell ⟨snx, 1, none⟩ (.int .i64 1) = W := ⟨_, rfl⟩
    have Vo2 : w5.heap[w.heap.size]? = some (.cells #[.int .i64 kd, .int .i64 o0, .int .i64 o1, .int .i64 o2, .int .i64 o3, .int .i64 o4, .int .i64 o5, .int .u32 wa, .int .u32 to, .slice A n c, .slice B m d] 29) := hw5 ▸ (Below.heap_setCell _ ⟨snx, 1, none⟩ (.int .i64 1) (w.heap.size) neo_nx).trans Vo.out
    have Vf2 : w5.heap[w.heap.size + 1]? = some (.cells #[.int .i64 op, .int .i64 0, .int .i64 phase, .int .i64 old, .int .i64 since, .int .i64 left, .bool awoke, .bool starve, .int .i64 need, .bool front] 31) := hw5 ▸ (Below.heap_setCell _ ⟨snx, 1, none⟩ (.int .i64 1) (w.heap.size + 1) nef_nx).trans Vf.out
    have Vro2 : w5.heap[w.heap.size + 2]? = some (.cells #[.int .i64 0, .int .i64 0, .int .i64 0, .int .i64 0, .int .i64 0, .int .i64 0, .int .i64 0, .int .u32 0, .int .u32 0, .slice none 0 0, .slice none 0 0] 29) := hw5 ▸ (Below.heap_setCell _ ⟨snx, 1, none⟩ (.int .i64 1) (w.heap.size + 2) nero_nx).trans Vro.out
    have Vrf2 : w5.heap[w.heap.size + 3]? = some (.cells #[.int .i64 0, .int .i64 0, .int .i64 0, .int .i64 0, .int .i64 0, .int .i64 0, .bool false, .bool false, .int .i64 0, .bool false] 31) := hw5 ▸ (Below.heap_setCell _ ⟨snx, 1, none⟩ (.int .i64 1) (w.heap.size + 3) nerf_nx).trans Vrf.out
    have Vra2 : w5.heap[w.heap.size + 4]? = some (.cells #[.bool false, .bool false, .bool false, .int .i64 0, .int .i64 0, .int .u64 0, .slice none 0 0] 38) := hw5 ▸ (Below.heap_setCell _ ⟨snx, 1, none⟩ (.int .i64 1) (w.heap.size + 4) nera_nx).trans Vra.out
    have Vnx2 : w5.heap[snx]? = some (.cells #[.int .i64 op, .int .i64 1, .int .i64 0, .int .i64 0, .int .i64 (-1), .int .i64 0, .bool false, .bool false, .int .i64 0, .bool false] 31) := hw5 ▸ blk_set (j := 1) Vnx.out (.int .i64 1)
    have hbb : Below _ _ w5 := hw5 ▸ HB.out.1.setCell (p := ⟨snx, 1, none⟩) genx _
    have hbs : w5.heap.size = w4.heap.size := by rw [← hw5]; simp [World.setCell]
    replace Vo := Lib.hid Vo2
    clear Vo2
    replace Vf := Lib.hid Vf2
    clear Vf2
    replace Vro := Lib.hid Vro2
    clear Vro2
    replace Vrf := Lib.hid Vrf2
    clear Vrf2
    replace Vra := Lib.hid Vra2
    clear Vra2
    replace Vnx := Lib.hid Vnx2
    clear Vnx2
    replace HB := Lib.hid (And.intro hbb (show _ ≤ w5.heap.size by rw [hbs]; exact HB.out.2))
    clear hbb hbs
    have HBZ := Lib.hid HB.out.2
    have co := row11 Vo.out
    have cf := row10 Vf.out
    go_wp2_with fail
    refine (LC.out _ (Es.below RX.out HB.out.1) (Es.below RY.out HB.out.1)).mono ?_
    rintro e w6 ⟨A1, c1, B1, d1, rfl, hon, hol, hb, hA, hB⟩
    clear mw4 hw4 knx znx hw5 co cf
    replace Vo := Lib.hid (blk_below Vo.out hb (blk_lt Vo.out))
    replace Vf := Lib.hid (blk_below Vf.out hb (blk_lt Vf.out))
    replace Vro := Lib.hid (blk_below Vro.out hb (blk_lt Vro.out))
    replace Vrf := Lib.hid (blk_below Vrf.out hb (blk_lt Vrf.out))
    replace Vra := Lib.hid (blk_below Vra.out hb (blk_lt Vra.out))
    replace Vnx := Lib.hid (blk_below Vnx.out hb (blk_lt Vnx.out))
    replace HB := Lib.hid (And.intro (HB.out.1.trans (hb.mono HB.out.2)) (Nat.le_trans HB.out.2 hb.size))
    clear hb
    have ON1 := Lib.hid (own_base hon HBZ.out); have OL1 := Lib.hid (own_base hol HBZ.out)
    have NW := Lib.hid hA; have NC := Lib.hid hB
    clear hon hol hA hB HBZ
    have lto := blk_lt Vo.out
    have ltf := blk_lt Vf.out
    have ltro := blk_lt Vro.out
    have ltrf := blk_lt Vrf.out
    have ltra := blk_lt Vra.out
    have ltnx := blk_lt Vnx.out
    have gq := HB.out.2
    obtain ⟨w7, hw7⟩ : ∃ W, (w6.alloc (.cells #[.bool false, .bool false, .bool false, .int .i64 0, .int .i64 0, .int .u64 0, .slice none 0 0] 38)) = W := ⟨_, rfl⟩
    have hb : Below w6.heap.size w6 w7 := hw7 ▸ ((Below.refl _ _).alloc (Nat.le_refl _) _)
    have hv0 : w7.heap[w6.heap.size]? = some (.cells #[.bool false, .bool false, .bool false, .int .i64 0, .int .i64 0, .int .u64 0, .slice none 0 0] 38) := by
      have h0 := heap_alloc_new w6 (.cells #[.bool false, .bool false, .bool false, .int .i64 0, .int .i64 0, .int .u64 0, .slice none 0 0] 38)
      rw [show w6.heap.size = w6.heap.size by simp [Nat.add_assoc]] at h0
      rw [← hw7]
      exact h0
    replace Vo := Lib.hid (blk_below Vo.out hb (blk_lt Vo.out))
    replace Vf := Lib.hid (blk_below Vf.out hb (blk_lt Vf.out))
    replace Vro := Lib.hid (blk_below Vro.out hb (blk_lt Vro.out))
    replace Vrf := Lib.hid (blk_below Vrf.out hb (blk_lt Vrf.out))
    replace Vra := Lib.hid (blk_below Vra.out hb (blk_lt Vra.out))
    replace Vnx := Lib.hid (blk_below Vnx.out hb (blk_lt Vnx.out))
    replace ON1 := Lib.hid (own_below ON1.out hb)
    replace OL1 := Lib.hid (own_below OL1.out hb)
    replace HB := Lib.hid (And.intro (HB.out.1.trans (hb.mono HB.out.2)) (Nat.le_trans HB.out.2 hb.size))
    have Vu := Lib.hid hv0
    have neo_u := Nat.ne_of_lt lto
    have nef_u := Nat.ne_of_lt ltf
    have nero_u := Nat.ne_of_lt ltro
    have nerf_u := Nat.ne_of_lt ltrf
    have nera_u := Nat.ne_of_lt ltra
    have nenx_u := Nat.ne_of_lt ltnx
    have geu := gq
    generalize hsu : w6.heap.size = su at *
    clear hb gq hv0 lto ltf ltro ltrf ltra ltnx
    obtain ⟨mw8, w8, hw8, hse, VN⟩ := set11 Vo.out (.int .i64 kd) (.int .i64 z) (.int .i64 o1) (.int .i64 o2) (.int .i64 o3) (.int .i64 o4) (.int .i64 o5) (.int .u32 wa) (.int .u32 to) (.slice A1 n c1) (.slice B1 m d1)
    replace ON1 := Lib.hid (own_whole (by decide) ON1.out Vo.out hse)
    replace OL1 := Lib.hid (own_whole (by decide) OL1.out Vo.out hse)
    replace Vf := Lib.hid (stayS hse neo_f.symm Vf.out)
    replace Vro := Lib.hid (stayS hse neo_ro.symm Vro.out)
    replace Vrf := Lib.hid (stayS hse neo_rf.symm Vrf.out)
    replace Vra := Lib.hid (stayS hse neo_ra.symm Vra.out)
    replace Vnx := Lib.hid (stayS hse neo_nx.symm Vnx.out)
    replace Vu := Lib.hid (stayS hse neo_u.symm Vu.out)
    replace Vo := VN
    replace HB := Lib.hid (belS hse geo HB.out)
    clear VN hse
    obtain ⟨mw9, w9, hw9, hse, VN⟩ := set10 Vf.out (.int .i64 gop) (.int .i64 gstage) (.int .i64 gphase) (.int .i64 gold) (.int .i64 gsince) (.int .i64 gleft) (.bool gawoke) (.bool gstarve) (.int .i64 gneed) (.bool gfront)
    replace ON1 := Lib.hid (own_whole (by decide) ON1.out Vf.out hse)
    replace OL1 := Lib.hid (own_whole (by decide) OL1.out Vf.out hse)
    replace Vo := Lib.hid (stayS hse neo_f Vo.out)
    replace Vro := Lib.hid (stayS hse nef_ro.symm Vro.out)
    replace Vrf := Lib.hid (stayS hse nef_rf.symm Vrf.out)
    replace Vra := Lib.hid (stayS hse nef_ra.symm Vra.out)
    replace Vnx := Lib.hid (stayS hse nef_nx.symm Vnx.out)
    replace Vu := Lib.hid (stayS hse nef_u.symm Vu.out)
    replace Vf := VN
    replace HB := Lib.hid (belS hse gef HB.out)
    clear VN hse
    obtain ⟨mw10, w10, hw10, hse, VN⟩ := set7 Vu.out (.bool false) (.bool false) (.bool ghd) (.int .i64 ggv) (.int .i64 gft) (.int .u64 0) (.slice WA wn wc)
    replace ON1 := Lib.hid (own_whole (by decide) ON1.out Vu.out hse)
    replace OL1 := Lib.hid (own_whole (by decide) OL1.out Vu.out hse)
    replace Vo := Lib.hid (stayS hse neo_u Vo.out)
    replace Vf := Lib.hid (stayS hse nef_u Vf.out)
    replace Vro := Lib.hid (stayS hse nero_u Vro.out)
    replace Vrf := Lib.hid (stayS hse nerf_u Vrf.out)
    replace Vra := Lib.hid (stayS hse nera_u Vra.out)
    replace Vnx := Lib.hid (stayS hse nenx_u Vnx.out)
    replace Vu := VN
    replace HB := Lib.hid (belS hse geu HB.out)
    clear VN hse
    have cnx := row10 Vnx.out
    have co := row11 Vo.out
    have cf := row10 Vf.out
    have cu := row7 Vu.out
    go_wp2_with fail
    refine (stThen_false _ _ _ _ _ _ _ _ _ _ _ _ _ _ _ _ _ _ _ _ _ _ _ _ _ _ _ _ _ _ _ _ _ _ _ _ _ _ _ _ _ _ _ _).mono ?_
    rintro e w11 ⟨rfl, hb⟩
    clear mw8 hw8 mw9 hw9 mw10 hw10 cnx co cf cu
    replace Vo := Lib.hid (blk_below Vo.out hb (blk_lt Vo.out))
    replace Vf := Lib.hid (blk_below Vf.out hb (blk_lt Vf.out))
    replace Vro := Lib.hid (blk_below Vro.out hb (blk_lt Vro.out))
    replace Vrf := Lib.hid (blk_below Vrf.out hb (blk_lt Vrf.out))
    replace Vra := Lib.hid (blk_below Vra.out hb (blk_lt Vra.out))
    replace Vnx := Lib.hid (blk_below Vnx.out hb (blk_lt Vnx.out))
    replace Vu := Lib.hid (blk_below Vu.out hb (blk_lt Vu.out))
    replace ON1 := Lib.hid (own_below ON1.out hb)
    replace OL1 := Lib.hid (own_below OL1.out hb)
    replace HB := Lib.hid (And.intro (HB.out.1.trans (hb.mono HB.out.2)) (Nat.le_trans HB.out.2 hb.size))
    clear hb
    obtain ⟨mw12, w12, hw12, hse, VN⟩ := set11 Vro.out (.int .i64 kd) (.int .i64 z) (.int .i64 o1) (.int .i64 o2) (.int .i64 o3) (.int .i64 o4) (.int .i64 o5) (.int .u32 wa) (.int .u32 to) (.slice A1 n c1) (.slice B1 m d1)
    replace ON1 := Lib.hid (own_whole (by decide) ON1.out Vro.out hse)
    replace OL1 := Lib.hid (own_whole (by decide) OL1.out Vro.out hse)
    replace Vo := Lib.hid (stayS hse neo_ro Vo.out)
    replace Vf := Lib.hid (stayS hse nef_ro Vf.out)
    replace Vrf := Lib.hid (stayS hse nero_rf.symm Vrf.out)
    replace Vra := Lib.hid (stayS hse nero_ra.symm Vra.out)
    replace Vnx := Lib.hid (stayS hse nero_nx.symm Vnx.out)
    replace Vu := Lib.hid (stayS hse nero_u.symm Vu.out)
    replace Vro := VN
    replace HB := Lib.hid (belS hse gero HB.out)
    clear VN hse
    obtain ⟨mw13, w13, hw13, hse, VN⟩ := set10 Vrf.out (.int .i64 gop) (.int .i64 gstage) (.int .i64 gphase) (.int .i64 gold) (.int .i64 gsince) (.int .i64 gleft) (.bool gawoke) (.bool gstarve) (.int .i64 gneed) (.bool gfront)
    replace ON1 := Lib.hid (own_whole (by decide) ON1.out Vrf.out hse)
    replace OL1 := Lib.hid (own_whole (by decide) OL1.out Vrf.out hse)
    replace Vo := Lib.hid (stayS hse neo_rf Vo.out)
    replace Vf := Lib.hid (stayS hse nef_rf Vf.out)
    replace Vro := Lib.hid (stayS hse nero_rf Vro.out)
    replace Vra := Lib.hid (stayS hse nerf_ra.symm Vra.out)
    replace Vnx := Lib.hid (stayS hse nerf_nx.symm Vnx.out)
    replace Vu := Lib.hid (stayS hse nerf_u.symm Vu.out)
    replace Vrf := VN
    replace HB := Lib.hid (belS hse gerf HB.out)
    clear VN hse
    obtain ⟨mw14, w14, hw14, hse, VN⟩ := set7 Vra.out (.bool false) (.bool false) (.bool ghd) (.int .i64 ggv) (.int .i64 gft) (.int .u64 0) (.slice WA wn wc)
    replace ON1 := Lib.hid (own_whole (by decide) ON1.out Vra.out hse)
    replace OL1 := Lib.hid (own_whole (by decide) OL1.out Vra.out hse)
    replace Vo := Lib.hid (stayS hse neo_ra Vo.out)
    replace Vf := Lib.hid (stayS hse nef_ra Vf.out)
    replace Vro := Lib.hid (stayS hse nero_ra Vro.out)
    replace Vrf := Lib.hid (stayS hse nerf_ra Vrf.out)
    replace Vnx := Lib.hid (stayS hse nera_nx.symm Vnx.out)
    replace Vu := Lib.hid (stayS hse nera_u.symm Vu.out)
    replace Vra := VN
    replace HB := Lib.hid (belS hse gera HB.out)
    clear VN hse
    go_wp2
    refine bodyPost_ret (res_ccc Try.results31 (by rfl) (by rfl) (by rfl) (load_blk Vro.out Try.underlying29 (by kernel_rfl)) (load_blk Vrf.out Try.underlying31 (by kernel_rfl)) (load_blk Vra.out Try.underlying38 (by kernel_rfl))) rfl ?_
    rw [HE.out, HWK.out]
    exact ⟨A1, c1, B1, d1, rfl, ON1.out, OL1.out, HB.out.1, NW.out, NC.out⟩
  · have HE := Lib.hid (HO.trans (if_pos rfl))
    clear HO
    have HB := Lib.hid (And.intro (Below.refl w.heap.size w) (Nat.le_refl w.heap.size))
    have gq := HB.out.2
    obtain ⟨w1, hw1⟩ : ∃ W, (((((w.alloc (.cells #[.int .i64 kd, .int .i64 o0, .int .i64 o1, .int .i64 o2, .int .i64 o3, .int .i64 o4, .int .i64 o5, .int .u32 wa, .int .u32 to, .slice A n c, .slice B m d] 29)).alloc (.cells #[.int .i64 op, .int .i64 0, .int .i64 phase, .int .i64 old, .int .i64 since, .int .i64 left, .bool awoke, .bool starve, .int .i64 need, .bool front] 31)).alloc (.cells #[.int .i64 0, .int .i64 0, .int .i64 0, .int .i64 0, .int .i64 0, .int .i64 0, .int .i64 0, .int .u32 0, .int .u32 0, .slice none 0 0, .slice none 0 0] 29)).alloc (.cells #[.int .i64 0, .int .i64 0, .int .i64 0, .int .i64 0, .int .i64 0, .int .i64 0, .bool false, .bool false, .int .i64 0, .bool false] 31)).alloc (.cells #[.bool false, .bool false, .bool false, .int .i64 0, .int .i64 0, .int .u64 0, .slice none 0 0] 38)) = W := ⟨_, rfl⟩
    have hb : Below w.heap.size w w1 := hw1 ▸ ((((((Below.refl _ _).alloc (Nat.le_refl _) _).alloc (by first | (simp; done) | (simp; omega)) _).alloc (by first | (simp; done) | (simp; omega)) _).alloc (by first | (simp; done) | (simp; omega)) _).alloc (by first | (simp; done) | (simp; omega)) _)
    have hv0 : w1.heap[w.heap.size]? = some (.cells #[.int .i64 kd, .int .i64 o0, .int .i64 o1, .int .i64 o2, .int .i64 o3, .int .i64 o4, .int .i64 o5, .int .u32 wa, .int .u32 to, .slice A n c, .slice B m d] 29) := by
      have h0 := heap_alloc_new w (.cells #[.int .i64 kd, .int .i64 o0, .int .i64 o1, .int .i64 o2, .int .i64 o3, .int .i64 o4, .int .i64 o5, .int .u32 wa, .int .u32 to, .slice A n c, .slice B m d] 29)
      rw [show w.heap.size = w.heap.size by simp [Nat.add_assoc]] at h0
      rw [← hw1]
      rw [heap_alloc_old _ _ (by simp <;> omega), heap_alloc_old _ _ (by simp <;> omega), heap_alloc_old _ _ (by simp <;> omega), heap_alloc_old _ _ (by simp <;> omega)]; exact h0
    have hv1 : w1.heap[w.heap.size + 1]? = some (.cells #[.int .i64 op, .int .i64 0, .int .i64 phase, .int .i64 old, .int .i64 since, .int .i64 left, .bool awoke, .bool starve, .int .i64 need, .bool front] 31) := by
      have h0 := heap_alloc_new (w.alloc (.cells #[.int .i64 kd, .int .i64 o0, .int .i64 o1, .int .i64 o2, .int .i64 o3, .int .i64 o4, .int .i64 o5, .int .u32 wa, .int .u32 to, .slice A n c, .slice B m d] 29)) (.cells #[.int .i64 op, .int .i64 0, .int .i64 phase, .int .i64 old, .int .i64 since, .int .i64 left, .bool awoke, .bool starve, .int .i64 need, .bool front] 31)
      rw [show (w.alloc (.cells #[.int .i64 kd, .int .i64 o0, .int .i64 o1, .int .i64 o2, .int .i64 o3, .int .i64 o4, .int .i64 o5, .int .u32 wa, .int .u32 to, .slice A n c, .slice B m d] 29)).heap.size = w.heap.size + 1 by simp [Nat.add_assoc]] at h0
      rw [← hw1]
      rw [heap_alloc_old _ _ (by simp <;> omega), heap_alloc_old _ _ (by simp <;> omega), heap_alloc_old _ _ (by simp <;> omega)]; exact h0
    have hv2 : w1.heap[w.heap.size + 2]? = some (.cells #[.int .i64 0, .int .i64 0, .int .i64 0, .int .i64 0, .int .i64 0, .int .i64 0, .int .i64 0, .int .u32 0, .int .u32 0, .slice none 0 0, .slice none 0 0] 29) := by
      have h0 := heap_alloc_new ((w.alloc (.cells #[.int .i64 kd, .int .i64 o0, .int .i64 o1, .int .i64 o2, .int .i64 o3, .int .i64 o4, .int .i64 o5, .int .u32 wa, .int .u32 to, .slice A n c, .slice B m d] 29)).alloc (.cells #[.int .i64 op, .int .i64 0, .int .i64 phase, .int .i64 old, .int .i64 since, .int .i64 left, .bool awoke, .bool starve, .int .i64 need, .bool front] 31)) (.cells #[.int .i64 0, .int .i64 0, .int .i64 0, .int .i64 0, .int .i64 0, .int .i64 0, .int .i64 0, .int .u32 0, .int .u32 0, .slice none 0 0, .slice none 0 0] 29)
      rw [show ((w.alloc (.cells #[.int .i64 kd, .int .i64 o0, .int .i64 o1, .int .i64 o2, .int .i64 o3, .int .i64 o4, .int .i64 o5, .int .u32 wa, .int .u32 to, .slice A n c, .slice B m d] 29)).alloc (.cells #[.int .i64 op, .int .i64 0, .int .i64 phase, .int .i64 old, .int .i64 since, .int .i64 left, .bool awoke, .bool starve, .int .i64 need, .bool front] 31)).heap.size = w.heap.size + 2 by simp [Nat.add_assoc]] at h0
      rw [← hw1]
      rw [heap_alloc_old _ _ (by simp <;> omega), heap_alloc_old _ _ (by simp <;> omega)]; exact h0
    have hv3 : w1.heap[w.heap.size + 3]? = some (.cells #[.int .i64 0, .int .i64 0, .int .i64 0, .int .i64 0, .int .i64 0, .int .i64 0, .bool false, .bool false, .int .i64 0, .bool false] 31) := by
      have h0 := heap_alloc_new (((w.alloc (.cells #[.int .i64 kd, .int .i64 o0, .int .i64 o1, .int .i64 o2, .int .i64 o3, .int .i64 o4, .int .i64 o5, .int .u32 wa, .int .u32 to, .slice A n c, .slice B m d] 29)).alloc (.cells #[.int .i64 op, .int .i64 0, .int .i64 phase, .int .i64 old, .int .i64 since, .int .i64 left, .bool awoke, .bool starve, .int .i64 need, .bool front] 31)).alloc (.cells #[.int .i64 0, .int .i64 0, .int .i64 0, .int .i64 0, .int .i64 0, .int .i64 0, .int .i64 0, .int .u32 0, .int .u32 0, .slice none 0 0, .slice none 0 0] 29)) (.cells #[.int .i64 0, .int .i64 0, .int .i64 0, .int .i64 0, .int .i64 0, .int .i64 0, .bool false, .bool false, .int .i64 0, .bool false] 31)
      rw [show (((w.alloc (.cells #[.int .i64 kd, .int .i64 o0, .int .i64 o1, .int .i64 o2, .int .i64 o3, .int .i64 o4, .int .i64 o5, .int .u32 wa, .int .u32 to, .slice A n c, .slice B m d] 29)).alloc (.cells #[.int .i64 op, .int .i64 0, .int .i64 phase, .int .i64 old, .int .i64 since, .int .i64 left, .bool awoke, .bool starve, .int .i64 need, .bool front] 31)).alloc (.cells #[.int .i64 0, .int .i64 0, .int .i64 0, .int .i64 0, .int .i64 0, .int .i64 0, .int .i64 0, .int .u32 0, .int .u32 0, .slice none 0 0, .slice none 0 0] 29)).heap.size = w.heap.size + 3 by simp [Nat.add_assoc]] at h0
      rw [← hw1]
      rw [heap_alloc_old _ _ (by simp <;> omega)]; exact h0
    have hv4 : w1.heap[w.heap.size + 4]? = some (.cells #[.bool false, .bool false, .bool false, .int .i64 0, .int .i64 0, .int .u64 0, .slice none 0 0] 38) := by
      have h0 := heap_alloc_new ((((w.alloc (.cells #[.int .i64 kd, .int .i64 o0, .int .i64 o1, .int .i64 o2, .int .i64 o3, .int .i64 o4, .int .i64 o5, .int .u32 wa, .int .u32 to, .slice A n c, .slice B m d] 29)).alloc (.cells #[.int .i64 op, .int .i64 0, .int .i64 phase, .int .i64 old, .int .i64 since, .int .i64 left, .bool awoke, .bool starve, .int .i64 need, .bool front] 31)).alloc (.cells #[.int .i64 0, .int .i64 0, .int .i64 0, .int .i64 0, .int .i64 0, .int .i64 0, .int .i64 0, .int .u32 0, .int .u32 0, .slice none 0 0, .slice none 0 0] 29)).alloc (.cells #[.int .i64 0, .int .i64 0, .int .i64 0, .int .i64 0, .int .i64 0, .int .i64 0, .bool false, .bool false, .int .i64 0, .bool false] 31)) (.cells #[.bool false, .bool false, .bool false, .int .i64 0, .int .i64 0, .int .u64 0, .slice none 0 0] 38)
      rw [show ((((w.alloc (.cells #[.int .i64 kd, .int .i64 o0, .int .i64 o1, .int .i64 o2, .int .i64 o3, .int .i64 o4, .int .i64 o5, .int .u32 wa, .int .u32 to, .slice A n c, .slice B m d] 29)).alloc (.cells #[.int .i64 op, .int .i64 0, .int .i64 phase, .int .i64 old, .int .i64 since, .int .i64 left, .bool awoke, .bool starve, .int .i64 need, .bool front] 31)).alloc (.cells #[.int .i64 0, .int .i64 0, .int .i64 0, .int .i64 0, .int .i64 0, .int .i64 0, .int .i64 0, .int .u32 0, .int .u32 0, .slice none 0 0, .slice none 0 0] 29)).alloc (.cells #[.int .i64 0, .int .i64 0, .int .i64 0, .int .i64 0, .int .i64 0, .int .i64 0, .bool false, .bool false, .int .i64 0, .bool false] 31)).heap.size = w.heap.size + 4 by simp [Nat.add_assoc]] at h0
      rw [← hw1]
      exact h0
    replace HB := Lib.hid (And.intro (HB.out.1.trans (hb.mono HB.out.2)) (Nat.le_trans HB.out.2 hb.size))
    have Vo := Lib.hid hv0
    have geo := gq
    have Vf := Lib.hid hv1
    have neo_f : w.heap.size ≠ w.heap.size + 1 := by omega
    have gef : _ ≤ w.heap.size + 1 := Nat.le_trans gq (Nat.le_add_right _ 1)
    have Vro := Lib.hid hv2
    have neo_ro : w.heap.size ≠ w.heap.size + 2 := by omega
    have nef_ro : w.heap.size + 1 ≠ w.heap.size + 2 := by omega
    have gero : _ ≤ w.heap.size + 2 := Nat.le_trans gq (Nat.le_add_right _ 2)
    have Vrf := Lib.hid hv3
    have neo_rf : w.heap.size ≠ w.heap.size + 3 := by omega
    have nef_rf : w.heap.size + 1 ≠ w.heap.size + 3 := by omega
    have nero_rf : w.heap.size + 2 ≠ w.heap.size + 3 := by omega
    have gerf : _ ≤ w.heap.size + 3 := Nat.le_trans gq (Nat.le_add_right _ 3)
    have Vra := Lib.hid hv4
    have neo_ra : w.heap.size ≠ w.heap.size + 4 := by omega
    have nef_ra : w.heap.size + 1 ≠ w.heap.size + 4 := by omega
    have nero_ra : w.heap.size + 2 ≠ w.heap.size + 4 := by omega
    have nerf_ra : w.heap.size + 3 ≠ w.heap.size + 4 := by omega
    have gera : _ ≤ w.heap.size + 4 := Nat.le_trans gq (Nat.le_add_right _ 4)
    generalize hso : w.heap.size = so at *
    clear hb gq hv0 hv1 hv2 hv3 hv4
    subst hso
    go_enter Try.func31, Try.ntmps31
    have cf := row10 Vf.out
    go_wp2_with fail
    refine (BG.out _).mono ?_
    rintro e w2 ⟨rfl, hb⟩
    clear cf
    replace Vo := Lib.hid (blk_below Vo.out hb (blk_lt Vo.out))
    replace Vf := Lib.hid (blk_below Vf.out hb (blk_lt Vf.out))
    replace Vro := Lib.hid (blk_below Vro.out hb (blk_lt Vro.out))
    replace Vrf := Lib.hid (blk_below Vrf.out hb (blk_lt Vrf.out))
    replace Vra := Lib.hid (blk_below Vra.out hb (blk_lt Vra.out))
    replace HB := Lib.hid (And.intro (HB.out.1.trans (hb.mono HB.out.2)) (Nat.le_trans HB.out.2 hb.size))
    clear hb
    have lto := blk_lt Vo.out
    have ltf := blk_lt Vf.out
    have ltro := blk_lt Vro.out
    have ltrf := blk_lt Vrf.out
    have ltra := blk_lt Vra.out
    have gq := HB.out.2
    obtain ⟨w3, hw3⟩ : ∃ W, (w2.alloc (.cells #[.int .i64 0, .int .i64 0, .int .i64 0, .int .i64 0, .int .i64 0, .int .i64 0, .bool false, .bool false, .int .i64 0, .bool false] 31)) = W := ⟨_, rfl⟩
    have hb : Below w2.heap.size w2 w3 := hw3 ▸ ((Below.refl _ _).alloc (Nat.le_refl _) _)
    have hv0 : w3.heap[w2.heap.size]? = some (.cells #[.int .i64 0, .int .i64 0, .int .i64 0, .int .i64 0, .int .i64 0, .int .i64 0, .bool false, .bool false, .int .i64 0, .bool false] 31) := by
      have h0 := heap_alloc_new w2 (.cells #[.int .i64 0, .int .i64 0, .int .i64 0, .int .i64 0, .int .i64 0, .int .i64 0, .bool false, .bool false, .int .i64 0, .bool false] 31)
      rw [show w2.heap.size = w2.heap.size by simp [Nat.add_assoc]] at h0
      rw [← hw3]
      exact h0
    replace Vo := Lib.hid (blk_below Vo.out hb (blk_lt Vo.out))
    replace Vf := Lib.hid (blk_below Vf.out hb (blk_lt Vf.out))
    replace Vro := Lib.hid (blk_below Vro.out hb (blk_lt Vro.out))
    replace Vrf := Lib.hid (blk_below Vrf.out hb (blk_lt Vrf.out))
    replace Vra := Lib.hid (blk_below Vra.out hb (blk_lt Vra.out))
    replace HB := Lib.hid (And.intro (HB.out.1.trans (hb.mono HB.out.2)) (Nat.le_trans HB.out.2 hb.size))
    have Vnx := Lib.hid hv0
    have neo_nx := Nat.ne_of_lt lto
    have nef_nx := Nat.ne_of_lt ltf
    have nero_nx := Nat.ne_of_lt ltro
    have nerf_nx := Nat.ne_of_lt ltrf
    have nera_nx := Nat.ne_of_lt ltra
    have genx := gq
    generalize hsnx : w2.heap.size = snx at *
    clear hb gq hv0 lto ltf ltro ltrf ltra
    obtain ⟨mw4, w4, hw4, hse, VN⟩ := set10 Vnx.out (.int .i64 op) (.int .i64 0) (.int .i64 0) (.int .i64 0) (.int .i64 (-1)) (.int .i64 0) (.bool false) (.bool false) (.int .i64 0) (.bool false)
    replace Vo := Lib.hid (stayS hse neo_nx Vo.out)
    replace Vf := Lib.hid (stayS hse nef_nx Vf.out)
    replace Vro := Lib.hid (stayS hse nero_nx Vro.out)
    replace Vrf := Lib.hid (stayS hse nerf_nx Vrf.out)
    replace Vra := Lib.hid (stayS hse nera_nx Vra.out)
    replace Vnx := VN
    replace HB := Lib.hid (belS hse genx HB.out)
    clear VN hse
    have knx : w4.cell? ⟨snx, 1, none⟩ = some (.int .i64 0) := (blk_cell Vnx.out 1).trans rfl
    have znx : w4.frozen? ⟨snx, 1, none⟩ = false := blk_frozen Vnx.out 1
    obtain ⟨w5, hw5⟩ : ∃ W, w4.setCell ⟨snx, 1, none⟩ (.int .i64 1) = W := ⟨_, rfl⟩
    have Vo2 : w5.heap[w.heap.size]? = some (.cells #[.int .i64 kd, .int .i64 o0, .int .i64 o1, .int .i64 o2, .int .i64 o3, .int .i64 o4, .int .i64 o5, .int .u32 wa, .int .u32 to, .slice A n c, .slice B m d] 29) := hw5 ▸ (Below.heap_setCell _ ⟨snx, 1, none⟩ (.int .i64 1) (w.heap.size) neo_nx).trans Vo.out
    have Vf2 : w5.heap[w.heap.size + 1]? = some (.cells #[.int .i64 op, .int .i64 0, .int .i64 phase, .int .i64 old, .int .i64 since, .int .i64 left, .bool awoke, .bool starve, .int .i64 need, .bool front] 31) := hw5 ▸ (Below.heap_setCell _ ⟨snx, 1, none⟩ (.int .i64 1) (w.heap.size + 1) nef_nx).trans Vf.out
    have Vro2 : w5.heap[w.heap.size + 2]? = some (.cells #[.int .i64 0, .int .i64 0, .int .i64 0, .int .i64 0, .int .i64 0, .int .i64 0, .int .i64 0, .int .u32 0, .int .u32 0, .slice none 0 0, .slice none 0 0] 29) := hw5 ▸ (Below.heap_setCell _ ⟨snx, 1, none⟩ (.int .i64 1) (w.heap.size + 2) nero_nx).trans Vro.out
    have Vrf2 : w5.heap[w.heap.size + 3]? = some (.cells #[.int .i64 0, .int .i64 0, .int .i64 0, .int .i64 0, .int .i64 0, .int .i64 0, .bool false, .bool false, .int .i64 0, .bool false] 31) := hw5 ▸ (Below.heap_setCell _ ⟨snx, 1, none⟩ (.int .i64 1) (w.heap.size + 3) nerf_nx).trans Vrf.out
    have Vra2 : w5.heap[w.heap.size + 4]? = some (.cells #[.bool false, .bool false, .bool false, .int .i64 0, .int .i64 0, .int .u64 0, .slice none 0 0] 38) := hw5 ▸ (Below.heap_setCell _ ⟨snx, 1, none⟩ (.int .i64 1) (w.heap.size + 4) nera_nx).trans Vra.out
    have Vnx2 : w5.heap[snx]? = some (.cells #[.int .i64 op, .int .i64 1, .int .i64 0, .int .i64 0, .int .i64 (-1), .int .i64 0, .bool false, .bool false, .int .i64 0, .bool false] 31) := hw5 ▸ blk_set (j := 1) Vnx.out (.int .i64 1)
    have hbb : Below _ _ w5 := hw5 ▸ HB.out.1.setCell (p := ⟨snx, 1, none⟩) genx _
    have hbs : w5.heap.size = w4.heap.size := by rw [← hw5]; simp [World.setCell]
    replace Vo := Lib.hid Vo2
    clear Vo2
    replace Vf := Lib.hid Vf2
    clear Vf2
    replace Vro := Lib.hid Vro2
    clear Vro2
    replace Vrf := Lib.hid Vrf2
    clear Vrf2
    replace Vra := Lib.hid Vra2
    clear Vra2
    replace Vnx := Lib.hid Vnx2
    clear Vnx2
    replace HB := Lib.hid (And.intro hbb (show _ ≤ w5.heap.size by rw [hbs]; exact HB.out.2))
    clear hbb hbs
    have HBZ := Lib.hid HB.out.2
    have co := row11 Vo.out
    have cf := row10 Vf.out
    go_wp2_with fail
    refine (LC.out _ (Es.below RX.out HB.out.1) (Es.below RY.out HB.out.1)).mono ?_
    rintro e w6 ⟨A1, c1, B1, d1, rfl, hon, hol, hb, hA, hB⟩
    clear mw4 hw4 knx znx hw5 co cf
    replace Vo := Lib.hid (blk_below Vo.out hb (blk_lt Vo.out))
    replace Vf := Lib.hid (blk_below Vf.out hb (blk_lt Vf.out))
    replace Vro := Lib.hid (blk_below Vro.out hb (blk_lt Vro.out))
    replace Vrf := Lib.hid (blk_below Vrf.out hb (blk_lt Vrf.out))
    replace Vra := Lib.hid (blk_below Vra.out hb (blk_lt Vra.out))
    replace Vnx := Lib.hid (blk_below Vnx.out hb (blk_lt Vnx.out))
    replace HB := Lib.hid (And.intro (HB.out.1.trans (hb.mono HB.out.2)) (Nat.le_trans HB.out.2 hb.size))
    clear hb
    have ON1 := Lib.hid (own_base hon HBZ.out); have OL1 := Lib.hid (own_base hol HBZ.out)
    have NW := Lib.hid hA; have NC := Lib.hid hB
    clear hon hol hA hB HBZ
    have lto := blk_lt Vo.out
    have ltf := blk_lt Vf.out
    have ltro := blk_lt Vro.out
    have ltrf := blk_lt Vrf.out
    have ltra := blk_lt Vra.out
    have ltnx := blk_lt Vnx.out
    have gq := HB.out.2
    obtain ⟨w7, hw7⟩ : ∃ W, (w6.alloc (.cells #[.bool false, .bool false, .bool false, .int .i64 0, .int .i64 0, .int .u64 0, .slice none 0 0] 38)) = W := ⟨_, rfl⟩
    have hb : Below w6.heap.size w6 w7 := hw7 ▸ ((Below.refl _ _).alloc (Nat.le_refl _) _)
    have hv0 : w7.heap[w6.heap.size]? = some (.cells #[.bool false, .bool false, .bool false, .int .i64 0, .int .i64 0, .int .u64 0, .slice none 0 0] 38) := by
      have h0 := heap_alloc_new w6 (.cells #[.bool false, .bool false, .bool false, .int .i64 0, .int .i64 0, .int .u64 0, .slice none 0 0] 38)
      rw [show w6.heap.size = w6.heap.size by simp [Nat.add_assoc]] at h0
      rw [← hw7]
      exact h0
    replace Vo := Lib.hid (blk_below Vo.out hb (blk_lt Vo.out))
    replace Vf := Lib.hid (blk_below Vf.out hb (blk_lt Vf.out))
    replace Vro := Lib.hid (blk_below Vro.out hb (blk_lt Vro.out))
    replace Vrf := Lib.hid (blk_below Vrf.out hb (blk_lt Vrf.out))
    replace Vra := Lib.hid (blk_below Vra.out hb (blk_lt Vra.out))
    replace Vnx := Lib.hid (blk_below Vnx.out hb (blk_lt Vnx.out))
    replace ON1 := Lib.hid (own_below ON1.out hb)
    replace OL1 := Lib.hid (own_below OL1.out hb)
    replace HB := Lib.hid (And.intro (HB.out.1.trans (hb.mono HB.out.2)) (Nat.le_trans HB.out.2 hb.size))
    have Vu := Lib.hid hv0
    have neo_u := Nat.ne_of_lt lto
    have nef_u := Nat.ne_of_lt ltf
    have nero_u := Nat.ne_of_lt ltro
    have nerf_u := Nat.ne_of_lt ltrf
    have nera_u := Nat.ne_of_lt ltra
    have nenx_u := Nat.ne_of_lt ltnx
    have geu := gq
    generalize hsu : w6.heap.size = su at *
    clear hb gq hv0 lto ltf ltro ltrf ltra ltnx
    obtain ⟨mw8, w8, hw8, hse, VN⟩ := set11 Vo.out (.int .i64 kd) (.int .i64 z) (.int .i64 o1) (.int .i64 o2) (.int .i64 o3) (.int .i64 o4) (.int .i64 o5) (.int .u32 wa) (.int .u32 to) (.slice A1 n c1) (.slice B1 m d1)
    replace ON1 := Lib.hid (own_whole (by decide) ON1.out Vo.out hse)
    replace OL1 := Lib.hid (own_whole (by decide) OL1.out Vo.out hse)
    replace Vf := Lib.hid (stayS hse neo_f.symm Vf.out)
    replace Vro := Lib.hid (stayS hse neo_ro.symm Vro.out)
    replace Vrf := Lib.hid (stayS hse neo_rf.symm Vrf.out)
    replace Vra := Lib.hid (stayS hse neo_ra.symm Vra.out)
    replace Vnx := Lib.hid (stayS hse neo_nx.symm Vnx.out)
    replace Vu := Lib.hid (stayS hse neo_u.symm Vu.out)
    replace Vo := VN
    replace HB := Lib.hid (belS hse geo HB.out)
    clear VN hse
    obtain ⟨mw9, w9, hw9, hse, VN⟩ := set10 Vf.out (.int .i64 gop) (.int .i64 gstage) (.int .i64 gphase) (.int .i64 gold) (.int .i64 gsince) (.int .i64 gleft) (.bool gawoke) (.bool gstarve) (.int .i64 gneed) (.bool gfront)
    replace ON1 := Lib.hid (own_whole (by decide) ON1.out Vf.out hse)
    replace OL1 := Lib.hid (own_whole (by decide) OL1.out Vf.out hse)
    replace Vo := Lib.hid (stayS hse neo_f Vo.out)
    replace Vro := Lib.hid (stayS hse nef_ro.symm Vro.out)
    replace Vrf := Lib.hid (stayS hse nef_rf.symm Vrf.out)
    replace Vra := Lib.hid (stayS hse nef_ra.symm Vra.out)
    replace Vnx := Lib.hid (stayS hse nef_nx.symm Vnx.out)
    replace Vu := Lib.hid (stayS hse nef_u.symm Vu.out)
    replace Vf := VN
    replace HB := Lib.hid (belS hse gef HB.out)
    clear VN hse
    obtain ⟨mw10, w10, hw10, hse, VN⟩ := set7 Vu.out (.bool true) (.bool false) (.bool ghd) (.int .i64 ggv) (.int .i64 gft) (.int .u64 0) (.slice WA wn wc)
    replace ON1 := Lib.hid (own_whole (by decide) ON1.out Vu.out hse)
    replace OL1 := Lib.hid (own_whole (by decide) OL1.out Vu.out hse)
    replace Vo := Lib.hid (stayS hse neo_u Vo.out)
    replace Vf := Lib.hid (stayS hse nef_u Vf.out)
    replace Vro := Lib.hid (stayS hse nero_u Vro.out)
    replace Vrf := Lib.hid (stayS hse nerf_u Vrf.out)
    replace Vra := Lib.hid (stayS hse nera_u Vra.out)
    replace Vnx := Lib.hid (stayS hse nenx_u Vnx.out)
    replace Vu := VN
    replace HB := Lib.hid (belS hse geu HB.out)
    clear VN hse
    have cnx := row10 Vnx.out
    have co := row11 Vo.out
    have cf := row10 Vf.out
    have cu := row7 Vu.out
    go_wp2_with fail
    refine (stThen_true _ _ _ _ _ _ _ _ _ _ _ _ _ _ _ _ _ _ _ _ _ _ _ _ _ _ _ _ _ _ _ _ _ _ _ _ _ _ _ _ _ _ _ _).mono ?_
    rintro e w11 ⟨rfl, hb⟩
    clear mw8 hw8 mw9 hw9 mw10 hw10 cnx co cf cu
    replace Vo := Lib.hid (blk_below Vo.out hb (blk_lt Vo.out))
    replace Vf := Lib.hid (blk_below Vf.out hb (blk_lt Vf.out))
    replace Vro := Lib.hid (blk_below Vro.out hb (blk_lt Vro.out))
    replace Vrf := Lib.hid (blk_below Vrf.out hb (blk_lt Vrf.out))
    replace Vra := Lib.hid (blk_below Vra.out hb (blk_lt Vra.out))
    replace Vnx := Lib.hid (blk_below Vnx.out hb (blk_lt Vnx.out))
    replace Vu := Lib.hid (blk_below Vu.out hb (blk_lt Vu.out))
    replace ON1 := Lib.hid (own_below ON1.out hb)
    replace OL1 := Lib.hid (own_below OL1.out hb)
    replace HB := Lib.hid (And.intro (HB.out.1.trans (hb.mono HB.out.2)) (Nat.le_trans HB.out.2 hb.size))
    clear hb
    obtain ⟨mw12, w12, hw12, hse, VN⟩ := set11 Vro.out (.int .i64 kd) (.int .i64 z) (.int .i64 o1) (.int .i64 o2) (.int .i64 o3) (.int .i64 o4) (.int .i64 o5) (.int .u32 wa) (.int .u32 to) (.slice A1 n c1) (.slice B1 m d1)
    replace ON1 := Lib.hid (own_whole (by decide) ON1.out Vro.out hse)
    replace OL1 := Lib.hid (own_whole (by decide) OL1.out Vro.out hse)
    replace Vo := Lib.hid (stayS hse neo_ro Vo.out)
    replace Vf := Lib.hid (stayS hse nef_ro Vf.out)
    replace Vrf := Lib.hid (stayS hse nero_rf.symm Vrf.out)
    replace Vra := Lib.hid (stayS hse nero_ra.symm Vra.out)
    replace Vnx := Lib.hid (stayS hse nero_nx.symm Vnx.out)
    replace Vu := Lib.hid (stayS hse nero_u.symm Vu.out)
    replace Vro := VN
    replace HB := Lib.hid (belS hse gero HB.out)
    clear VN hse
    obtain ⟨mw13, w13, hw13, hse, VN⟩ := set10 Vrf.out (.int .i64 op) (.int .i64 1) (.int .i64 0) (.int .i64 0) (.int .i64 (-1)) (.int .i64 0) (.bool false) (.bool false) (.int .i64 0) (.bool false)
    replace ON1 := Lib.hid (own_whole (by decide) ON1.out Vrf.out hse)
    replace OL1 := Lib.hid (own_whole (by decide) OL1.out Vrf.out hse)
    replace Vo := Lib.hid (stayS hse neo_rf Vo.out)
    replace Vf := Lib.hid (stayS hse nef_rf Vf.out)
    replace Vro := Lib.hid (stayS hse nero_rf Vro.out)
    replace Vra := Lib.hid (stayS hse nerf_ra.symm Vra.out)
    replace Vnx := Lib.hid (stayS hse nerf_nx.symm Vnx.out)
    replace Vu := Lib.hid (stayS hse nerf_u.symm Vu.out)
    replace Vrf := VN
    replace HB := Lib.hid (belS hse gerf HB.out)
    clear VN hse
    obtain ⟨mw14, w14, hw14, hse, VN⟩ := set7 Vra.out (.bool false) (.bool false) (.bool ghd) (.int .i64 ggv) (.int .i64 0) (.int .u64 0) (.slice none 0 0)
    replace ON1 := Lib.hid (own_whole (by decide) ON1.out Vra.out hse)
    replace OL1 := Lib.hid (own_whole (by decide) OL1.out Vra.out hse)
    replace Vo := Lib.hid (stayS hse neo_ra Vo.out)
    replace Vf := Lib.hid (stayS hse nef_ra Vf.out)
    replace Vro := Lib.hid (stayS hse nero_ra Vro.out)
    replace Vrf := Lib.hid (stayS hse nerf_ra Vrf.out)
    replace Vnx := Lib.hid (stayS hse nera_nx.symm Vnx.out)
    replace Vu := Lib.hid (stayS hse nera_u.symm Vu.out)
    replace Vra := VN
    replace HB := Lib.hid (belS hse gera HB.out)
    clear VN hse
    go_wp2
    refine bodyPost_ret (res_ccc Try.results31 (by rfl) (by rfl) (by rfl) (load_blk Vro.out Try.underlying29 (by kernel_rfl)) (load_blk Vrf.out Try.underlying31 (by kernel_rfl)) (load_blk Vra.out Try.underlying38 (by kernel_rfl))) rfl ?_
    obtain ⟨q1, q2⟩ := HG.out
    subst q1
    subst q2
    rw [HE.out]
    exact ⟨A1, c1, B1, d1, rfl, ON1.out, OL1.out, HB.out.1, NW.out, NC.out⟩
set_option maxRecDepth 100000 in
set_option maxHeartbeats 16000000 in
theorem rwWLock_any (kd o0 o1 o2 o3 o4 o5 wa to : Int) (A : Option Addr) (n c : Nat) (B : Option Addr) (m d : Nat) (nl : List Wt) (ll : List Cl) (f : MFr) (now pat : Int) (w : World) (hx : Wts w A n c nl) (hy : Cls w B m d ll) (hn : n ≤ 16384) (hm : m ≤ 16384) (hr : IntKind.i64.wrap o0 = o0 ∧ IntKind.i64.wrap o4 = o4 ∧ IntKind.i64.wrap o5 = o5) : Calls Try.prog 16 #[obV kd o0 o1 o2 o3 o4 o5 wa to A n c B m d, frV f, .int .i64 now, .int .i64 pat] w (CopR w kd o1 o2 o3 wa to A n B m nl ll (wlockW o0 o4 o5 f now pat)) := by
  have RX := Lib.hid hx; have RY := Lib.hid hy
  have CP := Lib.hid (fun (W : World) (h1 : Wts W A n c nl) (h2 : Cls W B m d ll) => muCopied_any kd o0 o1 o2 o3 o4 o5 wa to A n c B m d nl ll W h1 h2 hn hm)
  clear hx hy
  obtain ⟨op, stage, phase, old, since, left, awoke, starve, need, front⟩ := f
  unfold obV frV frC
  simp only
  have HN := Lib.hid (And.intro hn (And.intro hm hr.1))
  clear hn hm hr
  obtain ⟨v1, hv1, z1, v2, hv2, z2, v3, hv3, z3, v4, hv4, z4, v5, hv5, z5, F⟩ := boxes5 w (.cells #[.int .i64 kd, .int .i64 o0, .int .i64 o1, .int .i64 o2, .int .i64 o3, .int .i64 o4, .int .i64 o5, .int .u32 wa, .int .u32 to, .slice A n c, .slice B m d] 29) (.cells #[.int .i64 op, .int .i64 stage, .int .i64 phase, .int .i64 old, .int .i64 since, .int .i64 left, .bool awoke, .bool starve, .int .i64 need, .bool front] 31) (.cells #[.int .i64 0, .int .i64 0, .int .i64 0, .int .i64 0, .int .i64 0, .int .i64 0, .int .i64 0, .int .u32 0, .int .u32 0, .slice none 0 0, .slice none 0 0] 29) (.cells #[.int .i64 0, .int .i64 0, .int .i64 0, .int .i64 0, .int .i64 0, .int .i64 0, .bool false, .bool false, .int .i64 0, .bool false] 31) (.cells #[.bool false, .bool false, .bool false, .int .i64 0, .int .i64 0, .int .u64 0, .slice none 0 0] 38)
  generalize hq : w.heap.size = q at *
  have FR := Lib.hid F
  clear F
  by_cases s0 : stage = 0
  · subst s0
    obtain ⟨⟨⟨z0, z4, z5⟩, ⟨gop, gstage, gphase, gold, gsince, gleft, gawoke, gstarve, gneed, gfront⟩, ⟨gdn, ggv, ghd, gft⟩⟩, hr0⟩ : ∃ r, wlockW o0 o4 o5 ⟨op, 0, phase, old, since, left, awoke, starve, need, front⟩ now pat = r := ⟨_, rfl⟩
    have HE := Lib.hid hr0
    have ST := Lib.hid (show ∀ (A9 : Option Addr) (c9 : Nat) (B9 : Option Addr) (d9 : Nat) (W : World), Wts W A9 n c9 nl → Cls W B9 m d9 ll → Calls Try.prog 31 #[.agg #[.int .i64 kd, .int .i64 o0, .int .i64 o1, .int .i64 o2, .int .i64 o3, .int .i64 o4, .int .i64 o5, .int .u32 wa, .int .u32 to, .slice A9 n c9, .slice B9 m d9], .agg #[.int .i64 op, .int .i64 0, .int .i64 phase, .int .i64 old, .int .i64 since, .int .i64 left, .bool awoke, .bool starve, .int .i64 need, .bool front], .int .i64 now, .int .i64 pat] W (fun e w' => ∃ A2 c2 B2 d2, e = .returned (.tuple #[.agg #[.int .i64 kd, .int .i64 z0, .int .i64 o1, .int .i64 o2, .int .i64 o3, .int .i64 z4, .int .i64 z5, .int .u32 wa, .int .u32 to, .slice A2 n c2, .slice B2 m d2], .agg #[.int .i64 gop, .int .i64 gstage, .int .i64 gphase, .int .i64 gold, .int .i64 gsince, .int .i64 gleft, .bool gawoke, .bool gstarve, .int .i64 gneed, .bool gfront], .agg #[.bool gdn, .bool false, .bool ghd, .int .i64 ggv, .int .i64 gft, .int .u64 0, .slice none 0 0]]) ∧ w'.ownsRow W.heap.size 67 2 (.slice A2 n c2) n (wtC nl) ∧ w'.ownsRow W.heap.size 62 2 (.slice B2 m d2) m (clC ll) ∧ Below W.heap.size W w' ∧ (A9 = none → A2 = none ∧ c2 = 0) ∧ (B9 = none → B2 = none ∧ d2 = 0)) from fun A9 c9 B9 d9 W h1 h2 => by
      have h := rwLockW_any kd o0 o1 o2 o3 o4 o5 wa to A9 n c9 B9 m d9 nl ll ⟨op, 0, phase, old, since, left, awoke, starve, need, front⟩ rfl now pat W h1 h2 HN.out.1 HN.out.2.1
      rw [hr0] at h
      exact h)
    clear hr0 HN
    go_enter Try.func16, Try.ntmps16
    have ac0 := row11 (b := q) (FR.out.at 0 rfl rfl)
    go_wp2_with fail
    refine (CP.out _ (FR.out.es RX.out) (FR.out.es RY.out)).mono ?_
    rintro e w3 ⟨A2, c2, B2, d2, rfl, hown, hown2, hb, hA, hB⟩
    clear ac0
    unfold obV
    have hsz := FR.out.sz
    simp only [List.length_set, List.length_cons, List.length_nil] at hsz
    replace FR := Lib.hid (FR.out.step hb)
    have OW := Lib.hid (own_base hown (show q ≤ _ by omega))
    have OC := Lib.hid (own_base hown2 (show q ≤ _ by omega))
    have NW := Lib.hid hA
    have NC := Lib.hid hB
    clear hown hown2 hb hsz hA hB
    obtain ⟨mw6p, w6p, hw6p, hse, F⟩ := FR.out.put11 0 rfl (b := q) rfl (.int .i64 kd) (.int .i64 o0) (.int .i64 o1) (.int .i64 o2) (.int .i64 o3) (.int .i64 o4) (.int .i64 o5) (.int .u32 wa) (.int .u32 to) (.slice A2 n c2) (.slice B2 m d2)
    replace OW := Lib.hid (own_whole (by decide) OW.out (FR.out.blk 0 _ rfl) hse)
    replace OC := Lib.hid (own_whole (by decide) OC.out (FR.out.blk 0 _ rfl) hse)
    replace FR := F
    clear F hse
    have cc0 := row11 (b := q) (FR.out.at 0 rfl rfl)
    have cc1 := row10 (b := q + 1) (FR.out.at 1 rfl rfl)
    have hsz := FR.out.sz
    simp only [List.length_set, List.length_cons, List.length_nil] at hsz
    have hqw := Nat.le_trans (Nat.le_add_right q _) hsz
    have HQ := Lib.hid hqw
    clear hsz hqw
    go_wp2_with fail
    refine (ST.out _ _ _ _ _ (own_wts OW.out) (own_cls OC.out)).mono ?_
    rintro e w5 ⟨A3, c3, B3, d3, rfl, hown, hown2, hb, hA, hB⟩
    clear mw6p cc0 cc1
    clear hw6p
    clear OW OC
    replace FR := Lib.hid (FR.out.step hb)
    have OW := Lib.hid (own_base hown HQ.out)
    have OC := Lib.hid (own_base hown2 HQ.out)
    replace NW := Lib.hid (fun h => hA (NW.out h).1)
    replace NC := Lib.hid (fun h => hB (NC.out h).1)
    clear hown hown2 hb hA hB HQ
    obtain ⟨mw7r, w7r, hw7r, hse, F⟩ := FR.out.put11 2 rfl (b := q + 2) rfl (.int .i64 kd) (.int .i64 z0) (.int .i64 o1) (.int .i64 o2) (.int .i64 o3) (.int .i64 z4) (.int .i64 z5) (.int .u32 wa) (.int .u32 to) (.slice A3 n c3) (.slice B3 m d3)
    replace OW := Lib.hid (own_whole (by decide) OW.out (FR.out.blk 2 _ rfl) hse)
    replace OC := Lib.hid (own_whole (by decide) OC.out (FR.out.blk 2 _ rfl) hse)
    replace FR := F
    clear F hse
    obtain ⟨mw8r, w8r, hw8r, hse, F⟩ := FR.out.put10 3 rfl (b := q + 3) rfl (.int .i64 gop) (.int .i64 gstage) (.int .i64 gphase) (.int .i64 gold) (.int .i64 gsince) (.int .i64 gleft) (.bool gawoke) (.bool gstarve) (.int .i64 gneed) (.bool gfront)
    replace OW := Lib.hid (own_whole (by decide) OW.out (FR.out.blk 3 _ rfl) hse)
    replace OC := Lib.hid (own_whole (by decide) OC.out (FR.out.blk 3 _ rfl) hse)
    replace FR := F
    clear F hse
    obtain ⟨mw9r, w9r, hw9r, hse, F⟩ := FR.out.put7 4 rfl (b := q + 4) rfl (.bool gdn) (.bool false) (.bool ghd) (.int .i64 ggv) (.int .i64 gft) (.int .u64 0) (.slice none 0 0)
    replace OW := Lib.hid (own_whole (by decide) OW.out (FR.out.blk 4 _ rfl) hse)
    replace OC := Lib.hid (own_whole (by decide) OC.out (FR.out.blk 4 _ rfl) hse)
    replace FR := F
    clear F hse
    go_wp2
    refine bodyPost_ret (res_ccc Try.results16 (by rfl) (by rfl) (by rfl) (FR.out.load 2 rfl rfl Try.underlying29 (by kernel_rfl)) (FR.out.load 3 rfl rfl Try.underlying31 (by kernel_rfl)) (FR.out.load 4 rfl rfl Try.underlying38 (by kernel_rfl))) rfl ?_
    rw [HE.out]
    exact ⟨A3, c3, B3, d3, rfl, (by rw [hq]; exact OW.out), (by rw [hq]; exact OC.out), FR.out.out, NW.out, NC.out⟩
  have n0 : (stage == 0) = false := by simp [s0]
  by_cases s1 : stage = 1
  · subst s1
    obtain ⟨⟨⟨z0, z4, z5⟩, ⟨gop, gstage, gphase, gold, gsince, gleft, gawoke, gstarve, gneed, gfront⟩, ⟨gdn, ggv, ghd, gft⟩⟩, hr0⟩ : ∃ r, wlockW o0 o4 o5 ⟨op, 1, phase, old, since, left, awoke, starve, need, front⟩ now pat = r := ⟨_, rfl⟩
    have HE := Lib.hid hr0
    have ST := Lib.hid (show ∀ (A9 : Option Addr) (n9 c9 : Nat) (B9 : Option Addr) (m9 d9 : Nat) (W : World), Calls Try.prog 32 #[.agg #[.int .i64 kd, .int .i64 o0, .int .i64 o1, .int .i64 o2, .int .i64 o3, .int .i64 o4, .int .i64 o5, .int .u32 wa, .int .u32 to, .slice A9 n9 c9, .slice B9 m9 d9], .agg #[.int .i64 op, .int .i64 1, .int .i64 phase, .int .i64 old, .int .i64 since, .int .i64 left, .bool awoke, .bool starve, .int .i64 need, .bool front]] W (fun e w' => e = .returned (.tuple #[.agg #[.int .i64 kd, .int .i64 z0, .int .i64 o1, .int .i64 o2, .int .i64 o3, .int .i64 z4, .int .i64 z5, .int .u32 wa, .int .u32 to, .slice A9 n9 c9, .slice B9 m9 d9], .agg #[.int .i64 gop, .int .i64 gstage, .int .i64 gphase, .int .i64 gold, .int .i64 gsince, .int .i64 gleft, .bool gawoke, .bool gstarve, .int .i64 gneed, .bool gfront], .agg #[.bool gdn, .bool false, .bool ghd, .int .i64 ggv, .int .i64 gft, .int .u64 0, .slice none 0 0]]) ∧ Below W.heap.size W w') from fun A9 n9 c9 B9 m9 d9 W => by
      have h := rwToWrite_any kd o0 o1 o2 o3 o4 o5 wa to A9 n9 c9 B9 m9 d9 ⟨op, 1, phase, old, since, left, awoke, starve, need, front⟩ rfl now pat W
      rw [hr0] at h
      exact h)
    clear hr0 s0 n0
    go_enter Try.func16, Try.ntmps16
    have ac0 := row11 (b := q) (FR.out.at 0 rfl rfl)
    go_wp2_with fail
    refine (CP.out _ (FR.out.es RX.out) (FR.out.es RY.out)).mono ?_
    rintro e w3 ⟨A2, c2, B2, d2, rfl, hown, hown2, hb, hA, hB⟩
    clear ac0
    unfold obV
    have hsz := FR.out.sz
    simp only [List.length_set, List.length_cons, List.length_nil] at hsz
    replace FR := Lib.hid (FR.out.step hb)
    have OW := Lib.hid (own_base hown (show q ≤ _ by omega))
    have OC := Lib.hid (own_base hown2 (show q ≤ _ by omega))
    have NW := Lib.hid hA
    have NC := Lib.hid hB
    clear hown hown2 hb hsz hA hB
    obtain ⟨mw6p, w6p, hw6p, hse, F⟩ := FR.out.put11 0 rfl (b := q) rfl (.int .i64 kd) (.int .i64 o0) (.int .i64 o1) (.int .i64 o2) (.int .i64 o3) (.int .i64 o4) (.int .i64 o5) (.int .u32 wa) (.int .u32 to) (.slice A2 n c2) (.slice B2 m d2)
    replace OW := Lib.hid (own_whole (by decide) OW.out (FR.out.blk 0 _ rfl) hse)
    replace OC := Lib.hid (own_whole (by decide) OC.out (FR.out.blk 0 _ rfl) hse)
    replace FR := F
    clear F hse
    have cc0 := row11 (b := q) (FR.out.at 0 rfl rfl)
    have cc1 := row10 (b := q + 1) (FR.out.at 1 rfl rfl)
    go_wp2_with fail
    refine (ST.out _ _ _ _ _ _ _).mono ?_
    rintro e w5 ⟨rfl, hb⟩
    clear mw6p cc0 cc1
    clear hw6p
    replace FR := Lib.hid (FR.out.step hb)
    replace OW := Lib.hid (own_below OW.out hb)
    replace OC := Lib.hid (own_below OC.out hb)
    clear hb
    obtain ⟨mw7r, w7r, hw7r, hse, F⟩ := FR.out.put11 2 rfl (b := q + 2) rfl (.int .i64 kd) (.int .i64 z0) (.int .i64 o1) (.int .i64 o2) (.int .i64 o3) (.int .i64 z4) (.int .i64 z5) (.int .u32 wa) (.int .u32 to) (.slice A2 n c2) (.slice B2 m d2)
    replace OW := Lib.hid (own_whole (by decide) OW.out (FR.out.blk 2 _ rfl) hse)
    replace OC := Lib.hid (own_whole (by decide) OC.out (FR.out.blk 2 _ rfl) hse)
    replace FR := F
    clear F hse
    obtain ⟨mw8r, w8r, hw8r, hse, F⟩ := FR.out.put10 3 rfl (b := q + 3) rfl (.int .i64 gop) (.int .i64 gstage) (.int .i64 gphase) (.int .i64 gold) (.int .i64 gsince) (.int .i64 gleft) (.bool gawoke) (.bool gstarve) (.int .i64 gneed) (.bool gfront)
    replace OW := Lib.hid (own_whole (by decide) OW.out (FR.out.blk 3 _ rfl) hse)
    replace OC := Lib.hid (own_whole (by decide) OC.out (FR.out.blk 3 _ rfl) hse)
    replace FR := F
    clear F hse
    obtain ⟨mw9r, w9r, hw9r, hse, F⟩ := FR.out.put7 4 rfl (b := q + 4) rfl (.bool gdn) (.bool false) (.bool ghd) (.int .i64 ggv) (.int .i64 gft) (.int .u64 0) (.slice none 0 0)
    replace OW := Lib.hid (own_whole (by decide) OW.out (FR.out.blk 4 _ rfl) hse)
    replace OC := Lib.hid (own_whole (by decide) OC.out (FR.out.blk 4 _ rfl) hse)
    replace FR := F
    clear F hse
    go_wp2
    refine bodyPost_ret (res_ccc Try.results16 (by rfl) (by rfl) (by rfl) (FR.out.load 2 rfl rfl Try.underlying29 (by kernel_rfl)) (FR.out.load 3 rfl rfl Try.underlying31 (by kernel_rfl)) (FR.out.load 4 rfl rfl Try.underlying38 (by kernel_rfl))) rfl ?_
    rw [HE.out]
    exact ⟨A2, c2, B2, d2, rfl, (by rw [hq]; exact OW.out), (by rw [hq]; exact OC.out), FR.out.out, NW.out, NC.out⟩
  have n1 : (stage == 1) = false := by simp [s1]
  by_cases s2 : stage = 2
  · subst s2
    obtain ⟨⟨⟨z0, z4, z5⟩, ⟨gop, gstage, gphase, gold, gsince, gleft, gawoke, gstarve, gneed, gfront⟩, ⟨gdn, ggv, ghd, gft⟩⟩, hr0⟩ : ∃ r, wlockW o0 o4 o5 ⟨op, 2, phase, old, since, left, awoke, starve, need, front⟩ now pat = r := ⟨_, rfl⟩
    have HE := Lib.hid hr0
    have ST := Lib.hid (show ∀ (A9 : Option Addr) (n9 c9 : Nat) (B9 : Option Addr) (m9 d9 : Nat) (W : World), Calls Try.prog 33 #[.agg #[.int .i64 kd, .int .i64 o0, .int .i64 o1, .int .i64 o2, .int .i64 o3, .int .i64 o4, .int .i64 o5, .int .u32 wa, .int .u32 to, .slice A9 n9 c9, .slice B9 m9 d9], .agg #[.int .i64 op, .int .i64 2, .int .i64 phase, .int .i64 old, .int .i64 since, .int .i64 left, .bool awoke, .bool starve, .int .i64 need, .bool front]] W (fun e w' => e = .returned (.tuple #[.agg #[.int .i64 kd, .int .i64 z0, .int .i64 o1, .int .i64 o2, .int .i64 o3, .int .i64 z4, .int .i64 z5, .int .u32 wa, .int .u32 to, .slice A9 n9 c9, .slice B9 m9 d9], .agg #[.int .i64 gop, .int .i64 gstage, .int .i64 gphase, .int .i64 gold, .int .i64 gsince, .int .i64 gleft, .bool gawoke, .bool gstarve, .int .i64 gneed, .bool gfront], .agg #[.bool gdn, .bool false, .bool ghd, .int .i64 ggv, .int .i64 gft, .int .u64 0, .slice none 0 0]]) ∧ Below W.heap.size W w') from fun A9 n9 c9 B9 m9 d9 W => by
      have h := rwWait_any kd o0 o1 o2 o3 o4 o5 wa to A9 n9 c9 B9 m9 d9 ⟨op, 2, phase, old, since, left, awoke, starve, need, front⟩ rfl now pat W
      rw [hr0] at h
      exact h)
    clear hr0 s0 n0 s1 n1
    go_enter Try.func16, Try.ntmps16
    have ac0 := row11 (b := q) (FR.out.at 0 rfl rfl)
    go_wp2_with fail
    refine (CP.out _ (FR.out.es RX.out) (FR.out.es RY.out)).mono ?_
    rintro e w3 ⟨A2, c2, B2, d2, rfl, hown, hown2, hb, hA, hB⟩
    clear ac0
    unfold obV
    have hsz := FR.out.sz
    simp only [List.length_set, List.length_cons, List.length_nil] at hsz
    replace FR := Lib.hid (FR.out.step hb)
    have OW := Lib.hid (own_base hown (show q ≤ _ by omega))
    have OC := Lib.hid (own_base hown2 (show q ≤ _ by omega))
    have NW := Lib.hid hA
    have NC := Lib.hid hB
    clear hown hown2 hb hsz hA hB
    obtain ⟨mw6p, w6p, hw6p, hse, F⟩ := FR.out.put11 0 rfl (b := q) rfl (.int .i64 kd) (.int .i64 o0) (.int .i64 o1) (.int .i64 o2) (.int .i64 o3) (.int .i64 o4) (.int .i64 o5) (.int .u32 wa) (.int .u32 to) (.slice A2 n c2) (.slice B2 m d2)
    replace OW := Lib.hid (own_whole (by decide) OW.out (FR.out.blk 0 _ rfl) hse)
    replace OC := Lib.hid (own_whole (by decide) OC.out (FR.out.blk 0 _ rfl) hse)
    replace FR := F
    clear F hse
    have cc0 := row11 (b := q) (FR.out.at 0 rfl rfl)
    have cc1 := row10 (b := q + 1) (FR.out.at 1 rfl rfl)
    go_wp2_with fail
    refine (ST.out _ _ _ _ _ _ _).mono ?_
    rintro e w5 ⟨rfl, hb⟩
    clear mw6p cc0 cc1
    clear hw6p
    replace FR := Lib.hid (FR.out.step hb)
    replace OW := Lib.hid (own_below OW.out hb)
    replace OC := Lib.hid (own_below OC.out hb)
    clear hb
    obtain ⟨mw7r, w7r, hw7r, hse, F⟩ := FR.out.put11 2 rfl (b := q + 2) rfl (.int .i64 kd) (.int .i64 z0) (.int .i64 o1) (.int .i64 o2) (.int .i64 o3) (.int .i64 z4) (.int .i64 z5) (.int .u32 wa) (.int .u32 to) (.slice A2 n c2) (.slice B2 m d2)
    replace OW := Lib.hid (own_whole (by decide) OW.out (FR.out.blk 2 _ rfl) hse)
    replace OC := Lib.hid (own_whole (by decide) OC.out (FR.out.blk 2 _ rfl) hse)
    replace FR := F
    clear F hse
    obtain ⟨mw8r, w8r, hw8r, hse, F⟩ := FR.out.put10 3 rfl (b := q + 3) rfl (.int .i64 gop) (.int .i64 gstage) (.int .i64 gphase) (.int .i64 gold) (.int .i64 gsince) (.int .i64 gleft) (.bool gawoke) (.bool gstarve) (.int .i64 gneed) (.bool gfront)
    replace OW := Lib.hid (own_whole (by decide) OW.out (FR.out.blk 3 _ rfl) hse)
    replace OC := Lib.hid (own_whole (by decide) OC.out (FR.out.blk 3 _ rfl) hse)
    replace FR := F
    clear F hse
    obtain ⟨mw9r, w9r, hw9r, hse, F⟩ := FR.out.put7 4 rfl (b := q + 4) rfl (.bool gdn) (.bool false) (.bool ghd) (.int .i64 ggv) (.int .i64 gft) (.int .u64 0) (.slice none 0 0)
    replace OW := Lib.hid (own_whole (by decide) OW.out (FR.out.blk 4 _ rfl) hse)
    replace OC := Lib.hid (own_whole (by decide) OC.out (FR.out.blk 4 _ rfl) hse)
    replace FR := F
    clear F hse
    go_wp2
    refine bodyPost_ret (res_ccc Try.results16 (by rfl) (by rfl) (by rfl) (FR.out.load 2 rfl rfl Try.underlying29 (by kernel_rfl)) (FR.out.load 3 rfl rfl Try.underlying31 (by kernel_rfl)) (FR.out.load 4 rfl rfl Try.underlying38 (by kernel_rfl))) rfl ?_
    rw [HE.out]
    exact ⟨A2, c2, B2, d2, rfl, (by rw [hq]; exact OW.out), (by rw [hq]; exact OC.out), FR.out.out, NW.out, NC.out⟩
  have n2 : (stage == 2) = false := by simp [s2]
  by_cases s3 : stage = 3
  · subst s3
    have HE := Lib.hid (show wlockW o0 o4 o5 ⟨op, 3, phase, old, since, left, awoke, starve, need, front⟩ now pat = ((o0, o4, o5), noF, doneA) from by
      unfold wlockW
      rw [if_neg (show ¬ ((3 : Int) = 0) by decide), if_neg (show ¬ ((3 : Int) = 1) by decide), if_neg (show ¬ ((3 : Int) = 2) by decide), if_pos rfl])
    clear s0 n0 s1 n1 s2 n2
    go_enter Try.func16, Try.ntmps16
    have ac0 := row11 (b := q) (FR.out.at 0 rfl rfl)
    go_wp2_with fail
    refine (CP.out _ (FR.out.es RX.out) (FR.out.es RY.out)).mono ?_
    rintro e w3 ⟨A2, c2, B2, d2, rfl, hown, hown2, hb, hA, hB⟩
    clear ac0
    unfold obV
    have hsz := FR.out.sz
    simp only [List.length_set, List.length_cons, List.length_nil] at hsz
    replace FR := Lib.hid (FR.out.step hb)
    have OW := Lib.hid (own_base hown (show q ≤ _ by omega))
    have OC := Lib.hid (own_base hown2 (show q ≤ _ by omega))
    have NW := Lib.hid hA
    have NC := Lib.hid hB
    clear hown hown2 hb hsz hA hB
    obtain ⟨mw6p, w6p, hw6p, hse, F⟩ := FR.out.put11 0 rfl (b := q) rfl (.int .i64 kd) (.int .i64 o0) (.int .i64 o1) (.int .i64 o2) (.int .i64 o3) (.int .i64 o4) (.int .i64 o5) (.int .u32 wa) (.int .u32 to) (.slice A2 n c2) (.slice B2 m d2)
    replace OW := Lib.hid (own_whole (by decide) OW.out (FR.out.blk 0 _ rfl) hse)
    replace OC := Lib.hid (own_whole (by decide) OC.out (FR.out.blk 0 _ rfl) hse)
    replace FR := F
    clear F hse
    have cc0 := row11 (b := q) (FR.out.at 0 rfl rfl)
    have cc1 := row10 (b := q + 1) (FR.out.at 1 rfl rfl)
    go_wp2_with fail
    refine (stDone_any _ _ _ _ _ _ _ _ _ _ _ _ _ _ _ _).mono ?_
    rintro e w5 ⟨rfl, hb⟩
    clear mw6p cc0 cc1
    clear hw6p
    replace FR := Lib.hid (FR.out.step hb)
    replace OW := Lib.hid (own_below OW.out hb)
    replace OC := Lib.hid (own_below OC.out hb)
    clear hb
    obtain ⟨mw7r, w7r, hw7r, hse, F⟩ := FR.out.put11 2 rfl (b := q + 2) rfl (.int .i64 kd) (.int .i64 o0) (.int .i64 o1) (.int .i64 o2) (.int .i64 o3) (.int .i64 o4) (.int .i64 o5) (.int .u32 wa) (.int .u32 to) (.slice A2 n c2) (.slice B2 m d2)
    replace OW := Lib.hid (own_whole (by decide) OW.out (FR.out.blk 2 _ rfl) hse)
    replace OC := Lib.hid (own_whole (by decide) OC.out (FR.out.blk 2 _ rfl) hse)
    replace FR := F
    clear F hse
    obtain ⟨mw8r, w8r, hw8r, hse, F⟩ := FR.out.put10 3 rfl (b := q + 3) rfl (.int .i64 0) (.int .i64 0) (.int .i64 0) (.int .i64 0) (.int .i64 0) (.int .i64 0) (.bool false) (.bool false) (.int .i64 0) (.bool false)
    replace OW := Lib.hid (own_whole (by decide) OW.out (FR.out.blk 3 _ rfl) hse)
    replace OC := Lib.hid (own_whole (by decide) OC.out (FR.out.blk 3 _ rfl) hse)
    replace FR := F
    clear F hse
    obtain ⟨mw9r, w9r, hw9r, hse, F⟩ := FR.out.put7 4 rfl (b := q + 4) rfl (.bool true) (.bool false) (.bool false) (.int .i64 0) (.int .i64 0) (.int .u64 0) (.slice none 0 0)
    replace OW := Lib.hid (own_whole (by decide) OW.out (FR.out.blk 4 _ rfl) hse)
    replace OC := Lib.hid (own_whole (by decide) OC.out (FR.out.blk 4 _ rfl) hse)
    replace FR := F
    clear F hse
    go_wp2
    refine bodyPost_ret (res_ccc Try.results16 (by rfl) (by rfl) (by rfl) (FR.out.load 2 rfl rfl Try.underlying29 (by kernel_rfl)) (FR.out.load 3 rfl rfl Try.underlying31 (by kernel_rfl)) (FR.out.load 4 rfl rfl Try.underlying38 (by kernel_rfl))) rfl ?_
    rw [HE.out]
    exact ⟨A2, c2, B2, d2, rfl, (by rw [hq]; exact OW.out), (by rw [hq]; exact OC.out), FR.out.out, NW.out, NC.out⟩
  have n3 : (stage == 3) = false := by simp [s3]
  have HE := Lib.hid (show wlockW o0 o4 o5 ⟨op, stage, phase, old, since, left, awoke, starve, need, front⟩ now pat = ((o0, o4, o5), ⟨op, stage, phase, old, since, left, awoke, starve, need, front⟩, noA) from by
    unfold wlockW
    rw [if_neg s0, if_neg s1, if_neg s2, if_neg s3])
  clear s0 s1 s2 s3
  go_enter Try.func16, Try.ntmps16
  have ac0 := row11 (b := q) (FR.out.at 0 rfl rfl)
  go_wp2_with fail
  refine (CP.out _ (FR.out.es RX.out) (FR.out.es RY.out)).mono ?_
  rintro e w3 ⟨A2, c2, B2, d2, rfl, hown, hown2, hb, hA, hB⟩
  clear ac0
  unfold obV
  have hsz := FR.out.sz
  simp only [List.length_set, List.length_cons, List.length_nil] at hsz
  replace FR := Lib.hid (FR.out.step hb)
  have OW := Lib.hid (own_base hown (show q ≤ _ by omega))
  have OC := Lib.hid (own_base hown2 (show q ≤ _ by omega))
  have NW := Lib.hid hA
  have NC := Lib.hid hB
  clear hown hown2 hb hsz hA hB
  obtain ⟨mw6p, w6p, hw6p, hse, F⟩ := FR.out.put11 0 rfl (b := q) rfl (.int .i64 kd) (.int .i64 o0) (.int .i64 o1) (.int .i64 o2) (.int .i64 o3) (.int .i64 o4) (.int .i64 o5) (.int .u32 wa) (.int .u32 to) (.slice A2 n c2) (.slice B2 m d2)
  replace OW := Lib.hid (own_whole (by decide) OW.out (FR.out.blk 0 _ rfl) hse)
  replace OC := Lib.hid (own_whole (by decide) OC.out (FR.out.blk 0 _ rfl) hse)
  replace FR := F
  clear F hse
  have cc0 := row11 (b := q) (FR.out.at 0 rfl rfl)
  have cc1 := row10 (b := q + 1) (FR.out.at 1 rfl rfl)
  go_wp2
  replace OW := Lib.hid OW.out.drew
  replace OC := Lib.hid OC.out.drew
  have HF0 := Lib.hid FR.out.drew
  obtain ⟨w7r, hw7r⟩ : ∃ W, w6p.drew.setCells (q + 2) 0 [.int .i64 kd, .int .i64 o0, .int .i64 o1, .int .i64 o2, .int .i64 o3, .int .i64 o4, .int .i64 o5, .int .u32 wa, .int .u32 to, .slice A2 n c2, .slice B2 m d2] = W := ⟨_, rfl⟩
  replace OW := Lib.hid (own_whole (by decide) OW.out (HF0.out.blk 2 _ rfl) hw7r)
  replace OC := Lib.hid (own_whole (by decide) OC.out (HF0.out.blk 2 _ rfl) hw7r)
  have HF1 := Lib.hid ((HF0.out.all 2 rfl rfl (by rfl)).eqw hw7r)
  have hh1 := Lib.hid hw7r
  clear hw7r
  obtain ⟨w8r, hw8r⟩ : ∃ W, w7r.setCells (q + 3) 0 [.int .i64 op, .int .i64 stage, .int .i64 phase, .int .i64 old, .int .i64 since, .int .i64 left, .bool awoke, .bool starve, .int .i64 need, .bool front] = W := ⟨_, rfl⟩
  replace OW := Lib.hid (own_whole (by decide) OW.out (HF1.out.blk 3 _ rfl) hw8r)
  replace OC := Lib.hid (own_whole (by decide) OC.out (HF1.out.blk 3 _ rfl) hw8r)
  have HF2 := Lib.hid ((HF1.out.all 3 rfl rfl (by rfl)).eqw hw8r)
  have hh2 := Lib.hid hw8r
  clear hw8r
  obtain ⟨w9r, hw9r⟩ : ∃ W, w8r.setCells (q + 4) 0 [.bool false, .bool false, .bool false, .int .i64 0, .int .i64 0, .int .u64 0, .slice none 0 0] = W := ⟨_, rfl⟩
  replace OW := Lib.hid (own_whole (by decide) OW.out (HF2.out.blk 4 _ rfl) hw9r)
  replace OC := Lib.hid (own_whole (by decide) OC.out (HF2.out.blk 4 _ rfl) hw9r)
  have HF3 := Lib.hid ((HF2.out.all 4 rfl rfl (by rfl)).eqw hw9r)
  have hh3 := Lib.hid hw9r
  clear hw9r
  refine wp_region_noPanic ?_
  refine wp_region_held_drew (S := (fun wv => Hid (wv.heap[q]? = some (.cells #[.int .i64 kd, .int .i64 o0, .int .i64 o1, .int .i64 o2, .int .i64 o3, .int .i64 o4, .int .i64 o5, .int .u32 wa, .int .u32 to, .slice A2 n c2, .slice B2 m d2] 29) ∧ wv.heap[q + 1]? = some (.cells #[.int .i64 op, .int .i64 stage, .int .i64 phase, .int .i64 old, .int .i64 since, .int .i64 left, .bool awoke, .bool starve, .int .i64 need, .bool front] 31)))) (by kernel_rfl) (Lib.hid (And.intro (HF0.out.blk 0 _ rfl) (HF0.out.blk 1 _ rfl))) (fun hS => ?_)
  refine wpAnyH_take (i := 0) (oi := ⟨some 48, .load 29 (.tmp 4), 29, "rw.go:66", #[], none⟩) (v := .agg (([.int .i64 kd, .int .i64 o0, .int .i64 o1, .int .i64 o2, .int .i64 o3, .int .i64 o4, .int .i64 o5, .int .u32 wa, .int .u32 to, .slice A2 n c2, .slice B2 m d2] : List Value)).toArray) rfl (by kernel_rfl) (by kernel_rfl) (by kernel_rfl) (fun _ _ _ h => h) (yieldsIf_load_mid (by rfl) _ _ (by rfl) (q) (0) (by rfl) _ _ (fun wv hS => blk_rngl hS.out.1) Try.underlying29 (by rfl) (by kernel_rfl)) hS ?_
  try simp only [Act.put, List.setIfInBounds_toArray, List.set_cons_zero, List.set_cons_succ]
  refine wpAnyH_take (i := 1) (oi := ⟨some 49, .load 31 (.tmp 5), 31, "rw.go:66", #[⟨3, .gcOnly .lateStores⟩], none⟩) (v := .agg (([.int .i64 op, .int .i64 stage, .int .i64 phase, .int .i64 old, .int .i64 since, .int .i64 left, .bool awoke, .bool starve, .int .i64 need, .bool front] : List Value)).toArray) rfl (by kernel_rfl) (by kernel_rfl) (by kernel_rfl) (fun _ _ _ h => h) (yieldsIf_load_mid (by rfl) _ _ (by rfl) (q + 1) (0) (by rfl) _ _ (fun wv hS => blk_rngl hS.out.2) Try.underlying31 (by rfl) (by kernel_rfl)) hS ?_
  try simp only [Act.put, List.setIfInBounds_toArray, List.set_cons_zero, List.set_cons_succ]
  refine wpAnyH_take (i := 2) (oi := ⟨some 50, .build 38 #[], 38, "rw.go:66", #[⟨4, .gcOnly .lateStores⟩], none⟩) (v := ?_) rfl (by kernel_rfl) (by kernel_rfl) (by kernel_rfl) (fun _ _ _ h => h) (Or.inl ⟨by rfl, ?_⟩) hS ?_
  rotate_left
  · intro wv _; go_simp; try with_reducible rfl
  try simp only [Act.put, List.setIfInBounds_toArray, List.set_cons_zero, List.set_cons_succ]
  refine wpAnyH_ready (rs := [3]) (by kernel_rfl) (by simp) (AllReadyH.cons (o := ⟨none, .store 29 (.tmp 8) (.tmp 48), 0, "rw.go:66", #[⟨0, .data⟩, ⟨0, .phase⟩, ⟨1, .textOnly .lateStores⟩, ⟨2, .textOnly .lateStores⟩], none⟩) rfl (fun K hK => ?_) AllReadyH.nil)
  refine op_storeS (by rfl) rfl rfl rfl (there_blk (HF0.out.blk 2 _ rfl) rfl) (by kernel_rfl) (by simp [Value.oneCell']) hh1.out ?_
  replace hS := Lib.hid (And.intro (HF1.out.blk 0 _ rfl) (HF1.out.blk 1 _ rfl))
  refine Shut.out hK _ _ hS (fun _ => ?_)
  clear hK K
  try simp only [Act.put, List.setIfInBounds_toArray, List.set_cons_zero, List.set_cons_succ]
  refine wpAnyH_ready (rs := [4]) (by kernel_rfl) (by simp) (AllReadyH.cons (o := ⟨none, .store 31 (.tmp 9) (.tmp 49), 0, "rw.go:66", #[⟨1, .data⟩, ⟨3, .chain⟩, ⟨0, .phase⟩, ⟨1, .phase⟩, ⟨2, .textOnly .lateStores⟩, ⟨3, .phase⟩], none⟩) rfl (fun K hK => ?_) AllReadyH.nil)
  refine op_storeS (by rfl) rfl rfl rfl (there_blk (HF1.out.blk 3 _ rfl) rfl) (by kernel_rfl) (by simp [Value.oneCell']) hh2.out ?_
  replace hS := Lib.hid (And.intro (HF2.out.blk 0 _ rfl) (HF2.out.blk 1 _ rfl))
  refine Shut.out hK _ _ hS (fun _ => ?_)
  clear hK K
  try simp only [Act.put, List.setIfInBounds_toArray, List.set_cons_zero, List.set_cons_succ]
  refine wpAnyH_ready (rs := [5]) (by kernel_rfl) (by simp) (AllReadyH.cons (o := ⟨none, .store 38 (.tmp 10) (.tmp 50), 0, "rw.go:66", #[⟨2, .data⟩, ⟨4, .chain⟩, ⟨0, .phase⟩, ⟨1, .phase⟩, ⟨2, .phase⟩, ⟨3, .phase⟩, ⟨4, .phase⟩], none⟩) rfl (fun K hK => ?_) AllReadyH.nil)
  refine op_storeS (by rfl) rfl rfl rfl (there_blk (HF2.out.blk 4 _ rfl) rfl) (by kernel_rfl) (by simp [Value.oneCell']) hh3.out ?_
  replace hS := Lib.hid (And.intro (HF3.out.blk 0 _ rfl) (HF3.out.blk 1 _ rfl))
  refine Shut.out hK _ _ hS (fun _ => ?_)
  clear hK K
  try simp only [Act.put, List.setIfInBounds_toArray, List.set_cons_zero, List.set_cons_succ]
  refine wpAnyH_done (by kernel_rfl) ?_ _
  refine NoPanic.normal ?_
  go_wp2
  refine bodyPost_ret (res_ccc Try.results16 (by rfl) (by rfl) (by rfl) (HF3.out.load 2 rfl rfl Try.underlying29 (by kernel_rfl)) (HF3.out.load 3 rfl rfl Try.underlying31 (by kernel_rfl)) (HF3.out.load 4 rfl rfl Try.underlying38 (by kernel_rfl))) rfl ?_
  replace FR := HF3
  rw [HE.out]
  exact ⟨A2, c2, B2, d2, rfl, (by rw [hq]; exact OW.out), (by rw [hq]; exact OC.out), FR.out.out, NW.out, NC.out⟩
theorem rwWLock_nil (kd o0 o1 o2 o3 o4 o5 wa to : Int) (f : MFr) (now pat : Int) (hr : IntKind.i64.wrap o0 = o0 ∧ IntKind.i64.wrap o4 = o4 ∧ IntKind.i64.wrap o5 = o5) (w : World) : Calls Try.prog 16 #[obV kd o0 o1 o2 o3 o4 o5 wa to none 0 0 none 0 0, frV f, .int .i64 now, .int .i64 pat] w (StepR w kd o1 o2 o3 wa to none 0 0 none 0 0 (wlockW o0 o4 o5 f now pat)) := by
  refine (rwWLock_any kd o0 o1 o2 o3 o4 o5 wa to none 0 0 none 0 0 [] [] f now pat w (Es.nil _ _ _ _) (Es.nil _ _ _ _) (by omega) (by omega) hr).mono ?_
  rintro e w' ⟨A2, c2, B2, d2, he, _, _, hb, hA, hB⟩
  obtain ⟨rfl, rfl⟩ := hA rfl
  obtain ⟨rfl, rfl⟩ := hB rfl
  exact ⟨he, hb⟩
set_option maxRecDepth 100000 in
set_option maxHeartbeats 16000000 in
theorem rwWUnlock_any (kd o0 o1 o2 o3 o4 o5 wa to : Int) (A : Option Addr) (n c : Nat) (B : Option Addr) (m d : Nat) (nl : List Wt) (ll : List Cl) (f : MFr) (w : World) (hx : Wts w A n c nl) (hy : Cls w B m d ll) (hn : n ≤ 16384) (hm : m ≤ 16384) (hr : IntKind.i64.wrap o0 = o0 ∧ IntKind.i64.wrap o4 = o4 ∧ IntKind.i64.wrap o5 = o5) : Calls Try.prog 18 #[obV kd o0 o1 o2 o3 o4 o5 wa to A n c B m d, frV f] w (CopR w kd o1 o2 o3 wa to A n B m nl ll (wunlockW o0 o4 o5 f)) := by
  have RX := Lib.hid hx; have RY := Lib.hid hy
  have CP := Lib.hid (fun (W : World) (h1 : Wts W A n c nl) (h2 : Cls W B m d ll) => muCopied_any kd o0 o1 o2 o3 o4 o5 wa to A n c B m d nl ll W h1 h2 hn hm)
  clear hx hy
  obtain ⟨op, stage, phase, old, since, left, awoke, starve, need, front⟩ := f
  unfold obV frV frC
  simp only
  have HN := Lib.hid (And.intro hn (And.intro hm hr.1))
  clear hn hm hr
  obtain ⟨v1, hv1, z1, v2, hv2, z2, v3, hv3, z3, v4, hv4, z4, v5, hv5, z5, F⟩ := boxes5 w (.cells #[.int .i64 kd, .int .i64 o0, .int .i64 o1, .int .i64 o2, .int .i64 o3, .int .i64 o4, .int .i64 o5, .int .u32 wa, .int .u32 to, .slice A n c, .slice B m d] 29) (.cells #[.int .i64 op, .int .i64 stage, .int .i64 phase, .int .i64 old, .int .i64 since, .int .i64 left, .bool awoke, .bool starve, .int .i64 need, .bool front] 31) (.cells #[.int .i64 0, .int .i64 0, .int .i64 0, .int .i64 0, .int .i64 0, .int .i64 0, .int .i64 0, .int .u32 0, .int .u32 0, .slice none 0 0, .slice none 0 0] 29) (.cells #[.int .i64 0, .int .i64 0, .int .i64 0, .int .i64 0, .int .i64 0, .int .i64 0, .bool false, .bool false, .int .i64 0, .bool false] 31) (.cells #[.bool false, .bool false, .bool false, .int .i64 0, .int .i64 0, .int .u64 0, .slice none 0 0] 38)
  generalize hq : w.heap.size = q at *
  have FR := Lib.hid F
  clear F
  by_cases s0 : stage = 0
  · subst s0
    obtain ⟨⟨⟨z0, z4, z5⟩, ⟨gop, gstage, gphase, gold, gsince, gleft, gawoke, gstarve, gneed, gfront⟩, ⟨gdn, ggv, ghd, gft⟩⟩, hr0⟩ : ∃ r, wunlockW o0 o4 o5 ⟨op, 0, phase, old, since, left, awoke, starve, need, front⟩ = r := ⟨_, rfl⟩
    have HE := Lib.hid hr0
    have ST := Lib.hid (show ∀ (A9 : Option Addr) (n9 c9 : Nat) (B9 : Option Addr) (m9 d9 : Nat) (W : World), Calls Try.prog 36 #[.agg #[.int .i64 kd, .int .i64 o0, .int .i64 o1, .int .i64 o2, .int .i64 o3, .int .i64 o4, .int .i64 o5, .int .u32 wa, .int .u32 to, .slice A9 n9 c9, .slice B9 m9 d9], .agg #[.int .i64 op, .int .i64 0, .int .i64 phase, .int .i64 old, .int .i64 since, .int .i64 left, .bool awoke, .bool starve, .int .i64 need, .bool front]] W (fun e w' => e = .returned (.tuple #[.agg #[.int .i64 kd, .int .i64 z0, .int .i64 o1, .int .i64 o2, .int .i64 o3, .int .i64 z4, .int .i64 z5, .int .u32 wa, .int .u32 to, .slice A9 n9 c9, .slice B9 m9 d9], .agg #[.int .i64 gop, .int .i64 gstage, .int .i64 gphase, .int .i64 gold, .int .i64 gsince, .int .i64 gleft, .bool gawoke, .bool gstarve, .int .i64 gneed, .bool gfront], .agg #[.bool gdn, .bool false, .bool ghd, .int .i64 ggv, .int .i64 gft, .int .u64 0, .slice none 0 0]]) ∧ Below W.heap.size W w') from fun A9 n9 c9 B9 m9 d9 W => by
      have h := rwEnd_any kd o0 o1 o2 o3 o4 o5 wa to A9 n9 c9 B9 m9 d9 ⟨op, 0, phase, old, since, left, awoke, starve, need, front⟩ rfl W
      rw [hr0] at h
      exact h)
    clear hr0
    go_enter Try.func18, Try.ntmps18
    have ac0 := row11 (b := q) (FR.out.at 0 rfl rfl)
    go_wp2_with fail
    refine (CP.out _ (FR.out.es RX.out) (FR.out.es RY.out)).mono ?_
    rintro e w3 ⟨A2, c2, B2, d2, rfl, hown, hown2, hb, hA, hB⟩
    clear ac0
    unfold obV
    have hsz := FR.out.sz
    simp only [List.length_set, List.length_cons, List.length_nil] at hsz
    replace FR := Lib.hid (FR.out.step hb)
    have OW := Lib.hid (own_base hown (show q ≤ _ by omega))
    have OC := Lib.hid (own_base hown2 (show q ≤ _ by omega))
    have NW := Lib.hid hA
    have NC := Lib.hid hB
    clear hown hown2 hb hsz hA hB
    obtain ⟨mw6p, w6p, hw6p, hse, F⟩ := FR.out.put11 0 rfl (b := q) rfl (.int .i64 kd) (.int .i64 o0) (.int .i64 o1) (.int .i64 o2) (.int .i64 o3) (.int .i64 o4) (.int .i64 o5) (.int .u32 wa) (.int .u32 to) (.slice A2 n c2) (.slice B2 m d2)
    replace OW := Lib.hid (own_whole (by decide) OW.out (FR.out.blk 0 _ rfl) hse)
    replace OC := Lib.hid (own_whole (by decide) OC.out (FR.out.blk 0 _ rfl) hse)
    replace FR := F
    clear F hse
    have cc0 := row11 (b := q) (FR.out.at 0 rfl rfl)
    have cc1 := row10 (b := q + 1) (FR.out.at 1 rfl rfl)
    go_wp2_with fail
    refine (ST.out _ _ _ _ _ _ _).mono ?_
    rintro e w5 ⟨rfl, hb⟩
    clear mw6p cc0 cc1
    clear hw6p
    replace FR := Lib.hid (FR.out.step hb)
    replace OW := Lib.hid (own_below OW.out hb)
    replace OC := Lib.hid (own_below OC.out hb)
    clear hb
    obtain ⟨mw7r, w7r, hw7r, hse, F⟩ := FR.out.put11 2 rfl (b := q + 2) rfl (.int .i64 kd) (.int .i64 z0) (.int .i64 o1) (.int .i64 o2) (.int .i64 o3) (.int .i64 z4) (.int .i64 z5) (.int .u32 wa) (.int .u32 to) (.slice A2 n c2) (.slice B2 m d2)
    replace OW := Lib.hid (own_whole (by decide) OW.out (FR.out.blk 2 _ rfl) hse)
    replace OC := Lib.hid (own_whole (by decide) OC.out (FR.out.blk 2 _ rfl) hse)
    replace FR := F
    clear F hse
    obtain ⟨mw8r, w8r, hw8r, hse, F⟩ := FR.out.put10 3 rfl (b := q + 3) rfl (.int .i64 gop) (.int .i64 gstage) (.int .i64 gphase) (.int .i64 gold) (.int .i64 gsince) (.int .i64 gleft) (.bool gawoke) (.bool gstarve) (.int .i64 gneed) (.bool gfront)
    replace OW := Lib.hid (own_whole (by decide) OW.out (FR.out.blk 3 _ rfl) hse)
    replace OC := Lib.hid (own_whole (by decide) OC.out (FR.out.blk 3 _ rfl) hse)
    replace FR := F
    clear F hse
    obtain ⟨mw9r, w9r, hw9r, hse, F⟩ := FR.out.put7 4 rfl (b := q + 4) rfl (.bool gdn) (.bool false) (.bool ghd) (.int .i64 ggv) (.int .i64 gft) (.int .u64 0) (.slice none 0 0)
    replace OW := Lib.hid (own_whole (by decide) OW.out (FR.out.blk 4 _ rfl) hse)
    replace OC := Lib.hid (own_whole (by decide) OC.out (FR.out.blk 4 _ rfl) hse)
    replace FR := F
    clear F hse
    go_wp2
    refine bodyPost_ret (res_ccc Try.results18 (by rfl) (by rfl) (by rfl) (FR.out.load 2 rfl rfl Try.underlying29 (by kernel_rfl)) (FR.out.load 3 rfl rfl Try.underlying31 (by kernel_rfl)) (FR.out.load 4 rfl rfl Try.underlying38 (by kernel_rfl))) rfl ?_
    rw [HE.out]
    exact ⟨A2, c2, B2, d2, rfl, (by rw [hq]; exact OW.out), (by rw [hq]; exact OC.out), FR.out.out, NW.out, NC.out⟩
  have n0 : (stage == 0) = false := by simp [s0]
  by_cases s1 : stage = 1
  · subst s1
    obtain ⟨⟨⟨z0, z4, z5⟩, ⟨gop, gstage, gphase, gold, gsince, gleft, gawoke, gstarve, gneed, gfront⟩, ⟨gdn, ggv, ghd, gft⟩⟩, hr0⟩ : ∃ r, wunlockW o0 o4 o5 ⟨op, 1, phase, old, since, left, awoke, starve, need, front⟩ = r := ⟨_, rfl⟩
    have HE := Lib.hid hr0
    have ST := Lib.hid (show ∀ (A9 : Option Addr) (n9 c9 : Nat) (B9 : Option Addr) (m9 d9 : Nat) (W : World), Calls Try.prog 37 #[.agg #[.int .i64 kd, .int .i64 o0, .int .i64 o1, .int .i64 o2, .int .i64 o3, .int .i64 o4, .int .i64 o5, .int .u32 wa, .int .u32 to, .slice A9 n9 c9, .slice B9 m9 d9], .agg #[.int .i64 op, .int .i64 1, .int .i64 phase, .int .i64 old, .int .i64 since, .int .i64 left, .bool awoke, .bool starve, .int .i64 need, .bool front]] W (fun e w' => e = .returned (.tuple #[.agg #[.int .i64 kd, .int .i64 z0, .int .i64 o1, .int .i64 o2, .int .i64 o3, .int .i64 z4, .int .i64 z5, .int .u32 wa, .int .u32 to, .slice A9 n9 c9, .slice B9 m9 d9], .agg #[.int .i64 gop, .int .i64 gstage, .int .i64 gphase, .int .i64 gold, .int .i64 gsince, .int .i64 gleft, .bool gawoke, .bool gstarve, .int .i64 gneed, .bool gfront], .agg #[.bool gdn, .bool false, .bool ghd, .int .i64 ggv, .int .i64 gft, .int .u64 0, .slice none 0 0]]) ∧ Below W.heap.size W w') from fun A9 n9 c9 B9 m9 d9 W => by
      have h := rwLetIn_any kd o0 o1 o2 o3 o4 o5 wa to A9 n9 c9 B9 m9 d9 ⟨op, 1, phase, old, since, left, awoke, starve, need, front⟩ rfl W
      rw [hr0] at h
      exact h)
    clear hr0 s0 n0
    go_enter Try.func18, Try.ntmps18
    have ac0 := row11 (b := q) (FR.out.at 0 rfl rfl)
    go_wp2_with fail
    refine (CP.out _ (FR.out.es RX.out) (FR.out.es RY.out)).mono ?_
    rintro e w3 ⟨A2, c2, B2, d2, rfl, hown, hown2, hb, hA, hB⟩
    clear ac0
    unfold obV
    have hsz := FR.out.sz
    simp only [List.length_set, List.length_cons, List.length_nil] at hsz
    replace FR := Lib.hid (FR.out.step hb)
    have OW := Lib.hid (own_base hown (show q ≤ _ by omega))
    have OC := Lib.hid (own_base hown2 (show q ≤ _ by omega))
    have NW := Lib.hid hA
    have NC := Lib.hid hB
    clear hown hown2 hb hsz hA hB
    obtain ⟨mw6p, w6p, hw6p, hse, F⟩ := FR.out.put11 0 rfl (b := q) rfl (.int .i64 kd) (.int .i64 o0) (.int .i64 o1) (.int .i64 o2) (.int .i64 o3) (.int .i64 o4) (.int .i64 o5) (.int .u32 wa) (.int .u32 to) (.slice A2 n c2) (.slice B2 m d2)
    replace OW := Lib.hid (own_whole (by decide) OW.out (FR.out.blk 0 _ rfl) hse)
    replace OC := Lib.hid (own_whole (by decide) OC.out (FR.out.blk 0 _ rfl) hse)
    replace FR := F
    clear F hse
    have cc0 := row11 (b := q) (FR.out.at 0 rfl rfl)
    have cc1 := row10 (b := q + 1) (FR.out.at 1 rfl rfl)
    go_wp2_with fail
    refine (ST.out _ _ _ _ _ _ _).mono ?_
    rintro e w5 ⟨rfl, hb⟩
    clear mw6p cc0 cc1
    clear hw6p
    replace FR := Lib.hid (FR.out.step hb)
    replace OW := Lib.hid (own_below OW.out hb)
    replace OC := Lib.hid (own_below OC.out hb)
    clear hb
    obtain ⟨mw7r, w7r, hw7r, hse, F⟩ := FR.out.put11 2 rfl (b := q + 2) rfl (.int .i64 kd) (.int .i64 z0) (.int .i64 o1) (.int .i64 o2) (.int .i64 o3) (.int .i64 z4) (.int .i64 z5) (.int .u32 wa) (.int .u32 to) (.slice A2 n c2) (.slice B2 m d2)
    replace OW := Lib.hid (own_whole (by decide) OW.out (FR.out.blk 2 _ rfl) hse)
    replace OC := Lib.hid (own_whole (by decide) OC.out (FR.out.blk 2 _ rfl) hse)
    replace FR := F
    clear F hse
    obtain ⟨mw8r, w8r, hw8r, hse, F⟩ := FR.out.put10 3 rfl (b := q + 3) rfl (.int .i64 gop) (.int .i64 gstage) (.int .i64 gphase) (.int .i64 gold) (.int .i64 gsince) (.int .i64 gleft) (.bool gawoke) (.bool gstarve) (.int .i64 gneed) (.bool gfront)
    replace OW := Lib.hid (own_whole (by decide) OW.out (FR.out.blk 3 _ rfl) hse)
    replace OC := Lib.hid (own_whole (by decide) OC.out (FR.out.blk 3 _ rfl) hse)
    replace FR := F
    clear F hse
    obtain ⟨mw9r, w9r, hw9r, hse, F⟩ := FR.out.put7 4 rfl (b := q + 4) rfl (.bool gdn) (.bool false) (.bool ghd) (.int .i64 ggv) (.int .i64 gft) (.int .u64 0) (.slice none 0 0)
    replace OW := Lib.hid (own_whole (by decide) OW.out (FR.out.blk 4 _ rfl) hse)
    replace OC := Lib.hid (own_whole (by decide) OC.out (FR.out.blk 4 _ rfl) hse)
    replace FR := F
    clear F hse
    go_wp2
    refine bodyPost_ret (res_ccc Try.results18 (by rfl) (by rfl) (by rfl) (FR.out.load 2 rfl rfl Try.underlying29 (by kernel_rfl)) (FR.out.load 3 rfl rfl Try.underlying31 (by kernel_rfl)) (FR.out.load 4 rfl rfl Try.underlying38 (by kernel_rfl))) rfl ?_
    rw [HE.out]
    exact ⟨A2, c2, B2, d2, rfl, (by rw [hq]; exact OW.out), (by rw [hq]; exact OC.out), FR.out.out, NW.out, NC.out⟩
  have n1 : (stage == 1) = false := by simp [s1]
  by_cases s2 : stage = 2
  · subst s2
    obtain ⟨⟨z, ⟨gop, gstage, gphase, gold, gsince, gleft, gawoke, gstarve, gneed, gfront⟩, ⟨gdn, ggv, ghd, gft⟩⟩, hr0⟩ : ∃ r, unlockM o0 ⟨op, 2, phase, old, since, left, awoke, starve, need, front⟩ = r := ⟨_, rfl⟩
    have HE := Lib.hid (show wunlockW o0 o4 o5 ⟨op, 2, phase, old, since, left, awoke, starve, need, front⟩ = ((z, o4, o5), ⟨gop, gstage, gphase, gold, gsince, gleft, gawoke, gstarve, gneed, gfront⟩, ⟨gdn, ggv, ghd, gft⟩) from by
      unfold wunlockW
      rw [if_neg (fun h => (show ¬ ((2 : Int) = 0) by decide) h.1), if_neg (show ¬ ((2 : Int) = 0) by decide), if_neg (fun h => (show ¬ ((2 : Int) = 1) by decide) h.1), if_neg (show ¬ ((2 : Int) = 1) by decide), if_pos rfl, hr0])
    have ST := Lib.hid (show ∀ (A9 : Option Addr) (c9 : Nat) (B9 : Option Addr) (d9 : Nat) (W : World), Wts W A9 n c9 nl → Cls W B9 m d9 ll → Calls Try.prog 38 #[.agg #[.int .i64 kd, .int .i64 o0, .int .i64 o1, .int .i64 o2, .int .i64 o3, .int .i64 o4, .int .i64 o5, .int .u32 wa, .int .u32 to, .slice A9 n c9, .slice B9 m d9], .agg #[.int .i64 op, .int .i64 2, .int .i64 phase, .int .i64 old, .int .i64 since, .int .i64 left, .bool awoke, .bool starve, .int .i64 need, .bool front]] W (fun e w' => ∃ A2 c2 B2 d2, e = .returned (.tuple #[.agg #[.int .i64 kd, .int .i64 z, .int .i64 o1, .int .i64 o2, .int .i64 o3, .int .i64 o4, .int .i64 o5, .int .u32 wa, .int .u32 to, .slice A2 n c2, .slice B2 m d2], .agg #[.int .i64 gop, .int .i64 gstage, .int .i64 gphase, .int .i64 gold, .int .i64 gsince, .int .i64 gleft, .bool gawoke, .bool gstarve, .int .i64 gneed, .bool gfront], .agg #[.bool gdn, .bool false, .bool ghd, .int .i64 ggv, .int .i64 gft, .int .u64 0, .slice none 0 0]]) ∧ w'.ownsRow W.heap.size 67 2 (.slice A2 n c2) n (wtC nl) ∧ w'.ownsRow W.heap.size 62 2 (.slice B2 m d2) m (clC ll) ∧ Below W.heap.size W w' ∧ (A9 = none → A2 = none ∧ c2 = 0) ∧ (B9 = none → B2 = none ∧ d2 = 0)) from fun A9 c9 B9 d9 W h1 h2 => by
      have h := muUnlock_any kd o0 o1 o2 o3 o4 o5 wa to A9 n c9 B9 m d9 nl ll ⟨op, 2, phase, old, since, left, awoke, starve, need, front⟩ W h1 h2 HN.out.1 HN.out.2.1 HN.out.2.2
      rw [hr0] at h
      exact h)
    clear hr0 HN
    clear s0 n0 s1 n1
    go_enter Try.func18, Try.ntmps18
    have ac0 := row11 (b := q) (FR.out.at 0 rfl rfl)
    go_wp2_with fail
    refine (CP.out _ (FR.out.es RX.out) (FR.out.es RY.out)).mono ?_
    rintro e w3 ⟨A2, c2, B2, d2, rfl, hown, hown2, hb, hA, hB⟩
    clear ac0
    unfold obV
    have hsz := FR.out.sz
    simp only [List.length_set, List.length_cons, List.length_nil] at hsz
    replace FR := Lib.hid (FR.out.step hb)
    have OW := Lib.hid (own_base hown (show q ≤ _ by omega))
    have OC := Lib.hid (own_base hown2 (show q ≤ _ by omega))
    have NW := Lib.hid hA
    have NC := Lib.hid hB
    clear hown hown2 hb hsz hA hB
    obtain ⟨mw6p, w6p, hw6p, hse, F⟩ := FR.out.put11 0 rfl (b := q) rfl (.int .i64 kd) (.int .i64 o0) (.int .i64 o1) (.int .i64 o2) (.int .i64 o3) (.int .i64 o4) (.int .i64 o5) (.int .u32 wa) (.int .u32 to) (.slice A2 n c2) (.slice B2 m d2)
    replace OW := Lib.hid (own_whole (by decide) OW.out (FR.out.blk 0 _ rfl) hse)
    replace OC := Lib.hid (own_whole (by decide) OC.out (FR.out.blk 0 _ rfl) hse)
    replace FR := F
    clear F hse
    have cc0 := row11 (b := q) (FR.out.at 0 rfl rfl)
    have cc1 := row10 (b := q + 1) (FR.out.at 1 rfl rfl)
    have hsz := FR.out.sz
    simp only [List.length_set, List.length_cons, List.length_nil] at hsz
    have hqw := Nat.le_trans (Nat.le_add_right q _) hsz
    have HQ := Lib.hid hqw
    clear hsz hqw
    go_wp2_with fail
    refine (ST.out _ _ _ _ _ (own_wts OW.out) (own_cls OC.out)).mono ?_
    rintro e w5 ⟨A3, c3, B3, d3, rfl, hown, hown2, hb, hA, hB⟩
    clear mw6p cc0 cc1
    clear hw6p
    clear OW OC
    replace FR := Lib.hid (FR.out.step hb)
    have OW := Lib.hid (own_base hown HQ.out)
    have OC := Lib.hid (own_base hown2 HQ.out)
    replace NW := Lib.hid (fun h => hA (NW.out h).1)
    replace NC := Lib.hid (fun h => hB (NC.out h).1)
    clear hown hown2 hb hA hB HQ
    obtain ⟨mw7r, w7r, hw7r, hse, F⟩ := FR.out.put11 2 rfl (b := q + 2) rfl (.int .i64 kd) (.int .i64 z) (.int .i64 o1) (.int .i64 o2) (.int .i64 o3) (.int .i64 o4) (.int .i64 o5) (.int .u32 wa) (.int .u32 to) (.slice A3 n c3) (.slice B3 m d3)
    replace OW := Lib.hid (own_whole (by decide) OW.out (FR.out.blk 2 _ rfl) hse)
    replace OC := Lib.hid (own_whole (by decide) OC.out (FR.out.blk 2 _ rfl) hse)
    replace FR := F
    clear F hse
    obtain ⟨mw8r, w8r, hw8r, hse, F⟩ := FR.out.put10 3 rfl (b := q + 3) rfl (.int .i64 gop) (.int .i64 gstage) (.int .i64 gphase) (.int .i64 gold) (.int .i64 gsince) (.int .i64 gleft) (.bool gawoke) (.bool gstarve) (.int .i64 gneed) (.bool gfront)
    replace OW := Lib.hid (own_whole (by decide) OW.out (FR.out.blk 3 _ rfl) hse)
    replace OC := Lib.hid (own_whole (by decide) OC.out (FR.out.blk 3 _ rfl) hse)
    replace FR := F
    clear F hse
    obtain ⟨mw9r, w9r, hw9r, hse, F⟩ := FR.out.put7 4 rfl (b := q + 4) rfl (.bool gdn) (.bool false) (.bool ghd) (.int .i64 ggv) (.int .i64 gft) (.int .u64 0) (.slice none 0 0)
    replace OW := Lib.hid (own_whole (by decide) OW.out (FR.out.blk 4 _ rfl) hse)
    replace OC := Lib.hid (own_whole (by decide) OC.out (FR.out.blk 4 _ rfl) hse)
    replace FR := F
    clear F hse
    go_wp2
    refine bodyPost_ret (res_ccc Try.results18 (by rfl) (by rfl) (by rfl) (FR.out.load 2 rfl rfl Try.underlying29 (by kernel_rfl)) (FR.out.load 3 rfl rfl Try.underlying31 (by kernel_rfl)) (FR.out.load 4 rfl rfl Try.underlying38 (by kernel_rfl))) rfl ?_
    rw [HE.out]
    exact ⟨A3, c3, B3, d3, rfl, (by rw [hq]; exact OW.out), (by rw [hq]; exact OC.out), FR.out.out, NW.out, NC.out⟩
  have n2 : (stage == 2) = false := by simp [s2]
  have HE := Lib.hid (show wunlockW o0 o4 o5 ⟨op, stage, phase, old, since, left, awoke, starve, need, front⟩ = ((o0, o4, o5), ⟨op, stage, phase, old, since, left, awoke, starve, need, front⟩, noA) from by
    unfold wunlockW
    rw [if_neg (fun h => s0 h.1), if_neg s0, if_neg (fun h => s1 h.1), if_neg s1, if_neg s2])
  clear s0 s1 s2
  go_enter Try.func18, Try.ntmps18
  have ac0 := row11 (b := q) (FR.out.at 0 rfl rfl)
  go_wp2_with fail
  refine (CP.out _ (FR.out.es RX.out) (FR.out.es RY.out)).mono ?_
  rintro e w3 ⟨A2, c2, B2, d2, rfl, hown, hown2, hb, hA, hB⟩
  clear ac0
  unfold obV
  have hsz := FR.out.sz
  simp only [List.length_set, List.length_cons, List.length_nil] at hsz
  replace FR := Lib.hid (FR.out.step hb)
  have OW := Lib.hid (own_base hown (show q ≤ _ by omega))
  have OC := Lib.hid (own_base hown2 (show q ≤ _ by omega))
  have NW := Lib.hid hA
  have NC := Lib.hid hB
  clear hown hown2 hb hsz hA hB
  obtain ⟨mw6p, w6p, hw6p, hse, F⟩ := FR.out.put11 0 rfl (b := q) rfl (.int .i64 kd) (.int .i64 o0) (.int .i64 o1) (.int .i64 o2) (.int .i64 o3) (.int .i64 o4) (.int .i64 o5) (.int .u32 wa) (.int .u32 to) (.slice A2 n c2) (.slice B2 m d2)
  replace OW := Lib.hid (own_whole (by decide) OW.out (FR.out.blk 0 _ rfl) hse)
  replace OC := Lib.hid (own_whole (by decide) OC.out (FR.out.blk 0 _ rfl) hse)
  replace FR := F
  clear F hse
  have cc0 := row11 (b := q) (FR.out.at 0 rfl rfl)
  have cc1 := row10 (b := q + 1) (FR.out.at 1 rfl rfl)
  go_wp2
  replace OW := Lib.hid OW.out.drew
  replace OC := Lib.hid OC.out.drew
  have HF0 := Lib.hid FR.out.drew
  obtain ⟨w7r, hw7r⟩ : ∃ W, w6p.drew.setCells (q + 2) 0 [.int .i64 kd, .int .i64 o0, .int .i64 o1, .int .i64 o2, .int .i64 o3, .int .i64 o4, .int .i64 o5, .int .u32 wa, .int .u32 to, .slice A2 n c2, .slice B2 m d2] = W := ⟨_, rfl⟩
  replace OW := Lib.hid (own_whole (by decide) OW.out (HF0.out.blk 2 _ rfl) hw7r)
  replace OC := Lib.hid (own_whole (by decide) OC.out (HF0.out.blk 2 _ rfl) hw7r)
  have HF1 := Lib.hid ((HF0.out.all 2 rfl rfl (by rfl)).eqw hw7r)
  have hh1 := Lib.hid hw7r
  clear hw7r
  obtain ⟨w8r, hw8r⟩ : ∃ W, w7r.setCells (q + 3) 0 [.int .i64 op, .int .i64 stage, .int .i64 phase, .int .i64 old, .int .i64 since, .int .i64 left, .bool awoke, .bool starve, .int .i64 need, .bool front] = W := ⟨_, rfl⟩
  replace OW := Lib.hid (own_whole (by decide) OW.out (HF1.out.blk 3 _ rfl) hw8r)
  replace OC := Lib.hid (own_whole (by decide) OC.out (HF1.out.blk 3 _ rfl) hw8r)
  have HF2 := Lib.hid ((HF1.out.all 3 rfl rfl (by rfl)).eqw hw8r)
  have hh2 := Lib.hid hw8r
  clear hw8r
  obtain ⟨w9r, hw9r⟩ : ∃ W, w8r.setCells (q + 4) 0 [.bool false, .bool false, .bool false, .int .i64 0, .int .i64 0, .int .u64 0, .slice none 0 0] = W := ⟨_, rfl⟩
  replace OW := Lib.hid (own_whole (by decide) OW.out (HF2.out.blk 4 _ rfl) hw9r)
  replace OC := Lib.hid (own_whole (by decide) OC.out (HF2.out.blk 4 _ rfl) hw9r)
  have HF3 := Lib.hid ((HF2.out.all 4 rfl rfl (by rfl)).eqw hw9r)
  have hh3 := Lib.hid hw9r
  clear hw9r
  refine wp_region_noPanic ?_
  refine wp_region_held_drew (S := (fun wv => Hid (wv.heap[q]? = some (.cells #[.int .i64 kd, .int .i64 o0, .int .i64 o1, .int .i64 o2, .int .i64 o3, .int .i64 o4, .int .i64 o5, .int .u32 wa, .int .u32 to, .slice A2 n c2, .slice B2 m d2] 29) ∧ wv.heap[q + 1]? = some (.cells #[.int .i64 op, .int .i64 stage, .int .i64 phase, .int .i64 old, .int .i64 since, .int .i64 left, .bool awoke, .bool starve, .int .i64 need, .bool front] 31)))) (by kernel_rfl) (Lib.hid (And.intro (HF0.out.blk 0 _ rfl) (HF0.out.blk 1 _ rfl))) (fun hS => ?_)
  refine wpAnyH_take (i := 0) (oi := ⟨some 35, .load 29 (.tmp 2), 29, "rw.go:80", #[], none⟩) (v := .agg (([.int .i64 kd, .int .i64 o0, .int .i64 o1, .int .i64 o2, .int .i64 o3, .int .i64 o4, .int .i64 o5, .int .u32 wa, .int .u32 to, .slice A2 n c2, .slice B2 m d2] : List Value)).toArray) rfl (by kernel_rfl) (by kernel_rfl) (by kernel_rfl) (fun _ _ _ h => h) (yieldsIf_load_mid (by rfl) _ _ (by rfl) (q) (0) (by rfl) _ _ (fun wv hS => blk_rngl hS.out.1) Try.underlying29 (by rfl) (by kernel_rfl)) hS ?_
  try simp only [Act.put, List.setIfInBounds_toArray, List.set_cons_zero, List.set_cons_succ]
  refine wpAnyH_take (i := 1) (oi := ⟨some 36, .load 31 (.tmp 3), 31, "rw.go:80", #[⟨3, .gcOnly .lateStores⟩], none⟩) (v := .agg (([.int .i64 op, .int .i64 stage, .int .i64 phase, .int .i64 old, .int .i64 since, .int .i64 left, .bool awoke, .bool starve, .int .i64 need, .bool front] : List Value)).toArray) rfl (by kernel_rfl) (by kernel_rfl) (by kernel_rfl) (fun _ _ _ h => h) (yieldsIf_load_mid (by rfl) _ _ (by rfl) (q + 1) (0) (by rfl) _ _ (fun wv hS => blk_rngl hS.out.2) Try.underlying31 (by rfl) (by kernel_rfl)) hS ?_
  try simp only [Act.put, List.setIfInBounds_toArray, List.set_cons_zero, List.set_cons_succ]
  refine wpAnyH_take (i := 2) (oi := ⟨some 37, .build 38 #[], 38, "rw.go:80", #[⟨4, .gcOnly .lateStores⟩], none⟩) (v := ?_) rfl (by kernel_rfl) (by kernel_rfl) (by kernel_rfl) (fun _ _ _ h => h) (Or.inl ⟨by rfl, ?_⟩) hS ?_
  rotate_left
  · intro wv _; go_simp; try with_reducible rfl
  try simp only [Act.put, List.setIfInBounds_toArray, List.set_cons_zero, List.set_cons_succ]
  refine wpAnyH_ready (rs := [3]) (by kernel_rfl) (by simp) (AllReadyH.cons (o := ⟨none, .store 29 (.tmp 4) (.tmp 35), 0, "rw.go:80", #[⟨0, .data⟩, ⟨0, .phase⟩, ⟨1, .textOnly .lateStores⟩, ⟨2, .textOnly .lateStores⟩], none⟩) rfl (fun K hK => ?_) AllReadyH.nil)
  refine op_storeS (by rfl) rfl rfl rfl (there_blk (HF0.out.blk 2 _ rfl) rfl) (by kernel_rfl) (by simp [Value.oneCell']) hh1.out ?_
  replace hS := Lib.hid (And.intro (HF1.out.blk 0 _ rfl) (HF1.out.blk 1 _ rfl))
  refine Shut.out hK _ _ hS (fun _ => ?_)
  clear hK K
  try simp only [Act.put, List.setIfInBounds_toArray, List.set_cons_zero, List.set_cons_succ]
  refine wpAnyH_ready (rs := [4]) (by kernel_rfl) (by simp) (AllReadyH.cons (o := ⟨none, .store 31 (.tmp 5) (.tmp 36), 0, "rw.go:80", #[⟨1, .data⟩, ⟨3, .chain⟩, ⟨0, .phase⟩, ⟨1, .phase⟩, ⟨2, .textOnly .lateStores⟩, ⟨3, .phase⟩], none⟩) rfl (fun K hK => ?_) AllReadyH.nil)
  refine op_storeS (by rfl) rfl rfl rfl (there_blk (HF1.out.blk 3 _ rfl) rfl) (by kernel_rfl) (by simp [Value.oneCell']) hh2.out ?_
  replace hS := Lib.hid (And.intro (HF2.out.blk 0 _ rfl) (HF2.out.blk 1 _ rfl))
  refine Shut.out hK _ _ hS (fun _ => ?_)
  clear hK K
  try simp only [Act.put, List.setIfInBounds_toArray, List.set_cons_zero, List.set_cons_succ]
  refine wpAnyH_ready (rs := [5]) (by kernel_rfl) (by simp) (AllReadyH.cons (o := ⟨none, .store 38 (.tmp 6) (.tmp 37), 0, "rw.go:80", #[⟨2, .data⟩, ⟨4, .chain⟩, ⟨0, .phase⟩, ⟨1, .phase⟩, ⟨2, .phase⟩, ⟨3, .phase⟩, ⟨4, .phase⟩], none⟩) rfl (fun K hK => ?_) AllReadyH.nil)
  refine op_storeS (by rfl) rfl rfl rfl (there_blk (HF2.out.blk 4 _ rfl) rfl) (by kernel_rfl) (by simp [Value.oneCell']) hh3.out ?_
  replace hS := Lib.hid (And.intro (HF3.out.blk 0 _ rfl) (HF3.out.blk 1 _ rfl))
  refine Shut.out hK _ _ hS (fun _ => ?_)
  clear hK K
  try simp only [Act.put, List.setIfInBounds_toArray, List.set_cons_zero, List.set_cons_succ]
  refine wpAnyH_done (by kernel_rfl) ?_ _
  refine NoPanic.normal ?_
  go_wp2
  refine bodyPost_ret (res_ccc Try.results18 (by rfl) (by rfl) (by rfl) (HF3.out.load 2 rfl rfl Try.underlying29 (by kernel_rfl)) (HF3.out.load 3 rfl rfl Try.underlying31 (by kernel_rfl)) (HF3.out.load 4 rfl rfl Try.underlying38 (by kernel_rfl))) rfl ?_
  replace FR := HF3
  rw [HE.out]
  exact ⟨A2, c2, B2, d2, rfl, (by rw [hq]; exact OW.out), (by rw [hq]; exact OC.out), FR.out.out, NW.out, NC.out⟩
theorem rwWUnlock_nil (kd o0 o1 o2 o3 o4 o5 wa to : Int) (f : MFr) (hr : IntKind.i64.wrap o0 = o0 ∧ IntKind.i64.wrap o4 = o4 ∧ IntKind.i64.wrap o5 = o5) (w : World) : Calls Try.prog 18 #[obV kd o0 o1 o2 o3 o4 o5 wa to none 0 0 none 0 0, frV f] w (StepR w kd o1 o2 o3 wa to none 0 0 none 0 0 (wunlockW o0 o4 o5 f)) := by
  refine (rwWUnlock_any kd o0 o1 o2 o3 o4 o5 wa to none 0 0 none 0 0 [] [] f w (Es.nil _ _ _ _) (Es.nil _ _ _ _) (by omega) (by omega) hr).mono ?_
  rintro e w' ⟨A2, c2, B2, d2, he, _, _, hb, hA, hB⟩
  obtain ⟨rfl, rfl⟩ := hA rfl
  obtain ⟨rfl, rfl⟩ := hB rfl
  exact ⟨he, hb⟩
end Go.Proofs.Ytpkegfochfkkcaa
