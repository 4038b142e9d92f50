/- Layer 18: what the landed once's lock answers; for lists of up to 16384. -/
import Derived.Test.YtkecmiedeihdgaaOncF
namespace Go.Proofs.Ytkecmiedeihdgaa
set_option linter.unusedVariables false
set_option linter.unusedSimpArgs false
open Go.RowKit
theorem own_es {w : World} {base k n c : Nat} {T : TypeId} {A : Option Addr} {cs : List Value} (h : w.ownsRow base T k (.slice A n c) n cs) (h1 : ∀ u ∈ cs, u.oneCell' = true) : Es w A n c k cs := by
  obtain ⟨A2, c2, e, h2⟩ := Es.of_own h h1
  injection e with e1 _ e3
  subst e1 e3
  exact h2
theorem own_wts {w : World} {base n c : Nat} {T : TypeId} {A : Option Addr} {l : List Wt} (h : w.ownsRow base T 2 (.slice A n c) n (wtC l)) : Wts w A n c l := own_es h (wtC_one l)
theorem own_cls {w : World} {base n c : Nat} {T : TypeId} {A : Option Addr} {l : List Cl} (h : w.ownsRow base T 2 (.slice A n c) n (clC l)) : Cls w A n c l := own_es h (clC_one l)
theorem wf_wrap {x : Int} (h : (Lit.int .i64 x).wf = true) : IntKind.i64.wrap x = x := by
  have h1 : IntKind.i64.min = -9223372036854775808 := rfl
  have h2 : IntKind.i64.max = 9223372036854775807 := rfl
  simp only [Lit.wf, h1, h2, Bool.and_eq_true, decide_eq_true_eq] at h
  rw [IntKind.wrap_i64]; omega
/-- a step's object, whose lists are the call's own, frame and act. -/
def CopN (w : World) (kd o1 o3 o4 o5 wa to : Int) (A : Option Addr) (n : Nat) (B : Option Addr) (m : Nat) (nl : List Wt) (ll : List Cl) (r : OnR) (e : Ending) (w' : World) : Prop :=
  ∃ A2 c2 B2 d2, e = .returned (.tuple #[obV kd r.1.1 o1 r.1.2 o3 o4 o5 wa to A2 n c2 B2 m d2, frV r.2.1, acU r.2.2.1 r.2.2.2]) ∧ w'.ownsRow w.heap.size 60 2 (.slice A2 n c2) n (wtC nl) ∧ w'.ownsRow w.heap.size 56 2 (.slice B2 m d2) m (clC ll) ∧ Below w.heap.size w w' ∧ (A = none → A2 = none ∧ c2 = 0) ∧ (B = none → B2 = none ∧ d2 = 0)
set_option maxRecDepth 100000 in
set_option maxHeartbeats 16000000 in
theorem onLock_any (kd o0 o1 o2 o3 o4 o5 wa to : Int) (A : Option Addr) (n c : Nat) (B : Option Addr) (m d : Nat) (nl : List Wt) (ll : List Cl) (f : MFr) (hp : f.stage = 1) (now pat : Int) (w : World) (hx : Wts w A n c nl) (hy : Cls w B m d ll) (hn : n ≤ 16384) (hm : m ≤ 16384) : Calls Try.prog 17 #[obV kd o0 o1 o2 o3 o4 o5 wa to A n c B m d, frV f, .int .i64 now, .int .i64 pat] w (CopN w kd o1 o3 o4 o5 wa to A n B m nl ll (onceW o0 o2 f now pat)) := by
  have RX := Lib.hid hx; have RY := Lib.hid hy
  clear hx hy
  obtain ⟨op, stage, phase, old, since, left, awoke, starve, need, front⟩ := f
  have hp2 : stage = 1 := hp
  subst hp2
  clear hp
  obtain ⟨⟨z, ⟨gop, gstage, gphase, gold, gsince, gleft, gawoke, gstarve, gneed, gfront⟩, ⟨gdn, ggv, ghd, gft⟩⟩, hr⟩ : ∃ r, lockM o0 ⟨op, 1, phase, old, since, left, awoke, starve, need, front⟩ now pat = r := ⟨_, rfl⟩
  have HO : onceW o0 o2 ⟨op, 1, phase, old, since, left, awoke, starve, need, front⟩ now pat = (if gdn = true then ((z, o2), stageF ⟨op, 1, phase, old, since, left, awoke, starve, need, front⟩ 2, noA, 0) else ((z, o2), ⟨gop, gstage, gphase, gold, gsince, gleft, gawoke, gstarve, gneed, gfront⟩, ⟨gdn, ggv, ghd, gft⟩, 0)) := by
    unfold onceW
    rw [if_neg (fun h => (show ¬ ((1 : Int) = 0) by decide) h.1), if_neg (fun h => (show ¬ ((1 : Int) = 2) by decide) h.1), if_neg (show ¬ ((1 : Int) = 0) by decide), if_neg (show ¬ ((1 : Int) = 2) by decide), if_pos rfl, hr]
  obtain ⟨WA, wn, wc, hwk⟩ : ∃ (X : Option Addr) (i j : Nat), (Value.slice X i j) = .slice none 0 0 := ⟨_, _, _, rfl⟩
  have HG := Lib.hid (show ggv = 0 ∧ ghd = false from by
    have ha := lock_act (w := o0) (f := ⟨op, 1, phase, old, since, left, awoke, starve, need, front⟩) (now := now) (pat := pat)
    rw [hr] at ha
    rcases ha with h | h
    · injection h with a1 a2 a3 a4; exact ⟨a2, a3⟩
    · injection h with a1 a2 a3 a4; exact ⟨a2, a3⟩)
  have LC := Lib.hid (show ∀ W : World, Wts W A n c nl → Cls W B m d ll → Calls Try.prog 31 #[.agg #[.int .i64 kd, .int .i64 o0, .int .i64 o1, .int .i64 o2, .int .i64 o3, .int .i64 o4, .int .i64 o5, .int .u32 wa, .int .u32 to, .slice A n c, .slice B m d], .agg #[.int .i64 op, .int .i64 1, .int .i64 phase, .int .i64 old, .int .i64 since, .int .i64 left, .bool awoke, .bool starve, .int .i64 need, .bool front], .int .i64 now, .int .i64 pat] W (fun e w' => ∃ A2 c2 B2 d2, e = .returned (.tuple #[.agg #[.int .i64 kd, .int .i64 z, .int .i64 o1, .int .i64 o2, .int .i64 o3, .int .i64 o4, .int .i64 o5, .int .u32 wa, .int .u32 to, .slice A2 n c2, .slice B2 m d2], .agg #[.int .i64 gop, .int .i64 gstage, .int .i64 gphase, .int .i64 gold, .int .i64 gsince, .int .i64 gleft, .bool gawoke, .bool gstarve, .int .i64 gneed, .bool gfront], .agg #[.bool gdn, .bool false, .bool ghd, .int .i64 ggv, .int .i64 gft, .int .u64 0, .slice WA wn wc]]) ∧ w'.ownsRow W.heap.size 60 2 (.slice A2 n c2) n (wtC nl) ∧ w'.ownsRow W.heap.size 56 2 (.slice B2 m d2) m (clC ll) ∧ Below W.heap.size W w' ∧ (A = none → A2 = none ∧ c2 = 0) ∧ (B = none → B2 = none ∧ d2 = 0)) from fun W h1 h2 => by
    have h := muLock_any kd o0 o1 o2 o3 o4 o5 wa to A n c B m d nl ll ⟨op, 1, phase, old, since, left, awoke, starve, need, front⟩ now pat W h1 h2 hn hm
    rw [hr] at h
    rw [hwk]
    exact h)
  have HWK := Lib.hid hwk
  clear hr hwk hn hm
  have BG := Lib.hid (show ∀ W : World, Calls Try.prog 30 #[.int .i64 op] W (fun e w' => e = .returned (.agg #[.int .i64 op, .int .i64 0, .int .i64 0, .int .i64 0, .int .i64 (-1), .int .i64 0, .bool false, .bool false, .int .i64 0, .bool false]) ∧ Below W.heap.size W w') from fun W => muBegin_any op W)
  unfold obV frV frC
  simp only
  cases gdn
  · have HE := Lib.hid (HO.trans (if_neg (fun h => nomatch h)))
    clear HO
    have HB := Lib.hid (And.intro (Below.refl w.heap.size w) (Nat.le_refl w.heap.size))
    have gq := HB.out.2
    obtain ⟨w1, hw1⟩ : ∃ W, (((((w.alloc (.cells #[.int .i64 kd, .int .i64 o0, .int .i64 o1, .int .i64 o2, .int .i64 o3, .int .i64 o4, .int .i64 o5, .int .u32 wa, .int .u32 to, .slice A n c, .slice B m d] 29)).alloc (.cells #[.int .i64 op, .int .i64 1, .int .i64 phase, .int .i64 old, .int .i64 since, .int .i64 left, .bool awoke, .bool starve, .int .i64 need, .bool front] 31)).alloc (.cells #[.int .i64 0, .int .i64 0, .int .i64 0, .int .i64 0, .int .i64 0, .int .i64 0, .int .i64 0, .int .u32 0, .int .u32 0, .slice none 0 0, .slice none 0 0] 29)).alloc (.cells #[.int .i64 0, .int .i64 0, .int .i64 0, .int .i64 0, .int .i64 0, .int .i64 0, .bool false, .bool false, .int .i64 0, .bool false] 31)).alloc (.cells #[.bool false, .bool false, .bool false, .int .i64 0, .int .i64 0, .int .u64 0, .slice none 0 0] 39)) = W := ⟨_, rfl⟩
    have hb : Below w.heap.size w w1 := hw1 ▸ ((((((Below.refl _ _).alloc (Nat.le_refl _) _).alloc (by first | (simp; done) | (simp; omega)) _).alloc (by first | (simp; done) | (simp; omega)) _).alloc (by first | (simp; done) | (simp; omega)) _).alloc (by first | (simp; done) | (simp; omega)) _)
    have hv0 : w1.heap[w.heap.size]? = some (.cells #[.int .i64 kd, .int .i64 o0, .int .i64 o1, .int .i64 o2, .int .i64 o3, .int .i64 o4, .int .i64 o5, .int .u32 wa, .int .u32 to, .slice A n c, .slice B m d] 29) := by
      have h0 := heap_alloc_new w (.cells #[.int .i64 kd, .int .i64 o0, .int .i64 o1, .int .i64 o2, .int .i64 o3, .int .i64 o4, .int .i64 o5, .int .u32 wa, .int .u32 to, .slice A n c, .slice B m d] 29)
      rw [show w.heap.size = w.heap.size by simp [Nat.add_assoc]] at h0
      rw [← hw1]
      rw [heap_alloc_old _ _ (by simp <;> omega), heap_alloc_old _ _ (by simp <;> omega), heap_alloc_old _ _ (by simp <;> omega), heap_alloc_old _ _ (by simp <;> omega)]; exact h0
    have hv1 : w1.heap[w.heap.size + 1]? = some (.cells #[.int .i64 op, .int .i64 1, .int .i64 phase, .int .i64 old, .int .i64 since, .int .i64 left, .bool awoke, .bool starve, .int .i64 need, .bool front] 31) := by
      have h0 := heap_alloc_new (w.alloc (.cells #[.int .i64 kd, .int .i64 o0, .int .i64 o1, .int .i64 o2, .int .i64 o3, .int .i64 o4, .int .i64 o5, .int .u32 wa, .int .u32 to, .slice A n c, .slice B m d] 29)) (.cells #[.int .i64 op, .int .i64 1, .int .i64 phase, .int .i64 old, .int .i64 since, .int .i64 left, .bool awoke, .bool starve, .int .i64 need, .bool front] 31)
      rw [show (w.alloc (.cells #[.int .i64 kd, .int .i64 o0, .int .i64 o1, .int .i64 o2, .int .i64 o3, .int .i64 o4, .int .i64 o5, .int .u32 wa, .int .u32 to, .slice A n c, .slice B m d] 29)).heap.size = w.heap.size + 1 by simp [Nat.add_assoc]] at h0
      rw [← hw1]
      rw [heap_alloc_old _ _ (by simp <;> omega), heap_alloc_old _ _ (by simp <;> omega), heap_alloc_old _ _ (by simp <;> omega)]; exact h0
    have hv2 : w1.heap[w.heap.size + 2]? = some (.cells #[.int .i64 0, .int .i64 0, .int .i64 0, .int .i64 0, .int .i64 0, .int .i64 0, .int .i64 0, .int .u32 0, .int .u32 0, .slice none 0 0, .slice none 0 0] 29) := by
      have h0 := heap_alloc_new ((w.alloc (.cells #[.int .i64 kd, .int .i64 o0, .int .i64 o1, .int .i64 o2, .int .i64 o3, .int .i64 o4, .int .i64 o5, .int .u32 wa, .int .u32 to, .slice A n c, .slice B m d] 29)).alloc (.cells #[.int .i64 op, .int .i64 1, .int .i64 phase, .int .i64 old, .int .i64 since, .int .i64 left, .bool awoke, .bool starve, .int .i64 need, .bool front] 31)) (.cells #[.int .i64 0, .int .i64 0, .int .i64 0, .int .i64 0, .int .i64 0, .int .i64 0, .int .i64 0, .int .u32 0, .int .u32 0, .slice none 0 0, .slice none 0 0] 29)
      rw [show ((w.alloc (.cells #[.int .i64 kd, .int .i64 o0, .int .i64 o1, .int .i64 o2, .int .i64 o3, .int .i64 o4, .int .i64 o5, .int .u32 wa, .int .u32 to, .slice A n c, .slice B m d] 29)).alloc (.cells #[.int .i64 op, .int .i64 1, .int .i64 phase, .int .i64 old, .int .i64 since, .int .i64 left, .bool awoke, .bool starve, .int .i64 need, .bool front] 31)).heap.size = w.heap.size + 2 by simp [Nat.add_assoc]] at h0
      rw [← hw1]
      rw [heap_alloc_old _ _ (by simp <;> omega), heap_alloc_old _ _ (by simp <;> omega)]; exact h0
    have hv3 : w1.heap[w.heap.size + 3]? = some (.cells #[.int .i64 0, .int .i64 0, .int .i64 0, .int .i64 0, .int .i64 0, .int .i64 0, .bool false, .bool false, .int .i64 0, .bool false] 31) := by
      have h0 := heap_alloc_new (((w.alloc (.cells #[.int .i64 kd, .int .i64 o0, .int .i64 o1, .int .i64 o2, .int .i64 o3, .int .i64 o4, .int .i64 o5, .int .u32 wa, .int .u32 to, .slice A n c, .slice B m d] 29)).alloc (.cells #[.int .i64 op, .int .i64 1, .int .i64 phase, .int .i64 old, .int .i64 since, .int .i64 left, .bool awoke, .bool starve, .int .i64 need, .bool front] 31)).alloc (.cells #[.int .i64 0, .int .i64 0, .int .i64 0, .int .i64 0, .int .i64 0, .int .i64 0, .int .i64 0, .int .u32 0, .int .u32 0, .slice none 0 0, .slice none 0 0] 29)) (.cells #[.int .i64 0, .int .i64 0, .int .i64 0, .int .i64 0, .int .i64 0, .int .i64 0, .bool false, .bool false, .int .i64 0, .bool false] 31)
      rw [show (((w.alloc (.cells #[.int .i64 kd, .int .i64 o0, .int .i64 o1, .int .i64 o2, .int .i64 o3, .int .i64 o4, .int .i64 o5, .int .u32 wa, .int .u32 to, .slice A n c, .slice B m d] 29)).alloc (.cells #[.int .i64 op, .int .i64 1, .int .i64 phase, .int .i64 old, .int .i64 since, .int .i64 left, .bool awoke, .bool starve, .int .i64 need, .bool front] 31)).alloc (.cells #[.int .i64 0, .int .i64 0, .int .i64 0, .int .i64 0, .int .i64 0, .int .i64 0, .int .i64 0, .int .u32 0, .int .u32 0, .slice none 0 0, .slice none 0 0] 29)).heap.size = w.heap.size + 3 by simp [Nat.add_assoc]] at h0
      rw [← hw1]
      rw [heap_alloc_old _ _ (by simp <;> omega)]; exact h0
    have hv4 : w1.heap[w.heap.size + 4]? = some (.cells #[.bool false, .bool false, .bool false, .int .i64 0, .int .i64 0, .int .u64 0, .slice none 0 0] 39) := by
      have h0 := heap_alloc_new ((((w.alloc (.cells #[.int .i64 kd, .int .i64 o0, .int .i64 o1, .int .i64 o2, .int .i64 o3, .int .i64 o4, .int .i64 o5, .int .u32 wa, .int .u32 to, .slice A n c, .slice B m d] 29)).alloc (.cells #[.int .i64 op, .int .i64 1, .int .i64 phase, .int .i64 old, .int .i64 since, .int .i64 left, .bool awoke, .bool starve, .int .i64 need, .bool front] 31)).alloc (.cells #[.int .i64 0, .int .i64 0, .int .i64 0, .int .i64 0, .int .i64 0, .int .i64 0, .int .i64 0, .int .u32 0, .int .u32 0, .slice none 0 0, .slice none 0 0] 29)).alloc (.cells #[.int .i64 0, .int .i64 0, .int .i64 0, .int .i64 0, .int .i64 0, .int .i64 0, .bool false, .bool false, .int .i64 0, .bool false] 31)) (.cells #[.bool false, .bool false, .bool false, .int .i64 0, .int .i64 0, .int .u64 0, .slice none 0 0] 39)
      rw [show ((((w.alloc (.cells #[.int .i64 kd, .int .i64 o0, .int .i64 o1, .int .i64 o2, .int .i64 o3, .int .i64 o4, .int .i64 o5, .int .u32 wa, .int .u32 to, .slice A n c, .slice B m d] 29)).alloc (.cells #[.int .i64 op, .int .i64 1, .int .i64 phase, .int .i64 old, .int .i64 since, .int .i64 left, .bool awoke, .bool starve, .int .i64 need, .bool front] 31)).alloc (.cells #[.int .i64 0, .int .i64 0, .int .i64 0, .int .i64 0, .int .i64 0, .int .i64 0, .int .i64 0, .int .u32 0, .int .u32 0, .slice none 0 0, .slice none 0 0] 29)).alloc (.cells #[.int .i64 0, .int .i64 0, .int .i64 0, .int .i64 0, .int .i64 0, .int .i64 0, .bool false, .bool false, .int .i64 0, .bool false] 31)).heap.size = w.heap.size + 4 by simp [Nat.add_assoc]] at h0
      rw [← hw1]
      exact h0
    replace HB := Lib.hid (And.intro (HB.out.1.trans (hb.mono HB.out.2)) (Nat.le_trans HB.out.2 hb.size))
    have Vo := Lib.hid hv0
    have geo := gq
    have Vf := Lib.hid hv1
    have neo_f : w.heap.size ≠ w.heap.size + 1 := by omega
    have gef : _ ≤ w.heap.size + 1 := Nat.le_trans gq (Nat.le_add_right _ 1)
    have Vro := Lib.hid hv2
    have neo_ro : w.heap.size ≠ w.heap.size + 2 := by omega
    have nef_ro : w.heap.size + 1 ≠ w.heap.size + 2 := by omega
    have gero : _ ≤ w.heap.size + 2 := Nat.le_trans gq (Nat.le_add_right _ 2)
    have Vrf := Lib.hid hv3
    have neo_rf : w.heap.size ≠ w.heap.size + 3 := by omega
    have nef_rf : w.heap.size + 1 ≠ w.heap.size + 3 := by omega
    have nero_rf : w.heap.size + 2 ≠ w.heap.size + 3 := by omega
    have gerf : _ ≤ w.heap.size + 3 := Nat.le_trans gq (Nat.le_add_right _ 3)
    have Vra := Lib.hid hv4
    have neo_ra : w.heap.size ≠ w.heap.size + 4 := by omega
    have nef_ra : w.heap.size + 1 ≠ w.heap.size + 4 := by omega
    have nero_ra : w.heap.size + 2 ≠ w.heap.size + 4 := by omega
    have nerf_ra : w.heap.size + 3 ≠ w.heap.size + 4 := by omega
    have gera : _ ≤ w.heap.size + 4 := Nat.le_trans gq (Nat.le_add_right _ 4)
    generalize hso : w.heap.size = so at *
    clear hb gq hv0 hv1 hv2 hv3 hv4
    subst hso
    go_enter Try.func17, Try.ntmps17
    have cf := row10 Vf.out
    go_wp2_with fail
    refine (BG.out _).mono ?_
    rintro e w2 ⟨rfl, hb⟩
    clear cf
    replace Vo := Lib.hid (blk_below Vo.out hb (blk_lt Vo.out))
    replace Vf := Lib.hid (blk_below Vf.out hb (blk_lt Vf.out))
    replace Vro := Lib.hid (blk_below Vro.out hb (blk_lt Vro.out))
    replace Vrf := Lib.hid (blk_below Vrf.out hb (blk_lt Vrf.out))
    replace Vra := Lib.hid (blk_below Vra.out hb (blk_lt Vra.out))
    replace HB := Lib.hid (And.intro (HB.out.1.trans (hb.mono HB.out.2)) (Nat.le_trans HB.out.2 hb.size))
    clear hb
    have lto := blk_lt Vo.out
    have ltf := blk_lt Vf.out
    have ltro := blk_lt Vro.out
    have ltrf := blk_lt Vrf.out
    have ltra := blk_lt Vra.out
    have gq := HB.out.2
    obtain ⟨w3, hw3⟩ : ∃ W, (w2.alloc (.cells #[.int .i64 0, .int .i64 0, .int .i64 0, .int .i64 0, .int .i64 0, .int .i64 0, .bool false, .bool false, .int .i64 0, .bool false] 31)) = W := ⟨_, rfl⟩
    have hb : Below w2.heap.size w2 w3 := hw3 ▸ ((Below.refl _ _).alloc (Nat.le_refl _) _)
    have hv0 : w3.heap[w2.heap.size]? = some (.cells #[.int .i64 0, .int .i64 0, .int .i64 0, .int .i64 0, .int .i64 0, .int .i64 0, .bool false, .bool false, .int .i64 0, .bool false] 31) := by
      have h0 := heap_alloc_new w2 (.cells #[.int .i64 0, .int .i64 0, .int .i64 0, .int .i64 0, .int .i64 0, .int .i64 0, .bool false, .bool false, .int .i64 0, .bool false] 31)
      rw [show w2.heap.size = w2.heap.size by simp [Nat.add_assoc]] at h0
      rw [← hw3]
      exact h0
    replace Vo := Lib.hid (blk_below Vo.out hb (blk_lt Vo.out))
    replace Vf := Lib.hid (blk_below Vf.out hb (blk_lt Vf.out))
    replace Vro := Lib.hid (blk_below Vro.out hb (blk_lt Vro.out))
    replace Vrf := Lib.hid (blk_below Vrf.out hb (blk_lt Vrf.out))
    replace Vra := Lib.hid (blk_below Vra.out hb (blk_lt Vra.out))
    replace HB := Lib.hid (And.intro (HB.out.1.trans (hb.mono HB.out.2)) (Nat.le_trans HB.out.2 hb.size))
    have Vnx := Lib.hid hv0
    have neo_nx := Nat.ne_of_lt lto
    have nef_nx := Nat.ne_of_lt ltf
    have nero_nx := Nat.ne_of_lt ltro
    have nerf_nx := Nat.ne_of_lt ltrf
    have nera_nx := Nat.ne_of_lt ltra
    have genx := gq
    generalize hsnx : w2.heap.size = snx at *
    clear hb gq hv0 lto ltf ltro ltrf ltra
    obtain ⟨mw4, w4, hw4, hse, VN⟩ := set10 Vnx.out (.int .i64 op) (.int .i64 0) (.int .i64 0) (.int .i64 0) (.int .i64 (-1)) (.int .i64 0) (.bool false) (.bool false) (.int .i64 0) (.bool false)
    replace Vo := Lib.hid (stayS hse neo_nx Vo.out)
    replace Vf := Lib.hid (stayS hse nef_nx Vf.out)
    replace Vro := Lib.hid (stayS hse nero_nx Vro.out)
    replace Vrf := Lib.hid (stayS hse nerf_nx Vrf.out)
    replace Vra := Lib.hid (stayS hse nera_nx Vra.out)
    replace Vnx := VN
    replace HB := Lib.hid (belS hse genx HB.out)
    clear VN hse
    have knx : w4.cell? ⟨snx, 1, none⟩ = some (.int .i64 0) := (blk_cell Vnx.out 1).trans rfl
    have znx : w4.frozen? ⟨snx, 1, none⟩ = false := blk_frozen Vnx.out 1
    obtain ⟨w5, hw5⟩ : ∃ W, w4.setCell ⟨snx, 1, none⟩ (.int .i64 2) = W := ⟨_, rfl⟩
    have Vo2 : w5.heap[w.heap.size]? = some (.cells #[.int .i64 kd, .int .i64 o0, .int .i64 o1, .int .i64 o2, .int .i64 o3, .int .i64 o4, .int .i64 o5, .int .u32 wa, .int .u32 to, .slice A n c, .slice B m d] 29) := hw5 ▸ (Below.heap_setCell _ ⟨snx, 1, none⟩ (.int .i64 2) (w.heap.size) neo_nx).trans Vo.out
    have Vf2 : w5.heap[w.heap.size + 1]? = some (.cells #[.int .i64 op, .int .i64 1, .int .i64 phase, .int .i64 old, .int .i64 since, .int .i64 left, .bool awoke, .bool starve, .int .i64 need, .bool front] 31) := hw5 ▸ (Below.heap_setCell _ ⟨snx, 1, none⟩ (.int .i64 2) (w.heap.size + 1) nef_nx).trans Vf.out
    have Vro2 : w5.heap[w.heap.size + 2]? = some (.cells #[.int .i64 0, .int .i64 0, .int .i64 0, .int .i64 0, .int .i64 0, .int .i64 0, .int .i64 0, .int .u32 0, .int .u32 0, .slice none 0 0, .slice none 0 0] 29) := hw5 ▸ (Below.heap_setCell _ ⟨snx, 1, none⟩ (.int .i64 2) (w.heap.size + 2) nero_nx).trans Vro.out
    have Vrf2 : w5.heap[w.heap.size + 3]? = some (.cells #[.int .i64 0, .int .i64 0, .int .i64 0, .int .i64 0, .int .i64 0, .int .i64 0, .bool false, .bool false, .int .i64 0, .bool false] 31) := hw5 ▸ (Below.heap_setCell _ ⟨snx, 1, none⟩ (.int .i64 2) (w.heap.size + 3) nerf_nx).trans Vrf.out
    have Vra2 : w5.heap[w.heap.size + 4]? = some (.cells #[.bool false, .bool false, .bool false, .int .i64 0, .int .i64 0, .int .u64 0, .slice none 0 0] 39) := hw5 ▸ (Below.heap_setCell _ ⟨snx, 1, none⟩ (.int .i64 2) (w.heap.size + 4) nera_nx).trans Vra.out
    have Vnx2 : w5.heap[snx]? = some (.cells #[.int .i64 op, .int .i64 2, .int .i64 0, .int .i64 0, .int .i64 (-1), .int .i64 0, .bool false, .bool false, .int .i64 0, .bool false] 31) := hw5 ▸ blk_set (j := 1) Vnx.out (.int .i64 2)
    have hbb : Below _ _ w5 := hw5 ▸ HB.out.1.setCell (p := ⟨snx, 1, none⟩) genx _
    have hbs : w5.heap.size = w4.heap.size := by rw [← hw5]; simp [World.setCell]
    replace Vo := Lib.hid Vo2
    clear Vo2
    replace Vf := Lib.hid Vf2
    clear Vf2
    replace Vro := Lib.hid Vro2
    clear Vro2
    replace Vrf := Lib.hid Vrf2
    clear Vrf2
    replace Vra := Lib.hid Vra2
    clear Vra2
    replace Vnx := Lib.hid Vnx2
    clear Vnx2
    replace HB := Lib.hid (And.intro hbb (show _ ≤ w5.heap.size by rw [hbs]; exact HB.out.2))
    clear hbb hbs
    have HBZ := Lib.hid HB.out.2
    have co := row11 Vo.out
    have cf := row10 Vf.out
    go_wp2_with fail
    refine (LC.out _ (Es.below RX.out HB.out.1) (Es.below RY.out HB.out.1)).mono ?_
    rintro e w6 ⟨A1, c1, B1, d1, rfl, hon, hol, hb, hA, hB⟩
    clear mw4 hw4 knx znx hw5 co cf
    replace Vo := Lib.hid (blk_below Vo.out hb (blk_lt Vo.out))
    replace Vf := Lib.hid (blk_below Vf.out hb (blk_lt Vf.out))
    replace Vro := Lib.hid (blk_below Vro.out hb (blk_lt Vro.out))
    replace Vrf := Lib.hid (blk_below Vrf.out hb (blk_lt Vrf.out))
    replace Vra := Lib.hid (blk_below Vra.out hb (blk_lt Vra.out))
    replace Vnx := Lib.hid (blk_below Vnx.out hb (blk_lt Vnx.out))
    replace HB := Lib.hid (And.intro (HB.out.1.trans (hb.mono HB.out.2)) (Nat.le_trans HB.out.2 hb.size))
    clear hb
    have ON1 := Lib.hid (own_base hon HBZ.out); have OL1 := Lib.hid (own_base hol HBZ.out)
    have NW := Lib.hid hA; have NC := Lib.hid hB
    clear hon hol hA hB HBZ
    have lto := blk_lt Vo.out
    have ltf := blk_lt Vf.out
    have ltro := blk_lt Vro.out
    have ltrf := blk_lt Vrf.out
    have ltra := blk_lt Vra.out
    have ltnx := blk_lt Vnx.out
    have gq := HB.out.2
    obtain ⟨w7, hw7⟩ : ∃ W, (w6.alloc (.cells #[.bool false, .bool false, .bool false, .int .i64 0, .int .i64 0, .int .u64 0, .slice none 0 0] 39)) = W := ⟨_, rfl⟩
    have hb : Below w6.heap.size w6 w7 := hw7 ▸ ((Below.refl _ _).alloc (Nat.le_refl _) _)
    have hv0 : w7.heap[w6.heap.size]? = some (.cells #[.bool false, .bool false, .bool false, .int .i64 0, .int .i64 0, .int .u64 0, .slice none 0 0] 39) := by
      have h0 := heap_alloc_new w6 (.cells #[.bool false, .bool false, .bool false, .int .i64 0, .int .i64 0, .int .u64 0, .slice none 0 0] 39)
      rw [show w6.heap.size = w6.heap.size by simp [Nat.add_assoc]] at h0
      rw [← hw7]
      exact h0
    replace Vo := Lib.hid (blk_below Vo.out hb (blk_lt Vo.out))
    replace Vf := Lib.hid (blk_below Vf.out hb (blk_lt Vf.out))
    replace Vro := Lib.hid (blk_below Vro.out hb (blk_lt Vro.out))
    replace Vrf := Lib.hid (blk_below Vrf.out hb (blk_lt Vrf.out))
    replace Vra := Lib.hid (blk_below Vra.out hb (blk_lt Vra.out))
    replace Vnx := Lib.hid (blk_below Vnx.out hb (blk_lt Vnx.out))
    replace ON1 := Lib.hid (own_below ON1.out hb)
    replace OL1 := Lib.hid (own_below OL1.out hb)
    replace HB := Lib.hid (And.intro (HB.out.1.trans (hb.mono HB.out.2)) (Nat.le_trans HB.out.2 hb.size))
    have Vu := Lib.hid hv0
    have neo_u := Nat.ne_of_lt lto
    have nef_u := Nat.ne_of_lt ltf
    have nero_u := Nat.ne_of_lt ltro
    have nerf_u := Nat.ne_of_lt ltrf
    have nera_u := Nat.ne_of_lt ltra
    have nenx_u := Nat.ne_of_lt ltnx
    have geu := gq
    generalize hsu : w6.heap.size = su at *
    clear hb gq hv0 lto ltf ltro ltrf ltra ltnx
    obtain ⟨mw8, w8, hw8, hse, VN⟩ := set11 Vo.out (.int .i64 kd) (.int .i64 z) (.int .i64 o1) (.int .i64 o2) (.int .i64 o3) (.int .i64 o4) (.int .i64 o5) (.int .u32 wa) (.int .u32 to) (.slice A1 n c1) (.slice B1 m d1)
    replace ON1 := Lib.hid (own_whole (by decide) ON1.out Vo.out hse)
    replace OL1 := Lib.hid (own_whole (by decide) OL1.out Vo.out hse)
    replace Vf := Lib.hid (stayS hse neo_f.symm Vf.out)
    replace Vro := Lib.hid (stayS hse neo_ro.symm Vro.out)
    replace Vrf := Lib.hid (stayS hse neo_rf.symm Vrf.out)
    replace Vra := Lib.hid (stayS hse neo_ra.symm Vra.out)
    replace Vnx := Lib.hid (stayS hse neo_nx.symm Vnx.out)
    replace Vu := Lib.hid (stayS hse neo_u.symm Vu.out)
    replace Vo := VN
    replace HB := Lib.hid (belS hse geo HB.out)
    clear VN hse
    obtain ⟨mw9, w9, hw9, hse, VN⟩ := set10 Vf.out (.int .i64 gop) (.int .i64 gstage) (.int .i64 gphase) (.int .i64 gold) (.int .i64 gsince) (.int .i64 gleft) (.bool gawoke) (.bool gstarve) (.int .i64 gneed) (.bool gfront)
    replace ON1 := Lib.hid (own_whole (by decide) ON1.out Vf.out hse)
    replace OL1 := Lib.hid (own_whole (by decide) OL1.out Vf.out hse)
    replace Vo := Lib.hid (stayS hse neo_f Vo.out)
    replace Vro := Lib.hid (stayS hse nef_ro.symm Vro.out)
    replace Vrf := Lib.hid (stayS hse nef_rf.symm Vrf.out)
    replace Vra := Lib.hid (stayS hse nef_ra.symm Vra.out)
    replace Vnx := Lib.hid (stayS hse nef_nx.symm Vnx.out)
    replace Vu := Lib.hid (stayS hse nef_u.symm Vu.out)
    replace Vf := VN
    replace HB := Lib.hid (belS hse gef HB.out)
    clear VN hse
    obtain ⟨mw10, w10, hw10, hse, VN⟩ := set7 Vu.out (.bool false) (.bool false) (.bool ghd) (.int .i64 ggv) (.int .i64 gft) (.int .u64 0) (.slice WA wn wc)
    replace ON1 := Lib.hid (own_whole (by decide) ON1.out Vu.out hse)
    replace OL1 := Lib.hid (own_whole (by decide) OL1.out Vu.out hse)
    replace Vo := Lib.hid (stayS hse neo_u Vo.out)
    replace Vf := Lib.hid (stayS hse nef_u Vf.out)
    replace Vro := Lib.hid (stayS hse nero_u Vro.out)
    replace Vrf := Lib.hid (stayS hse nerf_u Vrf.out)
    replace Vra := Lib.hid (stayS hse nera_u Vra.out)
    replace Vnx := Lib.hid (stayS hse nenx_u Vnx.out)
    replace Vu := VN
    replace HB := Lib.hid (belS hse geu HB.out)
    clear VN hse
    have cnx := row10 Vnx.out
    have co := row11 Vo.out
    have cf := row10 Vf.out
    have cu := row7 Vu.out
    go_wp2_with fail
    refine (stThen_false _ _ _ _ _ _ _ _ _ _ _ _ _ _ _ _ _ _ _ _ _ _ _ _ _ _ _ _ _ _ _ _ _ _ _ _ _ _ _ _ _ _ _ _).mono ?_
    rintro e w11 ⟨rfl, hb⟩
    clear mw8 hw8 mw9 hw9 mw10 hw10 cnx co cf cu
    replace Vo := Lib.hid (blk_below Vo.out hb (blk_lt Vo.out))
    replace Vf := Lib.hid (blk_below Vf.out hb (blk_lt Vf.out))
    replace Vro := Lib.hid (blk_below Vro.out hb (blk_lt Vro.out))
    replace Vrf := Lib.hid (blk_below Vrf.out hb (blk_lt Vrf.out))
    replace Vra := Lib.hid (blk_below Vra.out hb (blk_lt Vra.out))
    replace Vnx := Lib.hid (blk_below Vnx.out hb (blk_lt Vnx.out))
    replace Vu := Lib.hid (blk_below Vu.out hb (blk_lt Vu.out))
    replace ON1 := Lib.hid (own_below ON1.out hb)
    replace OL1 := Lib.hid (own_below OL1.out hb)
    replace HB := Lib.hid (And.intro (HB.out.1.trans (hb.mono HB.out.2)) (Nat.le_trans HB.out.2 hb.size))
    clear hb
    obtain ⟨mw12, w12, hw12, hse, VN⟩ := set11 Vro.out (.int .i64 kd) (.int .i64 z) (.int .i64 o1) (.int .i64 o2) (.int .i64 o3) (.int .i64 o4) (.int .i64 o5) (.int .u32 wa) (.int .u32 to) (.slice A1 n c1) (.slice B1 m d1)
    replace ON1 := Lib.hid (own_whole (by decide) ON1.out Vro.out hse)
    replace OL1 := Lib.hid (own_whole (by decide) OL1.out Vro.out hse)
    replace Vo := Lib.hid (stayS hse neo_ro Vo.out)
    replace Vf := Lib.hid (stayS hse nef_ro Vf.out)
    replace Vrf := Lib.hid (stayS hse nero_rf.symm Vrf.out)
    replace Vra := Lib.hid (stayS hse nero_ra.symm Vra.out)
    replace Vnx := Lib.hid (stayS hse nero_nx.symm Vnx.out)
    replace Vu := Lib.hid (stayS hse nero_u.symm Vu.out)
    replace Vro := VN
    replace HB := Lib.hid (belS hse gero HB.out)
    clear VN hse
    obtain ⟨mw13, w13, hw13, hse, VN⟩ := set10 Vrf.out (.int .i64 gop) (.int .i64 gstage) (.int .i64 gphase) (.int .i64 gold) (.int .i64 gsince) (.int .i64 gleft) (.bool gawoke) (.bool gstarve) (.int .i64 gneed) (.bool gfront)
    replace ON1 := Lib.hid (own_whole (by decide) ON1.out Vrf.out hse)
    replace OL1 := Lib.hid (own_whole (by decide) OL1.out Vrf.out hse)
    replace Vo := Lib.hid (stayS hse neo_rf Vo.out)
    replace Vf := Lib.hid (stayS hse nef_rf Vf.out)
    replace Vro := Lib.hid (stayS hse nero_rf Vro.out)
    replace Vra := Lib.hid (stayS hse nerf_ra.symm Vra.out)
    replace Vnx := Lib.hid (stayS hse nerf_nx.symm Vnx.out)
    replace Vu := Lib.hid (stayS hse nerf_u.symm Vu.out)
    replace Vrf := VN
    replace HB := Lib.hid (belS hse gerf HB.out)
    clear VN hse
    obtain ⟨mw14, w14, hw14, hse, VN⟩ := set7 Vra.out (.bool false) (.bool false) (.bool ghd) (.int .i64 ggv) (.int .i64 gft) (.int .u64 0) (.slice WA wn wc)
    replace ON1 := Lib.hid (own_whole (by decide) ON1.out Vra.out hse)
    replace OL1 := Lib.hid (own_whole (by decide) OL1.out Vra.out hse)
    replace Vo := Lib.hid (stayS hse neo_ra Vo.out)
    replace Vf := Lib.hid (stayS hse nef_ra Vf.out)
    replace Vro := Lib.hid (stayS hse nero_ra Vro.out)
    replace Vrf := Lib.hid (stayS hse nerf_ra Vrf.out)
    replace Vnx := Lib.hid (stayS hse nera_nx.symm Vnx.out)
    replace Vu := Lib.hid (stayS hse nera_u.symm Vu.out)
    replace Vra := VN
    replace HB := Lib.hid (belS hse gera HB.out)
    clear VN hse
    go_wp2
    refine bodyPost_ret (res_ccc Try.results17 (by rfl) (by rfl) (by rfl) (load_blk Vro.out Try.underlying29 (by kernel_rfl)) (load_blk Vrf.out Try.underlying31 (by kernel_rfl)) (load_blk Vra.out Try.underlying39 (by kernel_rfl))) rfl ?_
    rw [HE.out, HWK.out]
    exact ⟨A1, c1, B1, d1, rfl, ON1.out, OL1.out, HB.out.1, NW.out, NC.out⟩
  · have HE := Lib.hid (HO.trans (if_pos rfl))
    clear HO
    have HB := Lib.hid (And.intro (Below.refl w.heap.size w) (Nat.le_refl w.heap.size))
    have gq := HB.out.2
    obtain ⟨w1, hw1⟩ : ∃ W, (((((w.alloc (.cells #[.int .i64 kd, .int .i64 o0, .int .i64 o1, .int .i64 o2, .int .i64 o3, .int .i64 o4, .int .i64 o5, .int .u32 wa, .int .u32 to, .slice A n c, .slice B m d] 29)).alloc (.cells #[.int .i64 op, .int .i64 1, .int .i64 phase, .int .i64 old, .int .i64 since, .int .i64 left, .bool awoke, .bool starve, .int .i64 need, .bool front] 31)).alloc (.cells #[.int .i64 0, .int .i64 0, .int .i64 0, .int .i64 0, .int .i64 0, .int .i64 0, .int .i64 0, .int .u32 0, .int .u32 0, .slice none 0 0, .slice none 0 0] 29)).alloc (.cells #[.int .i64 0, .int .i64 0, .int .i64 0, .int .i64 0, .int .i64 0, .int .i64 0, .bool false, .bool false, .int .i64 0, .bool false] 31)).alloc (.cells #[.bool false, .bool false, .bool false, .int .i64 0, .int .i64 0, .int .u64 0, .slice none 0 0] 39)) = W := ⟨_, rfl⟩
    have hb : Below w.heap.size w w1 := hw1 ▸ ((((((Below.refl _ _).alloc (Nat.le_refl _) _).alloc (by first | (simp; done) | (simp; omega)) _).alloc (by first | (simp; done) | (simp; omega)) _).alloc (by first | (simp; done) | (simp; omega)) _).alloc (by first | (simp; done) | (simp; omega)) _)
    have hv0 : w1.heap[w.heap.size]? = some (.cells #[.int .i64 kd, .int .i64 o0, .int .i64 o1, .int .i64 o2, .int .i64 o3, .int .i64 o4, .int .i64 o5, .int .u32 wa, .int .u32 to, .slice A n c, .slice B m d] 29) := by
      have h0 := heap_alloc_new w (.cells #[.int .i64 kd, .int .i64 o0, .int .i64 o1, .int .i64 o2, .int .i64 o3, .int .i64 o4, .int .i64 o5, .int .u32 wa, .int .u32 to, .slice A n c, .slice B m d] 29)
      rw [show w.heap.size = w.heap.size by simp [Nat.add_assoc]] at h0
      rw [← hw1]
      rw [heap_alloc_old _ _ (by simp <;> omega), heap_alloc_old _ _ (by simp <;> omega), heap_alloc_old _ _ (by simp <;> omega), heap_alloc_old _ _ (by simp <;> omega)]; exact h0
    have hv1 : w1.heap[w.heap.size + 1]? = some (.cells #[.int .i64 op, .int .i64 1, .int .i64 phase, .int .i64 old, .int .i64 since, .int .i64 left, .bool awoke, .bool starve, .int .i64 need, .bool front] 31) := by
      have h0 := heap_alloc_new (w.alloc (.cells #[.int .i64 kd, .int .i64 o0, .int .i64 o1, .int .i64 o2, .int .i64 o3, .int .i64 o4, .int .i64 o5, .int .u32 wa, .int .u32 to, .slice A n c, .slice B m d] 29)) (.cells #[.int .i64 op, .int .i64 1, .int .i64 phase, .int .i64 old, .int .i64 since, .int .i64 left, .bool awoke, .bool starve, .int .i64 need, .bool front] 31)
      rw [show (w.alloc (.cells #[.int .i64 kd, .int .i64 o0, .int .i64 o1, .int .i64 o2, .int .i64 o3, .int .i64 o4, .int .i64 o5, .int .u32 wa, .int .u32 to, .slice A n c, .slice B m d] 29)).heap.size = w.heap.size + 1 by simp [Nat.add_assoc]] at h0
      rw [← hw1]
      rw [heap_alloc_old _ _ (by simp <;> omega), heap_alloc_old _ _ (by simp <;> omega), heap_alloc_old _ _ (by simp <;> omega)]; exact h0
    have hv2 : w1.heap[w.heap.size + 2]? = some (.cells #[.int .i64 0, .int .i64 0, .int .i64 0, .int .i64 0, .int .i64 0, .int .i64 0, .int .i64 0, .int .u32 0, .int .u32 0, .slice none 0 0, .slice none 0 0] 29) := by
      have h0 := heap_alloc_new ((w.alloc (.cells #[.int .i64 kd, .int .i64 o0, .int .i64 o1, .int .i64 o2, .int .i64 o3, .int .i64 o4, .int .i64 o5, .int .u32 wa, .int .u32 to, .slice A n c, .slice B m d] 29)).alloc (.cells #[.int .i64 op, .int .i64 1, .int .i64 phase, .int .i64 old, .int .i64 since, .int .i64 left, .bool awoke, .bool starve, .int .i64 need, .bool front] 31)) (.cells #[.int .i64 0, .int .i64 0, .int .i64 0, .int .i64 0, .int .i64 0, .int .i64 0, .int .i64 0, .int .u32 0, .int .u32 0, .slice none 0 0, .slice none 0 0] 29)
      rw [show ((w.alloc (.cells #[.int .i64 kd, .int .i64 o0, .int .i64 o1, .int .i64 o2, .int .i64 o3, .int .i64 o4, .int .i64 o5, .int .u32 wa, .int .u32 to, .slice A n c, .slice B m d] 29)).alloc (.cells #[.int .i64 op, .int .i64 1, .int .i64 phase, .int .i64 old, .int .i64 since, .int .i64 left, .bool awoke, .bool starve, .int .i64 need, .bool front] 31)).heap.size = w.heap.size + 2 by simp [Nat.add_assoc]] at h0
      rw [← hw1]
      rw [heap_alloc_old _ _ (by simp <;> omega), heap_alloc_old _ _ (by simp <;> omega)]; exact h0
    have hv3 : w1.heap[w.heap.size + 3]? = some (.cells #[.int .i64 0, .int .i64 0, .int .i64 0, .int .i64 0, .int .i64 0, .int .i64 0, .bool false, .bool false, .int .i64 0, .bool false] 31) := by
      have h0 := heap_alloc_new (((w.alloc (.cells #[.int .i64 kd, .int .i64 o0, .int .i64 o1, .int .i64 o2, .int .i64 o3, .int .i64 o4, .int .i64 o5, .int .u32 wa, .int .u32 to, .slice A n c, .slice B m d] 29)).alloc (.cells #[.int .i64 op, .int .i64 1, .int .i64 phase, .int .i64 old, .int .i64 since, .int .i64 left, .bool awoke, .bool starve, .int .i64 need, .bool front] 31)).alloc (.cells #[.int .i64 0, .int .i64 0, .int .i64 0, .int .i64 0, .int .i64 0, .int .i64 0, .int .i64 0, .int .u32 0, .int .u32 0, .slice none 0 0, .slice none 0 0] 29)) (.cells #[.int .i64 0, .int .i64 0, .int .i64 0, .int .i64 0, .int .i64 0, .int .i64 0, .bool false, .bool false, .int .i64 0, .bool false] 31)
      rw [show (((w.alloc (.cells #[.int .i64 kd, .int .i64 o0, .int .i64 o1, .int .i64 o2, .int .i64 o3, .int .i64 o4, .int .i64 o5, .int .u32 wa, .int .u32 to, .slice A n c, .slice B m d] 29)).alloc (.cells #[.int .i64 op, .int .i64 1, .int .i64 phase, .int .i64 old, .int .i64 since, .int .i64 left, .bool awoke, .bool starve, .int .i64 need, .bool front] 31)).alloc (.cells #[.int .i64 0, .int .i64 0, .int .i64 0, .int .i64 0, .int .i64 0, .int .i64 0, .int .i64 0, .int .u32 0, .int .u32 0, .slice none 0 0, .slice none 0 0] 29)).heap.size = w.heap.size + 3 by simp [Nat.add_assoc]] at h0
      rw [← hw1]
      rw [heap_alloc_old _ _ (by simp <;> omega)]; exact h0
    have hv4 : w1.heap[w.heap.size + 4]? = some (.cells #[.bool false, .bool false, .bool false, .int .i64 0, .int .i64 0, .int .u64 0, .slice none 0 0] 39) := by
      have h0 := heap_alloc_new ((((w.alloc (.cells #[.int .i64 kd, .int .i64 o0, .int .i64 o1, .int .i64 o2, .int .i64 o3, .int .i64 o4, .int .i64 o5, .int .u32 wa, .int .u32 to, .slice A n c, .slice B m d] 29)).alloc (.cells #[.int .i64 op, .int .i64 1, .int .i64 phase, .int .i64 old, .int .i64 since, .int .i64 left, .bool awoke, .bool starve, .int .i64 need, .bool front] 31)).alloc (.cells #[.int .i64 0, .int .i64 0, .int .i64 0, .int .i64 0, .int .i64 0, .int .i64 0, .int .i64 0, .int .u32 0, .int .u32 0, .slice none 0 0, .slice none 0 0] 29)).alloc (.cells #[.int .i64 0, .int .i64 0, .int .i64 0, .int .i64 0, .int .i64 0, .int .i64 0, .bool false, .bool false, .int .i64 0, .bool false] 31)) (.cells #[.bool false, .bool false, .bool false, .int .i64 0, .int .i64 0, .int .u64 0, .slice none 0 0] 39)
      rw [show ((((w.alloc (.cells #[.int .i64 kd, .int .i64 o0, .int .i64 o1, .int .i64 o2, .int .i64 o3, .int .i64 o4, .int .i64 o5, .int .u32 wa, .int .u32 to, .slice A n c, .slice B m d] 29)).alloc (.cells #[.int .i64 op, .int .i64 1, .int .i64 phase, .int .i64 old, .int .i64 since, .int .i64 left, .bool awoke, .bool starve, .int .i64 need, .bool front] 31)).alloc (.cells #[.int .i64 0, .int .i64 0, .int .i64 0, .int .i64 0, .int .i64 0, .int .i64 0, .int .i64 0, .int .u32 0, .int .u32 0, .slice none 0 0, .slice none 0 0] 29)).alloc (.cells #[.int .i64 0, .int .i64 0, .int .i64 0, .int .i64 0, .int .i64 0, .int .i64 0, .bool false, .bool false, .int .i64 0, .bool false] 31)).heap.size = w.heap.size + 4 by simp [Nat.add_assoc]] at h0
      rw [← hw1]
      exact h0
    replace HB := Lib.hid (And.intro (HB.out.1.trans (hb.mono HB.out.2)) (Nat.le_trans HB.out.2 hb.size))
    have Vo := Lib.hid hv0
    have geo := gq
    have Vf := Lib.hid hv1
    have neo_f : w.heap.size ≠ w.heap.size + 1 := by omega
    have gef : _ ≤ w.heap.size + 1 := Nat.le_trans gq (Nat.le_add_right _ 1)
    have Vro := Lib.hid hv2
    have neo_ro : w.heap.size ≠ w.heap.size + 2 := by omega
    have nef_ro : w.heap.size + 1 ≠ w.heap.size + 2 := by omega
    have gero : _ ≤ w.heap.size + 2 := Nat.le_trans gq (Nat.le_add_right _ 2)
    have Vrf := Lib.hid hv3
    have neo_rf : w.heap.size ≠ w.heap.size + 3 := by omega
    have nef_rf : w.heap.size + 1 ≠ w.heap.size + 3 := by omega
    have nero_rf : w.heap.size + 2 ≠ w.heap.size + 3 := by omega
    have gerf : _ ≤ w.heap.size + 3 := Nat.le_trans gq (Nat.le_add_right _ 3)
    have Vra := Lib.hid hv4
    have neo_ra : w.heap.size ≠ w.heap.size + 4 := by omega
    have nef_ra : w.heap.size + 1 ≠ w.heap.size + 4 := by omega
    have nero_ra : w.heap.size + 2 ≠ w.heap.size + 4 := by omega
    have nerf_ra : w.heap.size + 3 ≠ w.heap.size + 4 := by omega
    have gera : _ ≤ w.heap.size + 4 := Nat.le_trans gq (Nat.le_add_right _ 4)
    generalize hso : w.heap.size = so at *
    clear hb gq hv0 hv1 hv2 hv3 hv4
    subst hso
    go_enter Try.func17, Try.ntmps17
    have cf := row10 Vf.out
    go_wp2_with fail
    refine (BG.out _).mono ?_
    rintro e w2 ⟨rfl, hb⟩
    clear cf
    replace Vo := Lib.hid (blk_below Vo.out hb (blk_lt Vo.out))
    replace Vf := Lib.hid (blk_below Vf.out hb (blk_lt Vf.out))
    replace Vro := Lib.hid (blk_below Vro.out hb (blk_lt Vro.out))
    replace Vrf := Lib.hid (blk_below Vrf.out hb (blk_lt Vrf.out))
    replace Vra := Lib.hid (blk_below Vra.out hb (blk_lt Vra.out))
    replace HB := Lib.hid (And.intro (HB.out.1.trans (hb.mono HB.out.2)) (Nat.le_trans HB.out.2 hb.size))
    clear hb
    have lto := blk_lt Vo.out
    have ltf := blk_lt Vf.out
    have ltro := blk_lt Vro.out
    have ltrf := blk_lt Vrf.out
    have ltra := blk_lt Vra.out
    have gq := HB.out.2
    obtain ⟨w3, hw3⟩ : ∃ W, (w2.alloc (.cells #[.int .i64 0, .int .i64 0, .int .i64 0, .int .i64 0, .int .i64 0, .int .i64 0, .bool false, .bool false, .int .i64 0, .bool false] 31)) = W := ⟨_, rfl⟩
    have hb : Below w2.heap.size w2 w3 := hw3 ▸ ((Below.refl _ _).alloc (Nat.le_refl _) _)
    have hv0 : w3.heap[w2.heap.size]? = some (.cells #[.int .i64 0, .int .i64 0, .int .i64 0, .int .i64 0, .int .i64 0, .int .i64 0, .bool false, .bool false, .int .i64 0, .bool false] 31) := by
      have h0 := heap_alloc_new w2 (.cells #[.int .i64 0, .int .i64 0, .int .i64 0, .int .i64 0, .int .i64 0, .int .i64 0, .bool false, .bool false, .int .i64 0, .bool false] 31)
      rw [show w2.heap.size = w2.heap.size by simp [Nat.add_assoc]] at h0
      rw [← hw3]
      exact h0
    replace Vo := Lib.hid (blk_below Vo.out hb (blk_lt Vo.out))
    replace Vf := Lib.hid (blk_below Vf.out hb (blk_lt Vf.out))
    replace Vro := Lib.hid (blk_below Vro.out hb (blk_lt Vro.out))
    replace Vrf := Lib.hid (blk_below Vrf.out hb (blk_lt Vrf.out))
    replace Vra := Lib.hid (blk_below Vra.out hb (blk_lt Vra.out))
    replace HB := Lib.hid (And.intro (HB.out.1.trans (hb.mono HB.out.2)) (Nat.le_trans HB.out.2 hb.size))
    have Vnx := Lib.hid hv0
    have neo_nx := Nat.ne_of_lt lto
    have nef_nx := Nat.ne_of_lt ltf
    have nero_nx := Nat.ne_of_lt ltro
    have nerf_nx := Nat.ne_of_lt ltrf
    have nera_nx := Nat.ne_of_lt ltra
    have genx := gq
    generalize hsnx : w2.heap.size = snx at *
    clear hb gq hv0 lto ltf ltro ltrf ltra
    obtain ⟨mw4, w4, hw4, hse, VN⟩ := set10 Vnx.out (.int .i64 op) (.int .i64 0) (.int .i64 0) (.int .i64 0) (.int .i64 (-1)) (.int .i64 0) (.bool false) (.bool false) (.int .i64 0) (.bool false)
    replace Vo := Lib.hid (stayS hse neo_nx Vo.out)
    replace Vf := Lib.hid (stayS hse nef_nx Vf.out)
    replace Vro := Lib.hid (stayS hse nero_nx Vro.out)
    replace Vrf := Lib.hid (stayS hse nerf_nx Vrf.out)
    replace Vra := Lib.hid (stayS hse nera_nx Vra.out)
    replace Vnx := VN
    replace HB := Lib.hid (belS hse genx HB.out)
    clear VN hse
    have knx : w4.cell? ⟨snx, 1, none⟩ = some (.int .i64 0) := (blk_cell Vnx.out 1).trans rfl
    have znx : w4.frozen? ⟨snx, 1, none⟩ = false := blk_frozen Vnx.out 1
    obtain ⟨w5, hw5⟩ : ∃ W, w4.setCell ⟨snx, 1, none⟩ (.int .i64 2) = W := ⟨_, rfl⟩
    have Vo2 : w5.heap[w.heap.size]? = some (.cells #[.int .i64 kd, .int .i64 o0, .int .i64 o1, .int .i64 o2, .int .i64 o3, .int .i64 o4, .int .i64 o5, .int .u32 wa, .int .u32 to, .slice A n c, .slice B m d] 29) := hw5 ▸ (Below.heap_setCell _ ⟨snx, 1, none⟩ (.int .i64 2) (w.heap.size) neo_nx).trans Vo.out
    have Vf2 : w5.heap[w.heap.size + 1]? = some (.cells #[.int .i64 op, .int .i64 1, .int .i64 phase, .int .i64 old, .int .i64 since, .int .i64 left, .bool awoke, .bool starve, .int .i64 need, .bool front] 31) := hw5 ▸ (Below.heap_setCell _ ⟨snx, 1, none⟩ (.int .i64 2) (w.heap.size + 1) nef_nx).trans Vf.out
    have Vro2 : w5.heap[w.heap.size + 2]? = some (.cells #[.int .i64 0, .int .i64 0, .int .i64 0, .int .i64 0, .int .i64 0, .int .i64 0, .int .i64 0, .int .u32 0, .int .u32 0, .slice none 0 0, .slice none 0 0] 29) := hw5 ▸ (Below.heap_setCell _ ⟨snx, 1, none⟩ (.int .i64 2) (w.heap.size + 2) nero_nx).trans Vro.out
    have Vrf2 : w5.heap[w.heap.size + 3]? = some (.cells #[.int .i64 0, .int .i64 0, .int .i64 0, .int .i64 0, .int .i64 0, .int .i64 0, .bool false, .bool false, .int .i64 0, .bool false] 31) := hw5 ▸ (Below.heap_setCell _ ⟨snx, 1, none⟩ (.int .i64 2) (w.heap.size + 3) nerf_nx).trans Vrf.out
    have Vra2 : w5.heap[w.heap.size + 4]? = some (.cells #[.bool false, .bool false, .bool false, .int .i64 0, .int .i64 0, .int .u64 0, .slice none 0 0] 39) := hw5 ▸ (Below.heap_setCell _ ⟨snx, 1, none⟩ (.int .i64 2) (w.heap.size + 4) nera_nx).trans Vra.out
    have Vnx2 : w5.heap[snx]? = some (.cells #[.int .i64 op, .int .i64 2, .int .i64 0, .int .i64 0, .int .i64 (-1), .int .i64 0, .bool false, .bool false, .int .i64 0, .bool false] 31) := hw5 ▸ blk_set (j := 1) Vnx.out (.int .i64 2)
    have hbb : Below _ _ w5 := hw5 ▸ HB.out.1.setCell (p := ⟨snx, 1, none⟩) genx _
    have hbs : w5.heap.size = w4.heap.size := by rw [← hw5]; simp [World.setCell]
    replace Vo := Lib.hid Vo2
    clear Vo2
    replace Vf := Lib.hid Vf2
    clear Vf2
    replace Vro := Lib.hid Vro2
    clear Vro2
    replace Vrf := Lib.hid Vrf2
    clear Vrf2
    replace Vra := Lib.hid Vra2
    clear Vra2
    replace Vnx := Lib.hid Vnx2
    clear Vnx2
    replace HB := Lib.hid (And.intro hbb (show _ ≤ w5.heap.size by rw [hbs]; exact HB.out.2))
    clear hbb hbs
    have HBZ := Lib.hid HB.out.2
    have co := row11 Vo.out
    have cf := row10 Vf.out
    go_wp2_with fail
    refine (LC.out _ (Es.below RX.out HB.out.1) (Es.below RY.out HB.out.1)).mono ?_
    rintro e w6 ⟨A1, c1, B1, d1, rfl, hon, hol, hb, hA, hB⟩
    clear mw4 hw4 knx znx hw5 co cf
    replace Vo := Lib.hid (blk_below Vo.out hb (blk_lt Vo.out))
    replace Vf := Lib.hid (blk_below Vf.out hb (blk_lt Vf.out))
    replace Vro := Lib.hid (blk_below Vro.out hb (blk_lt Vro.out))
    replace Vrf := Lib.hid (blk_below Vrf.out hb (blk_lt Vrf.out))
    replace Vra := Lib.hid (blk_below Vra.out hb (blk_lt Vra.out))
    replace Vnx := Lib.hid (blk_below Vnx.out hb (blk_lt Vnx.out))
    replace HB := Lib.hid (And.intro (HB.out.1.trans (hb.mono HB.out.2)) (Nat.le_trans HB.out.2 hb.size))
    clear hb
    have ON1 := Lib.hid (own_base hon HBZ.out); have OL1 := Lib.hid (own_base hol HBZ.out)
    have NW := Lib.hid hA; have NC := Lib.hid hB
    clear hon hol hA hB HBZ
    have lto := blk_lt Vo.out
    have ltf := blk_lt Vf.out
    have ltro := blk_lt Vro.out
    have ltrf := blk_lt Vrf.out
    have ltra := blk_lt Vra.out
    have ltnx := blk_lt Vnx.out
    have gq := HB.out.2
    obtain ⟨w7, hw7⟩ : ∃ W, (w6.alloc (.cells #[.bool false, .bool false, .bool false, .int .i64 0, .int .i64 0, .int .u64 0, .slice none 0 0] 39)) = W := ⟨_, rfl⟩
    have hb : Below w6.heap.size w6 w7 := hw7 ▸ ((Below.refl _ _).alloc (Nat.le_refl _) _)
    have hv0 : w7.heap[w6.heap.size]? = some (.cells #[.bool false, .bool false, .bool false, .int .i64 0, .int .i64 0, .int .u64 0, .slice none 0 0] 39) := by
      have h0 := heap_alloc_new w6 (.cells #[.bool false, .bool false, .bool false, .int .i64 0, .int .i64 0, .int .u64 0, .slice none 0 0] 39)
      rw [show w6.heap.size = w6.heap.size by simp [Nat.add_assoc]] at h0
      rw [← hw7]
      exact h0
    replace Vo := Lib.hid (blk_below Vo.out hb (blk_lt Vo.out))
    replace Vf := Lib.hid (blk_below Vf.out hb (blk_lt Vf.out))
    replace Vro := Lib.hid (blk_below Vro.out hb (blk_lt Vro.out))
    replace Vrf := Lib.hid (blk_below Vrf.out hb (blk_lt Vrf.out))
    replace Vra := Lib.hid (blk_below Vra.out hb (blk_lt Vra.out))
    replace Vnx := Lib.hid (blk_below Vnx.out hb (blk_lt Vnx.out))
    replace ON1 := Lib.hid (own_below ON1.out hb)
    replace OL1 := Lib.hid (own_below OL1.out hb)
    replace HB := Lib.hid (And.intro (HB.out.1.trans (hb.mono HB.out.2)) (Nat.le_trans HB.out.2 hb.size))
    have Vu := Lib.hid hv0
    have neo_u := Nat.ne_of_lt lto
    have nef_u := Nat.ne_of_lt ltf
    have nero_u := Nat.ne_of_lt ltro
    have nerf_u := Nat.ne_of_lt ltrf
    have nera_u := Nat.ne_of_lt ltra
    have nenx_u := Nat.ne_of_lt ltnx
    have geu := gq
    generalize hsu : w6.heap.size = su at *
    clear hb gq hv0 lto ltf ltro ltrf ltra ltnx
    obtain ⟨mw8, w8, hw8, hse, VN⟩ := set11 Vo.out (.int .i64 kd) (.int .i64 z) (.int .i64 o1) (.int .i64 o2) (.int .i64 o3) (.int .i64 o4) (.int .i64 o5) (.int .u32 wa) (.int .u32 to) (.slice A1 n c1) (.slice B1 m d1)
    replace ON1 := Lib.hid (own_whole (by decide) ON1.out Vo.out hse)
    replace OL1 := Lib.hid (own_whole (by decide) OL1.out Vo.out hse)
    replace Vf := Lib.hid (stayS hse neo_f.symm Vf.out)
    replace Vro := Lib.hid (stayS hse neo_ro.symm Vro.out)
    replace Vrf := Lib.hid (stayS hse neo_rf.symm Vrf.out)
    replace Vra := Lib.hid (stayS hse neo_ra.symm Vra.out)
    replace Vnx := Lib.hid (stayS hse neo_nx.symm Vnx.out)
    replace Vu := Lib.hid (stayS hse neo_u.symm Vu.out)
    replace Vo := VN
    replace HB := Lib.hid (belS hse geo HB.out)
    clear VN hse
    obtain ⟨mw9, w9, hw9, hse, VN⟩ := set10 Vf.out (.int .i64 gop) (.int .i64 gstage) (.int .i64 gphase) (.int .i64 gold) (.int .i64 gsince) (.int .i64 gleft) (.bool gawoke) (.bool gstarve) (.int .i64 gneed) (.bool gfront)
    replace ON1 := Lib.hid (own_whole (by decide) ON1.out Vf.out hse)
    replace OL1 := Lib.hid (own_whole (by decide) OL1.out Vf.out hse)
    replace Vo := Lib.hid (stayS hse neo_f Vo.out)
    replace Vro := Lib.hid (stayS hse nef_ro.symm Vro.out)
    replace Vrf := Lib.hid (stayS hse nef_rf.symm Vrf.out)
    replace Vra := Lib.hid (stayS hse nef_ra.symm Vra.out)
    replace Vnx := Lib.hid (stayS hse nef_nx.symm Vnx.out)
    replace Vu := Lib.hid (stayS hse nef_u.symm Vu.out)
    replace Vf := VN
    replace HB := Lib.hid (belS hse gef HB.out)
    clear VN hse
    obtain ⟨mw10, w10, hw10, hse, VN⟩ := set7 Vu.out (.bool true) (.bool false) (.bool ghd) (.int .i64 ggv) (.int .i64 gft) (.int .u64 0) (.slice WA wn wc)
    replace ON1 := Lib.hid (own_whole (by decide) ON1.out Vu.out hse)
    replace OL1 := Lib.hid (own_whole (by decide) OL1.out Vu.out hse)
    replace Vo := Lib.hid (stayS hse neo_u Vo.out)
    replace Vf := Lib.hid (stayS hse nef_u Vf.out)
    replace Vro := Lib.hid (stayS hse nero_u Vro.out)
    replace Vrf := Lib.hid (stayS hse nerf_u Vrf.out)
    replace Vra := Lib.hid (stayS hse nera_u Vra.out)
    replace Vnx := Lib.hid (stayS hse nenx_u Vnx.out)
    replace Vu := VN
    replace HB := Lib.hid (belS hse geu HB.out)
    clear VN hse
    have cnx := row10 Vnx.out
    have co := row11 Vo.out
    have cf := row10 Vf.out
    have cu := row7 Vu.out
    go_wp2_with fail
    refine (stThen_true _ _ _ _ _ _ _ _ _ _ _ _ _ _ _ _ _ _ _ _ _ _ _ _ _ _ _ _ _ _ _ _ _ _ _ _ _ _ _ _ _ _ _ _).mono ?_
    rintro e w11 ⟨rfl, hb⟩
    clear mw8 hw8 mw9 hw9 mw10 hw10 cnx co cf cu
    replace Vo := Lib.hid (blk_below Vo.out hb (blk_lt Vo.out))
    replace Vf := Lib.hid (blk_below Vf.out hb (blk_lt Vf.out))
    replace Vro := Lib.hid (blk_below Vro.out hb (blk_lt Vro.out))
    replace Vrf := Lib.hid (blk_below Vrf.out hb (blk_lt Vrf.out))
    replace Vra := Lib.hid (blk_below Vra.out hb (blk_lt Vra.out))
    replace Vnx := Lib.hid (blk_below Vnx.out hb (blk_lt Vnx.out))
    replace Vu := Lib.hid (blk_below Vu.out hb (blk_lt Vu.out))
    replace ON1 := Lib.hid (own_below ON1.out hb)
    replace OL1 := Lib.hid (own_below OL1.out hb)
    replace HB := Lib.hid (And.intro (HB.out.1.trans (hb.mono HB.out.2)) (Nat.le_trans HB.out.2 hb.size))
    clear hb
    obtain ⟨mw12, w12, hw12, hse, VN⟩ := set11 Vro.out (.int .i64 kd) (.int .i64 z) (.int .i64 o1) (.int .i64 o2) (.int .i64 o3) (.int .i64 o4) (.int .i64 o5) (.int .u32 wa) (.int .u32 to) (.slice A1 n c1) (.slice B1 m d1)
    replace ON1 := Lib.hid (own_whole (by decide) ON1.out Vro.out hse)
    replace OL1 := Lib.hid (own_whole (by decide) OL1.out Vro.out hse)
    replace Vo := Lib.hid (stayS hse neo_ro Vo.out)
    replace Vf := Lib.hid (stayS hse nef_ro Vf.out)
    replace Vrf := Lib.hid (stayS hse nero_rf.symm Vrf.out)
    replace Vra := Lib.hid (stayS hse nero_ra.symm Vra.out)
    replace Vnx := Lib.hid (stayS hse nero_nx.symm Vnx.out)
    replace Vu := Lib.hid (stayS hse nero_u.symm Vu.out)
    replace Vro := VN
    replace HB := Lib.hid (belS hse gero HB.out)
    clear VN hse
    obtain ⟨mw13, w13, hw13, hse, VN⟩ := set10 Vrf.out (.int .i64 op) (.int .i64 2) (.int .i64 0) (.int .i64 0) (.int .i64 (-1)) (.int .i64 0) (.bool false) (.bool false) (.int .i64 0) (.bool false)
    replace ON1 := Lib.hid (own_whole (by decide) ON1.out Vrf.out hse)
    replace OL1 := Lib.hid (own_whole (by decide) OL1.out Vrf.out hse)
    replace Vo := Lib.hid (stayS hse neo_rf Vo.out)
    replace Vf := Lib.hid (stayS hse nef_rf Vf.out)
    replace Vro := Lib.hid (stayS hse nero_rf Vro.out)
    replace Vra := Lib.hid (stayS hse nerf_ra.symm Vra.out)
    replace Vnx := Lib.hid (stayS hse nerf_nx.symm Vnx.out)
    replace Vu := Lib.hid (stayS hse nerf_u.symm Vu.out)
    replace Vrf := VN
    replace HB := Lib.hid (belS hse gerf HB.out)
    clear VN hse
    obtain ⟨mw14, w14, hw14, hse, VN⟩ := set7 Vra.out (.bool false) (.bool false) (.bool ghd) (.int .i64 ggv) (.int .i64 0) (.int .u64 0) (.slice none 0 0)
    replace ON1 := Lib.hid (own_whole (by decide) ON1.out Vra.out hse)
    replace OL1 := Lib.hid (own_whole (by decide) OL1.out Vra.out hse)
    replace Vo := Lib.hid (stayS hse neo_ra Vo.out)
    replace Vf := Lib.hid (stayS hse nef_ra Vf.out)
    replace Vro := Lib.hid (stayS hse nero_ra Vro.out)
    replace Vrf := Lib.hid (stayS hse nerf_ra Vrf.out)
    replace Vnx := Lib.hid (stayS hse nera_nx.symm Vnx.out)
    replace Vu := Lib.hid (stayS hse nera_u.symm Vu.out)
    replace Vra := VN
    replace HB := Lib.hid (belS hse gera HB.out)
    clear VN hse
    go_wp2
    refine bodyPost_ret (res_ccc Try.results17 (by rfl) (by rfl) (by rfl) (load_blk Vro.out Try.underlying29 (by kernel_rfl)) (load_blk Vrf.out Try.underlying31 (by kernel_rfl)) (load_blk Vra.out Try.underlying39 (by kernel_rfl))) rfl ?_
    obtain ⟨q1, q2⟩ := HG.out
    subst q1
    subst q2
    rw [HE.out]
    exact ⟨A1, c1, B1, d1, rfl, ON1.out, OL1.out, HB.out.1, NW.out, NC.out⟩
end Go.Proofs.Ytkecmiedeihdgaa
