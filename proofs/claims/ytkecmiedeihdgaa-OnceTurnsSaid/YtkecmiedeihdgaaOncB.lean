/- Layer 18: acts with a value; what the document's own Once and End answer; no condition. -/
import Derived.Test.YtkecmiedeihdgaaOncA
import Derived.Test.YtkecmiedeihdgaaRwB
import Derived.Test.YtkecmiedeihdgaaMutE
import Derived.Test.YtkecmiedeihdgaaInv
import Derived.Test.YtkecmiedeihdgaaRo
namespace Go.Proofs.Ytkecmiedeihdgaa
set_option linter.unusedVariables false
set_option linter.unusedSimpArgs false
open Go.RowKit
/-- an act, with its value. -/
def acU (a : MAct) (v : Int) : Value := .agg #[.bool a.done, .bool false, .bool a.hand, .int .i64 a.give, .int .i64 a.fault, .int .u64 v, .slice none 0 0]
/-- a step's object, frame and act. -/
def StepN (w : World) (kd o1 o3 o4 o5 wa to : Int) (A : Option Addr) (n c : Nat) (B : Option Addr) (m d : Nat) (r : OnR) (e : Ending) (w' : World) : Prop :=
  e = .returned (.tuple #[obV kd r.1.1 o1 r.1.2 o3 o4 o5 wa to A n c B m d, frV r.2.1, acU r.2.2.1 r.2.2.2]) ∧ Below w.heap.size w w'
theorem load_blk {w : World} {b : Nat} {cs : List Value} {T : TypeId} {fs : Array Field} (h : w.heap[b]? = some (.cells cs.toArray T)) (hu : Try.prog.underlying T = some (.struct fs)) (hk : (Try.prog.info? T).map (·.size) = some cs.toArray.size) : (loadVar T ⟨b, 0, none⟩).run Try.prog w = .ok (.agg cs.toArray) w :=
  run_loadVar_row (P := Try.prog) w b T T cs.toArray (0, 0) _ h hu (by rfl) hk
set_option maxRecDepth 100000 in
set_option maxHeartbeats 16000000 in
theorem once18_one (kd o0 o1 o2 o3 o4 o5 wa to : Int) (A : Option Addr) (n c : Nat) (B : Option Addr) (m d : Nat) (f : MFr) (hp : f.stage = 1) (now pat : Int) (w : World) : Calls Try.prog 8 #[obV kd o0 o1 o2 o3 o4 o5 wa to A n c B m d, frV f, .int .i64 now, .int .i64 pat] w (StepN w kd o1 o3 o4 o5 wa to A n c B m d (onceW o0 o2 f now pat)) := by
  obtain ⟨op, stage, phase, old, since, left, awoke, starve, need, front⟩ := f
  have hp2 : stage = 1 := hp
  subst hp2
  clear hp
  obtain ⟨⟨z, ⟨gop, gstage, gphase, gold, gsince, gleft, gawoke, gstarve, gneed, gfront⟩, ⟨gdn, ggv, ghd, gft⟩⟩, hr⟩ : ∃ r, lockM o0 ⟨op, 1, phase, old, since, left, awoke, starve, need, front⟩ now pat = r := ⟨_, rfl⟩
  have HO : onceW o0 o2 ⟨op, 1, phase, old, since, left, awoke, starve, need, front⟩ now pat = (if gdn = true then ((z, o2), stageF ⟨op, 1, phase, old, since, left, awoke, starve, need, front⟩ 2, noA, 0) else ((z, o2), ⟨gop, gstage, gphase, gold, gsince, gleft, gawoke, gstarve, gneed, gfront⟩, ⟨gdn, ggv, ghd, gft⟩, 0)) := by
    unfold onceW
    rw [if_neg (fun h => (show ¬ ((1 : Int) = 0) by decide) h.1), if_neg (fun h => (show ¬ ((1 : Int) = 2) by decide) h.1), if_neg (show ¬ ((1 : Int) = 0) by decide), if_neg (show ¬ ((1 : Int) = 2) by decide), if_pos rfl, hr]
  obtain ⟨WA, wn, wc, hwk⟩ : ∃ (X : Option Addr) (i j : Nat), (Value.slice X i j) = .slice none 0 0 := ⟨_, _, _, rfl⟩
  have LC := Lib.hid (show ∀ W : World, Calls Try.prog 20 #[.agg #[.int .i64 kd, .int .i64 o0, .int .i64 o1, .int .i64 o2, .int .i64 o3, .int .i64 o4, .int .i64 o5, .int .u32 wa, .int .u32 to, .slice A n c, .slice B m d], .agg #[.int .i64 op, .int .i64 1, .int .i64 phase, .int .i64 old, .int .i64 since, .int .i64 left, .bool awoke, .bool starve, .int .i64 need, .bool front], .int .i64 now, .int .i64 pat] W (fun e w' => e = .returned (.tuple #[.agg #[.int .i64 kd, .int .i64 z, .int .i64 o1, .int .i64 o2, .int .i64 o3, .int .i64 o4, .int .i64 o5, .int .u32 wa, .int .u32 to, .slice A n c, .slice B m d], .agg #[.int .i64 gop, .int .i64 gstage, .int .i64 gphase, .int .i64 gold, .int .i64 gsince, .int .i64 gleft, .bool gawoke, .bool gstarve, .int .i64 gneed, .bool gfront], .agg #[.bool gdn, .bool false, .bool ghd, .int .i64 ggv, .int .i64 gft, .int .u64 0, .slice WA wn wc]]) ∧ Below W.heap.size W w') from fun W => by have h := lock15_any kd o0 o1 o2 o3 o4 o5 wa to A n c B m d ⟨op, 1, phase, old, since, left, awoke, starve, need, front⟩ now pat W; rw [hr] at h; rw [hwk]; exact h)
  have HWK := Lib.hid hwk
  clear hr hwk
  unfold obV frV frC
  simp only
  cases gdn
  · have HE := Lib.hid (HO.trans (if_neg (fun h => nomatch h)))
    clear HO
    have HB := Lib.hid (And.intro (Below.refl w.heap.size w) (Nat.le_refl w.heap.size))
    have gq := HB.out.2
    obtain ⟨w1, hw1⟩ : ∃ W, (((((w.alloc (.cells #[.int .i64 kd, .int .i64 o0, .int .i64 o1, .int .i64 o2, .int .i64 o3, .int .i64 o4, .int .i64 o5, .int .u32 wa, .int .u32 to, .slice A n c, .slice B m d] 29)).alloc (.cells #[.int .i64 op, .int .i64 1, .int .i64 phase, .int .i64 old, .int .i64 since, .int .i64 left, .bool awoke, .bool starve, .int .i64 need, .bool front] 31)).alloc (.cells #[.int .i64 0, .int .i64 0, .int .i64 0, .int .i64 0, .int .i64 0, .int .i64 0, .int .i64 0, .int .u32 0, .int .u32 0, .slice none 0 0, .slice none 0 0] 29)).alloc (.cells #[.int .i64 0, .int .i64 0, .int .i64 0, .int .i64 0, .int .i64 0, .int .i64 0, .bool false, .bool false, .int .i64 0, .bool false] 31)).alloc (.cells #[.bool false, .bool false, .bool false, .int .i64 0, .int .i64 0, .int .u64 0, .slice none 0 0] 39)) = W := ⟨_, rfl⟩
    have hb : Below w.heap.size w w1 := hw1 ▸ ((((((Below.refl _ _).alloc (Nat.le_refl _) _).alloc (by first | (simp; done) | (simp; omega)) _).alloc (by first | (simp; done) | (simp; omega)) _).alloc (by first | (simp; done) | (simp; omega)) _).alloc (by first | (simp; done) | (simp; omega)) _)
    have hv0 : w1.heap[w.heap.size]? = some (.cells #[.int .i64 kd, .int .i64 o0, .int .i64 o1, .int .i64 o2, .int .i64 o3, .int .i64 o4, .int .i64 o5, .int .u32 wa, .int .u32 to, .slice A n c, .slice B m d] 29) := by
      have h0 := heap_alloc_new w (.cells #[.int .i64 kd, .int .i64 o0, .int .i64 o1, .int .i64 o2, .int .i64 o3, .int .i64 o4, .int .i64 o5, .int .u32 wa, .int .u32 to, .slice A n c, .slice B m d] 29)
      rw [show w.heap.size = w.heap.size by simp [Nat.add_assoc]] at h0
      rw [← hw1]
      rw [heap_alloc_old _ _ (by simp <;> omega), heap_alloc_old _ _ (by simp <;> omega), heap_alloc_old _ _ (by simp <;> omega), heap_alloc_old _ _ (by simp <;> omega)]; exact h0
    have hv1 : w1.heap[w.heap.size + 1]? = some (.cells #[.int .i64 op, .int .i64 1, .int .i64 phase, .int .i64 old, .int .i64 since, .int .i64 left, .bool awoke, .bool starve, .int .i64 need, .bool front] 31) := by
      have h0 := heap_alloc_new (w.alloc (.cells #[.int .i64 kd, .int .i64 o0, .int .i64 o1, .int .i64 o2, .int .i64 o3, .int .i64 o4, .int .i64 o5, .int .u32 wa, .int .u32 to, .slice A n c, .slice B m d] 29)) (.cells #[.int .i64 op, .int .i64 1, .int .i64 phase, .int .i64 old, .int .i64 since, .int .i64 left, .bool awoke, .bool starve, .int .i64 need, .bool front] 31)
      rw [show (w.alloc (.cells #[.int .i64 kd, .int .i64 o0, .int .i64 o1, .int .i64 o2, .int .i64 o3, .int .i64 o4, .int .i64 o5, .int .u32 wa, .int .u32 to, .slice A n c, .slice B m d] 29)).heap.size = w.heap.size + 1 by simp [Nat.add_assoc]] at h0
      rw [← hw1]
      rw [heap_alloc_old _ _ (by simp <;> omega), heap_alloc_old _ _ (by simp <;> omega), heap_alloc_old _ _ (by simp <;> omega)]; exact h0
    have hv2 : w1.heap[w.heap.size + 2]? = some (.cells #[.int .i64 0, .int .i64 0, .int .i64 0, .int .i64 0, .int .i64 0, .int .i64 0, .int .i64 0, .int .u32 0, .int .u32 0, .slice none 0 0, .slice none 0 0] 29) := by
      have h0 := heap_alloc_new ((w.alloc (.cells #[.int .i64 kd, .int .i64 o0, .int .i64 o1, .int .i64 o2, .int .i64 o3, .int .i64 o4, .int .i64 o5, .int .u32 wa, .int .u32 to, .slice A n c, .slice B m d] 29)).alloc (.cells #[.int .i64 op, .int .i64 1, .int .i64 phase, .int .i64 old, .int .i64 since, .int .i64 left, .bool awoke, .bool starve, .int .i64 need, .bool front] 31)) (.cells #[.int .i64 0, .int .i64 0, .int .i64 0, .int .i64 0, .int .i64 0, .int .i64 0, .int .i64 0, .int .u32 0, .int .u32 0, .slice none 0 0, .slice none 0 0] 29)
      rw [show ((w.alloc (.cells #[.int .i64 kd, .int .i64 o0, .int .i64 o1, .int .i64 o2, .int .i64 o3, .int .i64 o4, .int .i64 o5, .int .u32 wa, .int .u32 to, .slice A n c, .slice B m d] 29)).alloc (.cells #[.int .i64 op, .int .i64 1, .int .i64 phase, .int .i64 old, .int .i64 since, .int .i64 left, .bool awoke, .bool starve, .int .i64 need, .bool front] 31)).heap.size = w.heap.size + 2 by simp [Nat.add_assoc]] at h0
      rw [← hw1]
      rw [heap_alloc_old _ _ (by simp <;> omega), heap_alloc_old _ _ (by simp <;> omega)]; exact h0
    have hv3 : w1.heap[w.heap.size + 3]? = some (.cells #[.int .i64 0, .int .i64 0, .int .i64 0, .int .i64 0, .int .i64 0, .int .i64 0, .bool false, .bool false, .int .i64 0, .bool false] 31) := by
      have h0 := heap_alloc_new (((w.alloc (.cells #[.int .i64 kd, .int .i64 o0, .int .i64 o1, .int .i64 o2, .int .i64 o3, .int .i64 o4, .int .i64 o5, .int .u32 wa, .int .u32 to, .slice A n c, .slice B m d] 29)).alloc (.cells #[.int .i64 op, .int .i64 1, .int .i64 phase, .int .i64 old, .int .i64 since, .int .i64 left, .bool awoke, .bool starve, .int .i64 need, .bool front] 31)).alloc (.cells #[.int .i64 0, .int .i64 0, .int .i64 0, .int .i64 0, .int .i64 0, .int .i64 0, .int .i64 0, .int .u32 0, .int .u32 0, .slice none 0 0, .slice none 0 0] 29)) (.cells #[.int .i64 0, .int .i64 0, .int .i64 0, .int .i64 0, .int .i64 0, .int .i64 0, .bool false, .bool false, .int .i64 0, .bool false] 31)
      rw [show (((w.alloc (.cells #[.int .i64 kd, .int .i64 o0, .int .i64 o1, .int .i64 o2, .int .i64 o3, .int .i64 o4, .int .i64 o5, .int .u32 wa, .int .u32 to, .slice A n c, .slice B m d] 29)).alloc (.cells #[.int .i64 op, .int .i64 1, .int .i64 phase, .int .i64 old, .int .i64 since, .int .i64 left, .bool awoke, .bool starve, .int .i64 need, .bool front] 31)).alloc (.cells #[.int .i64 0, .int .i64 0, .int .i64 0, .int .i64 0, .int .i64 0, .int .i64 0, .int .i64 0, .int .u32 0, .int .u32 0, .slice none 0 0, .slice none 0 0] 29)).heap.size = w.heap.size + 3 by simp [Nat.add_assoc]] at h0
      rw [← hw1]
      rw [heap_alloc_old _ _ (by simp <;> omega)]; exact h0
    have hv4 : w1.heap[w.heap.size + 4]? = some (.cells #[.bool false, .bool false, .bool false, .int .i64 0, .int .i64 0, .int .u64 0, .slice none 0 0] 39) := by
      have h0 := heap_alloc_new ((((w.alloc (.cells #[.int .i64 kd, .int .i64 o0, .int .i64 o1, .int .i64 o2, .int .i64 o3, .int .i64 o4, .int .i64 o5, .int .u32 wa, .int .u32 to, .slice A n c, .slice B m d] 29)).alloc (.cells #[.int .i64 op, .int .i64 1, .int .i64 phase, .int .i64 old, .int .i64 since, .int .i64 left, .bool awoke, .bool starve, .int .i64 need, .bool front] 31)).alloc (.cells #[.int .i64 0, .int .i64 0, .int .i64 0, .int .i64 0, .int .i64 0, .int .i64 0, .int .i64 0, .int .u32 0, .int .u32 0, .slice none 0 0, .slice none 0 0] 29)).alloc (.cells #[.int .i64 0, .int .i64 0, .int .i64 0, .int .i64 0, .int .i64 0, .int .i64 0, .bool false, .bool false, .int .i64 0, .bool false] 31)) (.cells #[.bool false, .bool false, .bool false, .int .i64 0, .int .i64 0, .int .u64 0, .slice none 0 0] 39)
      rw [show ((((w.alloc (.cells #[.int .i64 kd, .int .i64 o0, .int .i64 o1, .int .i64 o2, .int .i64 o3, .int .i64 o4, .int .i64 o5, .int .u32 wa, .int .u32 to, .slice A n c, .slice B m d] 29)).alloc (.cells #[.int .i64 op, .int .i64 1, .int .i64 phase, .int .i64 old, .int .i64 since, .int .i64 left, .bool awoke, .bool starve, .int .i64 need, .bool front] 31)).alloc (.cells #[.int .i64 0, .int .i64 0, .int .i64 0, .int .i64 0, .int .i64 0, .int .i64 0, .int .i64 0, .int .u32 0, .int .u32 0, .slice none 0 0, .slice none 0 0] 29)).alloc (.cells #[.int .i64 0, .int .i64 0, .int .i64 0, .int .i64 0, .int .i64 0, .int .i64 0, .bool false, .bool false, .int .i64 0, .bool false] 31)).heap.size = w.heap.size + 4 by simp [Nat.add_assoc]] at h0
      rw [← hw1]
      exact h0
    replace HB := Lib.hid (And.intro (HB.out.1.trans (hb.mono HB.out.2)) (Nat.le_trans HB.out.2 hb.size))
    have Vo := Lib.hid hv0
    have geo := gq
    have Vf := Lib.hid hv1
    have neo_f : w.heap.size ≠ w.heap.size + 1 := by omega
    have gef : _ ≤ w.heap.size + 1 := Nat.le_trans gq (Nat.le_add_right _ 1)
    have Vro := Lib.hid hv2
    have neo_ro : w.heap.size ≠ w.heap.size + 2 := by omega
    have nef_ro : w.heap.size + 1 ≠ w.heap.size + 2 := by omega
    have gero : _ ≤ w.heap.size + 2 := Nat.le_trans gq (Nat.le_add_right _ 2)
    have Vrf := Lib.hid hv3
    have neo_rf : w.heap.size ≠ w.heap.size + 3 := by omega
    have nef_rf : w.heap.size + 1 ≠ w.heap.size + 3 := by omega
    have nero_rf : w.heap.size + 2 ≠ w.heap.size + 3 := by omega
    have gerf : _ ≤ w.heap.size + 3 := Nat.le_trans gq (Nat.le_add_right _ 3)
    have Vra := Lib.hid hv4
    have neo_ra : w.heap.size ≠ w.heap.size + 4 := by omega
    have nef_ra : w.heap.size + 1 ≠ w.heap.size + 4 := by omega
    have nero_ra : w.heap.size + 2 ≠ w.heap.size + 4 := by omega
    have nerf_ra : w.heap.size + 3 ≠ w.heap.size + 4 := by omega
    have gera : _ ≤ w.heap.size + 4 := Nat.le_trans gq (Nat.le_add_right _ 4)
    generalize hso : w.heap.size = so at *
    clear hb gq hv0 hv1 hv2 hv3 hv4
    subst hso
    go_enter Try.func8, Try.ntmps8
    have co := row11 Vo.out
    have cf := row10 Vf.out
    go_wp2_with fail
    refine (LC.out _).mono ?_
    rintro e w2 ⟨rfl, hb⟩
    clear co cf
    replace Vo := Lib.hid (blk_below Vo.out hb (blk_lt Vo.out))
    replace Vf := Lib.hid (blk_below Vf.out hb (blk_lt Vf.out))
    replace Vro := Lib.hid (blk_below Vro.out hb (blk_lt Vro.out))
    replace Vrf := Lib.hid (blk_below Vrf.out hb (blk_lt Vrf.out))
    replace Vra := Lib.hid (blk_below Vra.out hb (blk_lt Vra.out))
    replace HB := Lib.hid (And.intro (HB.out.1.trans (hb.mono HB.out.2)) (Nat.le_trans HB.out.2 hb.size))
    clear hb
    have lto := blk_lt Vo.out
    have ltf := blk_lt Vf.out
    have ltro := blk_lt Vro.out
    have ltrf := blk_lt Vrf.out
    have ltra := blk_lt Vra.out
    have gq := HB.out.2
    obtain ⟨w3, hw3⟩ : ∃ W, (((w2.alloc (.cells #[.int .i64 kd, .int .i64 z, .int .i64 o1, .int .i64 o2, .int .i64 o3, .int .i64 o4, .int .i64 o5, .int .u32 wa, .int .u32 to, .slice A n c, .slice B m d] 29)).alloc (.cells #[.int .i64 gop, .int .i64 gstage, .int .i64 gphase, .int .i64 gold, .int .i64 gsince, .int .i64 gleft, .bool gawoke, .bool gstarve, .int .i64 gneed, .bool gfront] 31)).alloc (.cells #[.bool false, .bool false, .bool ghd, .int .i64 ggv, .int .i64 gft, .int .u64 0, .slice WA wn wc] 39)) = W := ⟨_, rfl⟩
    have hb : Below w2.heap.size w2 w3 := hw3 ▸ ((((Below.refl _ _).alloc (Nat.le_refl _) _).alloc (by first | (simp; done) | (simp; omega)) _).alloc (by first | (simp; done) | (simp; omega)) _)
    have hv0 : w3.heap[w2.heap.size]? = some (.cells #[.int .i64 kd, .int .i64 z, .int .i64 o1, .int .i64 o2, .int .i64 o3, .int .i64 o4, .int .i64 o5, .int .u32 wa, .int .u32 to, .slice A n c, .slice B m d] 29) := by
      have h0 := heap_alloc_new w2 (.cells #[.int .i64 kd, .int .i64 z, .int .i64 o1, .int .i64 o2, .int .i64 o3, .int .i64 o4, .int .i64 o5, .int .u32 wa, .int .u32 to, .slice A n c, .slice B m d] 29)
      rw [show w2.heap.size = w2.heap.size by simp [Nat.add_assoc]] at h0
      rw [← hw3]
      rw [heap_alloc_old _ _ (by simp <;> omega), heap_alloc_old _ _ (by simp <;> omega)]; exact h0
    have hv1 : w3.heap[w2.heap.size + 1]? = some (.cells #[.int .i64 gop, .int .i64 gstage, .int .i64 gphase, .int .i64 gold, .int .i64 gsince, .int .i64 gleft, .bool gawoke, .bool gstarve, .int .i64 gneed, .bool gfront] 31) := by
      have h0 := heap_alloc_new (w2.alloc (.cells #[.int .i64 kd, .int .i64 z, .int .i64 o1, .int .i64 o2, .int .i64 o3, .int .i64 o4, .int .i64 o5, .int .u32 wa, .int .u32 to, .slice A n c, .slice B m d] 29)) (.cells #[.int .i64 gop, .int .i64 gstage, .int .i64 gphase, .int .i64 gold, .int .i64 gsince, .int .i64 gleft, .bool gawoke, .bool gstarve, .int .i64 gneed, .bool gfront] 31)
      rw [show (w2.alloc (.cells #[.int .i64 kd, .int .i64 z, .int .i64 o1, .int .i64 o2, .int .i64 o3, .int .i64 o4, .int .i64 o5, .int .u32 wa, .int .u32 to, .slice A n c, .slice B m d] 29)).heap.size = w2.heap.size + 1 by simp [Nat.add_assoc]] at h0
      rw [← hw3]
      rw [heap_alloc_old _ _ (by simp <;> omega)]; exact h0
    have hv2 : w3.heap[w2.heap.size + 2]? = some (.cells #[.bool false, .bool false, .bool ghd, .int .i64 ggv, .int .i64 gft, .int .u64 0, .slice WA wn wc] 39) := by
      have h0 := heap_alloc_new ((w2.alloc (.cells #[.int .i64 kd, .int .i64 z, .int .i64 o1, .int .i64 o2, .int .i64 o3, .int .i64 o4, .int .i64 o5, .int .u32 wa, .int .u32 to, .slice A n c, .slice B m d] 29)).alloc (.cells #[.int .i64 gop, .int .i64 gstage, .int .i64 gphase, .int .i64 gold, .int .i64 gsince, .int .i64 gleft, .bool gawoke, .bool gstarve, .int .i64 gneed, .bool gfront] 31)) (.cells #[.bool false, .bool false, .bool ghd, .int .i64 ggv, .int .i64 gft, .int .u64 0, .slice WA wn wc] 39)
      rw [show ((w2.alloc (.cells #[.int .i64 kd, .int .i64 z, .int .i64 o1, .int .i64 o2, .int .i64 o3, .int .i64 o4, .int .i64 o5, .int .u32 wa, .int .u32 to, .slice A n c, .slice B m d] 29)).alloc (.cells #[.int .i64 gop, .int .i64 gstage, .int .i64 gphase, .int .i64 gold, .int .i64 gsince, .int .i64 gleft, .bool gawoke, .bool gstarve, .int .i64 gneed, .bool gfront] 31)).heap.size = w2.heap.size + 2 by simp [Nat.add_assoc]] at h0
      rw [← hw3]
      exact h0
    replace Vo := Lib.hid (blk_below Vo.out hb (blk_lt Vo.out))
    replace Vf := Lib.hid (blk_below Vf.out hb (blk_lt Vf.out))
    replace Vro := Lib.hid (blk_below Vro.out hb (blk_lt Vro.out))
    replace Vrf := Lib.hid (blk_below Vrf.out hb (blk_lt Vrf.out))
    replace Vra := Lib.hid (blk_below Vra.out hb (blk_lt Vra.out))
    replace HB := Lib.hid (And.intro (HB.out.1.trans (hb.mono HB.out.2)) (Nat.le_trans HB.out.2 hb.size))
    have Vx := Lib.hid hv0
    have neo_x := Nat.ne_of_lt lto
    have nef_x := Nat.ne_of_lt ltf
    have nero_x := Nat.ne_of_lt ltro
    have nerf_x := Nat.ne_of_lt ltrf
    have nera_x := Nat.ne_of_lt ltra
    have gex := gq
    have Vg := Lib.hid hv1
    have neo_g := Nat.ne_of_lt (Nat.lt_of_lt_of_le lto (Nat.le_add_right w2.heap.size 1))
    have nef_g := Nat.ne_of_lt (Nat.lt_of_lt_of_le ltf (Nat.le_add_right w2.heap.size 1))
    have nero_g := Nat.ne_of_lt (Nat.lt_of_lt_of_le ltro (Nat.le_add_right w2.heap.size 1))
    have nerf_g := Nat.ne_of_lt (Nat.lt_of_lt_of_le ltrf (Nat.le_add_right w2.heap.size 1))
    have nera_g := Nat.ne_of_lt (Nat.lt_of_lt_of_le ltra (Nat.le_add_right w2.heap.size 1))
    have nex_g : w2.heap.size ≠ w2.heap.size + 1 := by omega
    have geg : _ ≤ w2.heap.size + 1 := Nat.le_trans gq (Nat.le_add_right _ 1)
    have Vu := Lib.hid hv2
    have neo_u := Nat.ne_of_lt (Nat.lt_of_lt_of_le lto (Nat.le_add_right w2.heap.size 2))
    have nef_u := Nat.ne_of_lt (Nat.lt_of_lt_of_le ltf (Nat.le_add_right w2.heap.size 2))
    have nero_u := Nat.ne_of_lt (Nat.lt_of_lt_of_le ltro (Nat.le_add_right w2.heap.size 2))
    have nerf_u := Nat.ne_of_lt (Nat.lt_of_lt_of_le ltrf (Nat.le_add_right w2.heap.size 2))
    have nera_u := Nat.ne_of_lt (Nat.lt_of_lt_of_le ltra (Nat.le_add_right w2.heap.size 2))
    have nex_u : w2.heap.size ≠ w2.heap.size + 2 := by omega
    have neg_u : w2.heap.size + 1 ≠ w2.heap.size + 2 := by omega
    have geu : _ ≤ w2.heap.size + 2 := Nat.le_trans gq (Nat.le_add_right _ 2)
    generalize hsx : w2.heap.size = sx at *
    clear hb gq hv0 hv1 hv2 lto ltf ltro ltrf ltra
    have cu := row7 Vu.out
    have co := row11 Vo.out
    have cf := row10 Vf.out
    go_wp2
    clear cu co cf
    obtain ⟨we, hwe⟩ : ∃ W, (w3).drew = W := ⟨_, rfl⟩
    have hb : Below (w3).heap.size (w3) we := hwe ▸ (Below.refl _ _).drew
    replace Vo := Lib.hid (blk_below Vo.out hb (blk_lt Vo.out))
    replace Vf := Lib.hid (blk_below Vf.out hb (blk_lt Vf.out))
    replace Vro := Lib.hid (blk_below Vro.out hb (blk_lt Vro.out))
    replace Vrf := Lib.hid (blk_below Vrf.out hb (blk_lt Vrf.out))
    replace Vra := Lib.hid (blk_below Vra.out hb (blk_lt Vra.out))
    replace Vx := Lib.hid (blk_below Vx.out hb (blk_lt Vx.out))
    replace Vg := Lib.hid (blk_below Vg.out hb (blk_lt Vg.out))
    replace Vu := Lib.hid (blk_below Vu.out hb (blk_lt Vu.out))
    replace HB := Lib.hid (And.intro (HB.out.1.trans (hb.mono HB.out.2)) (Nat.le_trans HB.out.2 hb.size))
    clear hb
    have S0 := Lib.hid (And.intro (Vx.out) (And.intro (Vg.out) (Vu.out)))
    obtain ⟨w4, hw4⟩ : ∃ W, we.setCells (w.heap.size + 2) 0 [.int .i64 kd, .int .i64 z, .int .i64 o1, .int .i64 o2, .int .i64 o3, .int .i64 o4, .int .i64 o5, .int .u32 wa, .int .u32 to, .slice A n c, .slice B m d] = W := ⟨_, rfl⟩
    have thro := Lib.hid (there_blk Vro.out (k := 11) rfl)
    replace Vo := Lib.hid (stayS hw4 neo_ro Vo.out)
    replace Vf := Lib.hid (stayS hw4 nef_ro Vf.out)
    replace Vrf := Lib.hid (stayS hw4 nero_rf.symm Vrf.out)
    replace Vra := Lib.hid (stayS hw4 nero_ra.symm Vra.out)
    replace Vx := Lib.hid (stayS hw4 nero_x.symm Vx.out)
    replace Vg := Lib.hid (stayS hw4 nero_g.symm Vg.out)
    replace Vu := Lib.hid (stayS hw4 nero_u.symm Vu.out)
    replace Vro := Lib.hid (setS hw4 Vro.out rfl)
    replace HB := Lib.hid (belS hw4 gero HB.out)
    have S1 := Lib.hid (And.intro (Vx.out) (And.intro (Vg.out) (Vu.out)))
    obtain ⟨w5, hw5⟩ : ∃ W, w4.setCells (w.heap.size + 3) 0 [.int .i64 gop, .int .i64 gstage, .int .i64 gphase, .int .i64 gold, .int .i64 gsince, .int .i64 gleft, .bool gawoke, .bool gstarve, .int .i64 gneed, .bool gfront] = W := ⟨_, rfl⟩
    have thrf := Lib.hid (there_blk Vrf.out (k := 10) rfl)
    replace Vo := Lib.hid (stayS hw5 neo_rf Vo.out)
    replace Vf := Lib.hid (stayS hw5 nef_rf Vf.out)
    replace Vro := Lib.hid (stayS hw5 nero_rf Vro.out)
    replace Vra := Lib.hid (stayS hw5 nerf_ra.symm Vra.out)
    replace Vx := Lib.hid (stayS hw5 nerf_x.symm Vx.out)
    replace Vg := Lib.hid (stayS hw5 nerf_g.symm Vg.out)
    replace Vu := Lib.hid (stayS hw5 nerf_u.symm Vu.out)
    replace Vrf := Lib.hid (setS hw5 Vrf.out rfl)
    replace HB := Lib.hid (belS hw5 gerf HB.out)
    have S2 := Lib.hid (And.intro (Vx.out) (And.intro (Vg.out) (Vu.out)))
    obtain ⟨w6, hw6⟩ : ∃ W, w5.setCells (w.heap.size + 4) 0 [.bool false, .bool false, .bool ghd, .int .i64 ggv, .int .i64 gft, .int .u64 0, .slice WA wn wc] = W := ⟨_, rfl⟩
    have thra := Lib.hid (there_blk Vra.out (k := 7) rfl)
    replace Vo := Lib.hid (stayS hw6 neo_ra Vo.out)
    replace Vf := Lib.hid (stayS hw6 nef_ra Vf.out)
    replace Vro := Lib.hid (stayS hw6 nero_ra Vro.out)
    replace Vrf := Lib.hid (stayS hw6 nerf_ra Vrf.out)
    replace Vx := Lib.hid (stayS hw6 nera_x.symm Vx.out)
    replace Vg := Lib.hid (stayS hw6 nera_g.symm Vg.out)
    replace Vu := Lib.hid (stayS hw6 nera_u.symm Vu.out)
    replace Vra := Lib.hid (setS hw6 Vra.out rfl)
    replace HB := Lib.hid (belS hw6 gera HB.out)
    have S3 := Lib.hid (And.intro (Vx.out) (And.intro (Vg.out) (Vu.out)))
    refine wp_region_noPanic ?_
    refine wp_region_held_drew (S := (fun wv => Hid (wv.heap[sx]? = some (.cells #[.int .i64 kd, .int .i64 z, .int .i64 o1, .int .i64 o2, .int .i64 o3, .int .i64 o4, .int .i64 o5, .int .u32 wa, .int .u32 to, .slice A n c, .slice B m d] 29) ∧ wv.heap[sx + 1]? = some (.cells #[.int .i64 gop, .int .i64 gstage, .int .i64 gphase, .int .i64 gold, .int .i64 gsince, .int .i64 gleft, .bool gawoke, .bool gstarve, .int .i64 gneed, .bool gfront] 31) ∧ wv.heap[sx + 2]? = some (.cells #[.bool false, .bool false, .bool ghd, .int .i64 ggv, .int .i64 gft, .int .u64 0, .slice WA wn wc] 39)))) (by kernel_rfl) ((by rw [hwe]; exact S0)) (fun hS => ?_)
    rw [hwe] at hS ⊢
    refine wpAnyH_take (i := 0) (oi := ⟨some 72, .load 29 (.tmp 11), 29, "ref.go:27", #[], none⟩) (v := .agg (([.int .i64 kd, .int .i64 z, .int .i64 o1, .int .i64 o2, .int .i64 o3, .int .i64 o4, .int .i64 o5, .int .u32 wa, .int .u32 to, .slice A n c, .slice B m d] : List Value)).toArray) rfl (by kernel_rfl) (by kernel_rfl) (by kernel_rfl) (fun _ _ _ h => h) (yieldsIf_load_mid (by rfl) _ _ (by rfl) (sx) (0) (by rfl) _ _ (fun wv hS => blk_rngl hS.out.1) Try.underlying29 (by rfl) (by kernel_rfl)) hS ?_
    try simp only [Act.put, List.setIfInBounds_toArray, List.set_cons_zero, List.set_cons_succ]
    refine wpAnyH_take (i := 1) (oi := ⟨some 73, .load 31 (.tmp 12), 31, "ref.go:27", #[⟨3, .gcOnly .lateStores⟩], none⟩) (v := .agg (([.int .i64 gop, .int .i64 gstage, .int .i64 gphase, .int .i64 gold, .int .i64 gsince, .int .i64 gleft, .bool gawoke, .bool gstarve, .int .i64 gneed, .bool gfront] : List Value)).toArray) rfl (by kernel_rfl) (by kernel_rfl) (by kernel_rfl) (fun _ _ _ h => h) (yieldsIf_load_mid (by rfl) _ _ (by rfl) (sx + 1) (0) (by rfl) _ _ (fun wv hS => blk_rngl hS.out.2.1) Try.underlying31 (by rfl) (by kernel_rfl)) hS ?_
    try simp only [Act.put, List.setIfInBounds_toArray, List.set_cons_zero, List.set_cons_succ]
    refine wpAnyH_take (i := 2) (oi := ⟨some 74, .load 39 (.tmp 13), 39, "ref.go:27", #[⟨4, .gcOnly .lateStores⟩], none⟩) (v := .agg (([.bool false, .bool false, .bool ghd, .int .i64 ggv, .int .i64 gft, .int .u64 0, .slice WA wn wc] : List Value)).toArray) rfl (by kernel_rfl) (by kernel_rfl) (by kernel_rfl) (fun _ _ _ h => h) (yieldsIf_load_mid (by rfl) _ _ (by rfl) (sx + 2) (0) (by rfl) _ _ (fun wv hS => blk_rngl hS.out.2.2) Try.underlying39 (by rfl) (by kernel_rfl)) hS ?_
    try simp only [Act.put, List.setIfInBounds_toArray, List.set_cons_zero, List.set_cons_succ]
    refine wpAnyH_ready (rs := [3]) (by kernel_rfl) (by simp) (AllReadyH.cons (o := ⟨none, .store 29 (.tmp 8) (.tmp 72), 0, "ref.go:27", #[⟨0, .data⟩, ⟨0, .phase⟩, ⟨1, .textOnly .lateStores⟩, ⟨2, .textOnly .lateStores⟩], none⟩) rfl (fun K hK => ?_) AllReadyH.nil)
    refine op_storeS (by rfl) rfl rfl rfl thro.out (by kernel_rfl) (by simp [Value.oneCell']) hw4 ?_
    replace hS := S1
    refine Shut.out hK _ _ hS (fun _ => ?_)
    clear hK K
    try simp only [Act.put, List.setIfInBounds_toArray, List.set_cons_zero, List.set_cons_succ]
    refine wpAnyH_ready (rs := [4]) (by kernel_rfl) (by simp) (AllReadyH.cons (o := ⟨none, .store 31 (.tmp 9) (.tmp 73), 0, "ref.go:27", #[⟨1, .data⟩, ⟨3, .chain⟩, ⟨0, .phase⟩, ⟨1, .phase⟩, ⟨2, .textOnly .lateStores⟩, ⟨3, .phase⟩], none⟩) rfl (fun K hK => ?_) AllReadyH.nil)
    refine op_storeS (by rfl) rfl rfl rfl thrf.out (by kernel_rfl) (by simp [Value.oneCell']) hw5 ?_
    replace hS := S2
    refine Shut.out hK _ _ hS (fun _ => ?_)
    clear hK K
    try simp only [Act.put, List.setIfInBounds_toArray, List.set_cons_zero, List.set_cons_succ]
    refine wpAnyH_ready (rs := [5]) (by kernel_rfl) (by simp) (AllReadyH.cons (o := ⟨none, .store 39 (.tmp 10) (.tmp 74), 0, "ref.go:27", #[⟨2, .data⟩, ⟨4, .chain⟩, ⟨0, .phase⟩, ⟨1, .phase⟩, ⟨2, .phase⟩, ⟨3, .phase⟩, ⟨4, .phase⟩], none⟩) rfl (fun K hK => ?_) AllReadyH.nil)
    refine op_storeS (by rfl) rfl rfl rfl thra.out (by kernel_rfl) (by simp [Value.oneCell']) hw6 ?_
    replace hS := S3
    refine Shut.out hK _ _ hS (fun _ => ?_)
    clear hK K
    try simp only [Act.put, List.setIfInBounds_toArray, List.set_cons_zero, List.set_cons_succ]
    refine wpAnyH_done (by kernel_rfl) ?_ _
    refine NoPanic.normal ?_
    clear hS S0 S1 S2 S3 thro thrf thra
    go_wp2
    refine bodyPost_ret (res_ccc Try.results8 (by rfl) (by rfl) (by rfl) (load_blk Vro.out Try.underlying29 (by kernel_rfl)) (load_blk Vrf.out Try.underlying31 (by kernel_rfl)) (load_blk Vra.out Try.underlying39 (by kernel_rfl))) rfl ?_
    rw [HE.out, HWK.out]
    exact ⟨rfl, HB.out.1⟩
  · have HE := Lib.hid (HO.trans (if_pos rfl))
    clear HO
    have HB := Lib.hid (And.intro (Below.refl w.heap.size w) (Nat.le_refl w.heap.size))
    have gq := HB.out.2
    obtain ⟨w1, hw1⟩ : ∃ W, (((((w.alloc (.cells #[.int .i64 kd, .int .i64 o0, .int .i64 o1, .int .i64 o2, .int .i64 o3, .int .i64 o4, .int .i64 o5, .int .u32 wa, .int .u32 to, .slice A n c, .slice B m d] 29)).alloc (.cells #[.int .i64 op, .int .i64 1, .int .i64 phase, .int .i64 old, .int .i64 since, .int .i64 left, .bool awoke, .bool starve, .int .i64 need, .bool front] 31)).alloc (.cells #[.int .i64 0, .int .i64 0, .int .i64 0, .int .i64 0, .int .i64 0, .int .i64 0, .int .i64 0, .int .u32 0, .int .u32 0, .slice none 0 0, .slice none 0 0] 29)).alloc (.cells #[.int .i64 0, .int .i64 0, .int .i64 0, .int .i64 0, .int .i64 0, .int .i64 0, .bool false, .bool false, .int .i64 0, .bool false] 31)).alloc (.cells #[.bool false, .bool false, .bool false, .int .i64 0, .int .i64 0, .int .u64 0, .slice none 0 0] 39)) = W := ⟨_, rfl⟩
    have hb : Below w.heap.size w w1 := hw1 ▸ ((((((Below.refl _ _).alloc (Nat.le_refl _) _).alloc (by first | (simp; done) | (simp; omega)) _).alloc (by first | (simp; done) | (simp; omega)) _).alloc (by first | (simp; done) | (simp; omega)) _).alloc (by first | (simp; done) | (simp; omega)) _)
    have hv0 : w1.heap[w.heap.size]? = some (.cells #[.int .i64 kd, .int .i64 o0, .int .i64 o1, .int .i64 o2, .int .i64 o3, .int .i64 o4, .int .i64 o5, .int .u32 wa, .int .u32 to, .slice A n c, .slice B m d] 29) := by
      have h0 := heap_alloc_new w (.cells #[.int .i64 kd, .int .i64 o0, .int .i64 o1, .int .i64 o2, .int .i64 o3, .int .i64 o4, .int .i64 o5, .int .u32 wa, .int .u32 to, .slice A n c, .slice B m d] 29)
      rw [show w.heap.size = w.heap.size by simp [Nat.add_assoc]] at h0
      rw [← hw1]
      rw [heap_alloc_old _ _ (by simp <;> omega), heap_alloc_old _ _ (by simp <;> omega), heap_alloc_old _ _ (by simp <;> omega), heap_alloc_old _ _ (by simp <;> omega)]; exact h0
    have hv1 : w1.heap[w.heap.size + 1]? = some (.cells #[.int .i64 op, .int .i64 1, .int .i64 phase, .int .i64 old, .int .i64 since, .int .i64 left, .bool awoke, .bool starve, .int .i64 need, .bool front] 31) := by
      have h0 := heap_alloc_new (w.alloc (.cells #[.int .i64 kd, .int .i64 o0, .int .i64 o1, .int .i64 o2, .int .i64 o3, .int .i64 o4, .int .i64 o5, .int .u32 wa, .int .u32 to, .slice A n c, .slice B m d] 29)) (.cells #[.int .i64 op, .int .i64 1, .int .i64 phase, .int .i64 old, .int .i64 since, .int .i64 left, .bool awoke, .bool starve, .int .i64 need, .bool front] 31)
      rw [show (w.alloc (.cells #[.int .i64 kd, .int .i64 o0, .int .i64 o1, .int .i64 o2, .int .i64 o3, .int .i64 o4, .int .i64 o5, .int .u32 wa, .int .u32 to, .slice A n c, .slice B m d] 29)).heap.size = w.heap.size + 1 by simp [Nat.add_assoc]] at h0
      rw [← hw1]
      rw [heap_alloc_old _ _ (by simp <;> omega), heap_alloc_old _ _ (by simp <;> omega), heap_alloc_old _ _ (by simp <;> omega)]; exact h0
    have hv2 : w1.heap[w.heap.size + 2]? = some (.cells #[.int .i64 0, .int .i64 0, .int .i64 0, .int .i64 0, .int .i64 0, .int .i64 0, .int .i64 0, .int .u32 0, .int .u32 0, .slice none 0 0, .slice none 0 0] 29) := by
      have h0 := heap_alloc_new ((w.alloc (.cells #[.int .i64 kd, .int .i64 o0, .int .i64 o1, .int .i64 o2, .int .i64 o3, .int .i64 o4, .int .i64 o5, .int .u32 wa, .int .u32 to, .slice A n c, .slice B m d] 29)).alloc (.cells #[.int .i64 op, .int .i64 1, .int .i64 phase, .int .i64 old, .int .i64 since, .int .i64 left, .bool awoke, .bool starve, .int .i64 need, .bool front] 31)) (.cells #[.int .i64 0, .int .i64 0, .int .i64 0, .int .i64 0, .int .i64 0, .int .i64 0, .int .i64 0, .int .u32 0, .int .u32 0, .slice none 0 0, .slice none 0 0] 29)
      rw [show ((w.alloc (.cells #[.int .i64 kd, .int .i64 o0, .int .i64 o1, .int .i64 o2, .int .i64 o3, .int .i64 o4, .int .i64 o5, .int .u32 wa, .int .u32 to, .slice A n c, .slice B m d] 29)).alloc (.cells #[.int .i64 op, .int .i64 1, .int .i64 phase, .int .i64 old, .int .i64 since, .int .i64 left, .bool awoke, .bool starve, .int .i64 need, .bool front] 31)).heap.size = w.heap.size + 2 by simp [Nat.add_assoc]] at h0
      rw [← hw1]
      rw [heap_alloc_old _ _ (by simp <;> omega), heap_alloc_old _ _ (by simp <;> omega)]; exact h0
    have hv3 : w1.heap[w.heap.size + 3]? = some (.cells #[.int .i64 0, .int .i64 0, .int .i64 0, .int .i64 0, .int .i64 0, .int .i64 0, .bool false, .bool false, .int .i64 0, .bool false] 31) := by
      have h0 := heap_alloc_new (((w.alloc (.cells #[.int .i64 kd, .int .i64 o0, .int .i64 o1, .int .i64 o2, .int .i64 o3, .int .i64 o4, .int .i64 o5, .int .u32 wa, .int .u32 to, .slice A n c, .slice B m d] 29)).alloc (.cells #[.int .i64 op, .int .i64 1, .int .i64 phase, .int .i64 old, .int .i64 since, .int .i64 left, .bool awoke, .bool starve, .int .i64 need, .bool front] 31)).alloc (.cells #[.int .i64 0, .int .i64 0, .int .i64 0, .int .i64 0, .int .i64 0, .int .i64 0, .int .i64 0, .int .u32 0, .int .u32 0, .slice none 0 0, .slice none 0 0] 29)) (.cells #[.int .i64 0, .int .i64 0, .int .i64 0, .int .i64 0, .int .i64 0, .int .i64 0, .bool false, .bool false, .int .i64 0, .bool false] 31)
      rw [show (((w.alloc (.cells #[.int .i64 kd, .int .i64 o0, .int .i64 o1, .int .i64 o2, .int .i64 o3, .int .i64 o4, .int .i64 o5, .int .u32 wa, .int .u32 to, .slice A n c, .slice B m d] 29)).alloc (.cells #[.int .i64 op, .int .i64 1, .int .i64 phase, .int .i64 old, .int .i64 since, .int .i64 left, .bool awoke, .bool starve, .int .i64 need, .bool front] 31)).alloc (.cells #[.int .i64 0, .int .i64 0, .int .i64 0, .int .i64 0, .int .i64 0, .int .i64 0, .int .i64 0, .int .u32 0, .int .u32 0, .slice none 0 0, .slice none 0 0] 29)).heap.size = w.heap.size + 3 by simp [Nat.add_assoc]] at h0
      rw [← hw1]
      rw [heap_alloc_old _ _ (by simp <;> omega)]; exact h0
    have hv4 : w1.heap[w.heap.size + 4]? = some (.cells #[.bool false, .bool false, .bool false, .int .i64 0, .int .i64 0, .int .u64 0, .slice none 0 0] 39) := by
      have h0 := heap_alloc_new ((((w.alloc (.cells #[.int .i64 kd, .int .i64 o0, .int .i64 o1, .int .i64 o2, .int .i64 o3, .int .i64 o4, .int .i64 o5, .int .u32 wa, .int .u32 to, .slice A n c, .slice B m d] 29)).alloc (.cells #[.int .i64 op, .int .i64 1, .int .i64 phase, .int .i64 old, .int .i64 since, .int .i64 left, .bool awoke, .bool starve, .int .i64 need, .bool front] 31)).alloc (.cells #[.int .i64 0, .int .i64 0, .int .i64 0, .int .i64 0, .int .i64 0, .int .i64 0, .int .i64 0, .int .u32 0, .int .u32 0, .slice none 0 0, .slice none 0 0] 29)).alloc (.cells #[.int .i64 0, .int .i64 0, .int .i64 0, .int .i64 0, .int .i64 0, .int .i64 0, .bool false, .bool false, .int .i64 0, .bool false] 31)) (.cells #[.bool false, .bool false, .bool false, .int .i64 0, .int .i64 0, .int .u64 0, .slice none 0 0] 39)
      rw [show ((((w.alloc (.cells #[.int .i64 kd, .int .i64 o0, .int .i64 o1, .int .i64 o2, .int .i64 o3, .int .i64 o4, .int .i64 o5, .int .u32 wa, .int .u32 to, .slice A n c, .slice B m d] 29)).alloc (.cells #[.int .i64 op, .int .i64 1, .int .i64 phase, .int .i64 old, .int .i64 since, .int .i64 left, .bool awoke, .bool starve, .int .i64 need, .bool front] 31)).alloc (.cells #[.int .i64 0, .int .i64 0, .int .i64 0, .int .i64 0, .int .i64 0, .int .i64 0, .int .i64 0, .int .u32 0, .int .u32 0, .slice none 0 0, .slice none 0 0] 29)).alloc (.cells #[.int .i64 0, .int .i64 0, .int .i64 0, .int .i64 0, .int .i64 0, .int .i64 0, .bool false, .bool false, .int .i64 0, .bool false] 31)).heap.size = w.heap.size + 4 by simp [Nat.add_assoc]] at h0
      rw [← hw1]
      exact h0
    replace HB := Lib.hid (And.intro (HB.out.1.trans (hb.mono HB.out.2)) (Nat.le_trans HB.out.2 hb.size))
    have Vo := Lib.hid hv0
    have geo := gq
    have Vf := Lib.hid hv1
    have neo_f : w.heap.size ≠ w.heap.size + 1 := by omega
    have gef : _ ≤ w.heap.size + 1 := Nat.le_trans gq (Nat.le_add_right _ 1)
    have Vro := Lib.hid hv2
    have neo_ro : w.heap.size ≠ w.heap.size + 2 := by omega
    have nef_ro : w.heap.size + 1 ≠ w.heap.size + 2 := by omega
    have gero : _ ≤ w.heap.size + 2 := Nat.le_trans gq (Nat.le_add_right _ 2)
    have Vrf := Lib.hid hv3
    have neo_rf : w.heap.size ≠ w.heap.size + 3 := by omega
    have nef_rf : w.heap.size + 1 ≠ w.heap.size + 3 := by omega
    have nero_rf : w.heap.size + 2 ≠ w.heap.size + 3 := by omega
    have gerf : _ ≤ w.heap.size + 3 := Nat.le_trans gq (Nat.le_add_right _ 3)
    have Vra := Lib.hid hv4
    have neo_ra : w.heap.size ≠ w.heap.size + 4 := by omega
    have nef_ra : w.heap.size + 1 ≠ w.heap.size + 4 := by omega
    have nero_ra : w.heap.size + 2 ≠ w.heap.size + 4 := by omega
    have nerf_ra : w.heap.size + 3 ≠ w.heap.size + 4 := by omega
    have gera : _ ≤ w.heap.size + 4 := Nat.le_trans gq (Nat.le_add_right _ 4)
    generalize hso : w.heap.size = so at *
    clear hb gq hv0 hv1 hv2 hv3 hv4
    subst hso
    go_enter Try.func8, Try.ntmps8
    have co := row11 Vo.out
    have cf := row10 Vf.out
    go_wp2_with fail
    refine (LC.out _).mono ?_
    rintro e w2 ⟨rfl, hb⟩
    clear co cf
    replace Vo := Lib.hid (blk_below Vo.out hb (blk_lt Vo.out))
    replace Vf := Lib.hid (blk_below Vf.out hb (blk_lt Vf.out))
    replace Vro := Lib.hid (blk_below Vro.out hb (blk_lt Vro.out))
    replace Vrf := Lib.hid (blk_below Vrf.out hb (blk_lt Vrf.out))
    replace Vra := Lib.hid (blk_below Vra.out hb (blk_lt Vra.out))
    replace HB := Lib.hid (And.intro (HB.out.1.trans (hb.mono HB.out.2)) (Nat.le_trans HB.out.2 hb.size))
    clear hb
    have lto := blk_lt Vo.out
    have ltf := blk_lt Vf.out
    have ltro := blk_lt Vro.out
    have ltrf := blk_lt Vrf.out
    have ltra := blk_lt Vra.out
    have gq := HB.out.2
    obtain ⟨w3, hw3⟩ : ∃ W, (((w2.alloc (.cells #[.int .i64 kd, .int .i64 z, .int .i64 o1, .int .i64 o2, .int .i64 o3, .int .i64 o4, .int .i64 o5, .int .u32 wa, .int .u32 to, .slice A n c, .slice B m d] 29)).alloc (.cells #[.int .i64 gop, .int .i64 gstage, .int .i64 gphase, .int .i64 gold, .int .i64 gsince, .int .i64 gleft, .bool gawoke, .bool gstarve, .int .i64 gneed, .bool gfront] 31)).alloc (.cells #[.bool true, .bool false, .bool ghd, .int .i64 ggv, .int .i64 gft, .int .u64 0, .slice WA wn wc] 39)) = W := ⟨_, rfl⟩
    have hb : Below w2.heap.size w2 w3 := hw3 ▸ ((((Below.refl _ _).alloc (Nat.le_refl _) _).alloc (by first | (simp; done) | (simp; omega)) _).alloc (by first | (simp; done) | (simp; omega)) _)
    have hv0 : w3.heap[w2.heap.size]? = some (.cells #[.int .i64 kd, .int .i64 z, .int .i64 o1, .int .i64 o2, .int .i64 o3, .int .i64 o4, .int .i64 o5, .int .u32 wa, .int .u32 to, .slice A n c, .slice B m d] 29) := by
      have h0 := heap_alloc_new w2 (.cells #[.int .i64 kd, .int .i64 z, .int .i64 o1, .int .i64 o2, .int .i64 o3, .int .i64 o4, .int .i64 o5, .int .u32 wa, .int .u32 to, .slice A n c, .slice B m d] 29)
      rw [show w2.heap.size = w2.heap.size by simp [Nat.add_assoc]] at h0
      rw [← hw3]
      rw [heap_alloc_old _ _ (by simp <;> omega), heap_alloc_old _ _ (by simp <;> omega)]; exact h0
    have hv1 : w3.heap[w2.heap.size + 1]? = some (.cells #[.int .i64 gop, .int .i64 gstage, .int .i64 gphase, .int .i64 gold, .int .i64 gsince, .int .i64 gleft, .bool gawoke, .bool gstarve, .int .i64 gneed, .bool gfront] 31) := by
      have h0 := heap_alloc_new (w2.alloc (.cells #[.int .i64 kd, .int .i64 z, .int .i64 o1, .int .i64 o2, .int .i64 o3, .int .i64 o4, .int .i64 o5, .int .u32 wa, .int .u32 to, .slice A n c, .slice B m d] 29)) (.cells #[.int .i64 gop, .int .i64 gstage, .int .i64 gphase, .int .i64 gold, .int .i64 gsince, .int .i64 gleft, .bool gawoke, .bool gstarve, .int .i64 gneed, .bool gfront] 31)
      rw [show (w2.alloc (.cells #[.int .i64 kd, .int .i64 z, .int .i64 o1, .int .i64 o2, .int .i64 o3, .int .i64 o4, .int .i64 o5, .int .u32 wa, .int .u32 to, .slice A n c, .slice B m d] 29)).heap.size = w2.heap.size + 1 by simp [Nat.add_assoc]] at h0
      rw [← hw3]
      rw [heap_alloc_old _ _ (by simp <;> omega)]; exact h0
    have hv2 : w3.heap[w2.heap.size + 2]? = some (.cells #[.bool true, .bool false, .bool ghd, .int .i64 ggv, .int .i64 gft, .int .u64 0, .slice WA wn wc] 39) := by
      have h0 := heap_alloc_new ((w2.alloc (.cells #[.int .i64 kd, .int .i64 z, .int .i64 o1, .int .i64 o2, .int .i64 o3, .int .i64 o4, .int .i64 o5, .int .u32 wa, .int .u32 to, .slice A n c, .slice B m d] 29)).alloc (.cells #[.int .i64 gop, .int .i64 gstage, .int .i64 gphase, .int .i64 gold, .int .i64 gsince, .int .i64 gleft, .bool gawoke, .bool gstarve, .int .i64 gneed, .bool gfront] 31)) (.cells #[.bool true, .bool false, .bool ghd, .int .i64 ggv, .int .i64 gft, .int .u64 0, .slice WA wn wc] 39)
      rw [show ((w2.alloc (.cells #[.int .i64 kd, .int .i64 z, .int .i64 o1, .int .i64 o2, .int .i64 o3, .int .i64 o4, .int .i64 o5, .int .u32 wa, .int .u32 to, .slice A n c, .slice B m d] 29)).alloc (.cells #[.int .i64 gop, .int .i64 gstage, .int .i64 gphase, .int .i64 gold, .int .i64 gsince, .int .i64 gleft, .bool gawoke, .bool gstarve, .int .i64 gneed, .bool gfront] 31)).heap.size = w2.heap.size + 2 by simp [Nat.add_assoc]] at h0
      rw [← hw3]
      exact h0
    replace Vo := Lib.hid (blk_below Vo.out hb (blk_lt Vo.out))
    replace Vf := Lib.hid (blk_below Vf.out hb (blk_lt Vf.out))
    replace Vro := Lib.hid (blk_below Vro.out hb (blk_lt Vro.out))
    replace Vrf := Lib.hid (blk_below Vrf.out hb (blk_lt Vrf.out))
    replace Vra := Lib.hid (blk_below Vra.out hb (blk_lt Vra.out))
    replace HB := Lib.hid (And.intro (HB.out.1.trans (hb.mono HB.out.2)) (Nat.le_trans HB.out.2 hb.size))
    have Vx := Lib.hid hv0
    have neo_x := Nat.ne_of_lt lto
    have nef_x := Nat.ne_of_lt ltf
    have nero_x := Nat.ne_of_lt ltro
    have nerf_x := Nat.ne_of_lt ltrf
    have nera_x := Nat.ne_of_lt ltra
    have gex := gq
    have Vg := Lib.hid hv1
    have neo_g := Nat.ne_of_lt (Nat.lt_of_lt_of_le lto (Nat.le_add_right w2.heap.size 1))
    have nef_g := Nat.ne_of_lt (Nat.lt_of_lt_of_le ltf (Nat.le_add_right w2.heap.size 1))
    have nero_g := Nat.ne_of_lt (Nat.lt_of_lt_of_le ltro (Nat.le_add_right w2.heap.size 1))
    have nerf_g := Nat.ne_of_lt (Nat.lt_of_lt_of_le ltrf (Nat.le_add_right w2.heap.size 1))
    have nera_g := Nat.ne_of_lt (Nat.lt_of_lt_of_le ltra (Nat.le_add_right w2.heap.size 1))
    have nex_g : w2.heap.size ≠ w2.heap.size + 1 := by omega
    have geg : _ ≤ w2.heap.size + 1 := Nat.le_trans gq (Nat.le_add_right _ 1)
    have Vu := Lib.hid hv2
    have neo_u := Nat.ne_of_lt (Nat.lt_of_lt_of_le lto (Nat.le_add_right w2.heap.size 2))
    have nef_u := Nat.ne_of_lt (Nat.lt_of_lt_of_le ltf (Nat.le_add_right w2.heap.size 2))
    have nero_u := Nat.ne_of_lt (Nat.lt_of_lt_of_le ltro (Nat.le_add_right w2.heap.size 2))
    have nerf_u := Nat.ne_of_lt (Nat.lt_of_lt_of_le ltrf (Nat.le_add_right w2.heap.size 2))
    have nera_u := Nat.ne_of_lt (Nat.lt_of_lt_of_le ltra (Nat.le_add_right w2.heap.size 2))
    have nex_u : w2.heap.size ≠ w2.heap.size + 2 := by omega
    have neg_u : w2.heap.size + 1 ≠ w2.heap.size + 2 := by omega
    have geu : _ ≤ w2.heap.size + 2 := Nat.le_trans gq (Nat.le_add_right _ 2)
    generalize hsx : w2.heap.size = sx at *
    clear hb gq hv0 hv1 hv2 lto ltf ltro ltrf ltra
    have cu := row7 Vu.out
    have co := row11 Vo.out
    have cf := row10 Vf.out
    go_wp2
    clear cu co cf
    obtain ⟨we, hwe⟩ : ∃ W, (w3).drew = W := ⟨_, rfl⟩
    have hb : Below (w3).heap.size (w3) we := hwe ▸ (Below.refl _ _).drew
    replace Vo := Lib.hid (blk_below Vo.out hb (blk_lt Vo.out))
    replace Vf := Lib.hid (blk_below Vf.out hb (blk_lt Vf.out))
    replace Vro := Lib.hid (blk_below Vro.out hb (blk_lt Vro.out))
    replace Vrf := Lib.hid (blk_below Vrf.out hb (blk_lt Vrf.out))
    replace Vra := Lib.hid (blk_below Vra.out hb (blk_lt Vra.out))
    replace Vx := Lib.hid (blk_below Vx.out hb (blk_lt Vx.out))
    replace Vg := Lib.hid (blk_below Vg.out hb (blk_lt Vg.out))
    replace Vu := Lib.hid (blk_below Vu.out hb (blk_lt Vu.out))
    replace HB := Lib.hid (And.intro (HB.out.1.trans (hb.mono HB.out.2)) (Nat.le_trans HB.out.2 hb.size))
    clear hb
    have S0 := Lib.hid (And.intro (Vx.out) (Vf.out))
    refine wp_region_noPanic ?_
    refine wp_region_held_drew (S := (fun wv => Hid (wv.heap[sx]? = some (.cells #[.int .i64 kd, .int .i64 z, .int .i64 o1, .int .i64 o2, .int .i64 o3, .int .i64 o4, .int .i64 o5, .int .u32 wa, .int .u32 to, .slice A n c, .slice B m d] 29) ∧ wv.heap[w.heap.size + 1]? = some (.cells #[.int .i64 op, .int .i64 1, .int .i64 phase, .int .i64 old, .int .i64 since, .int .i64 left, .bool awoke, .bool starve, .int .i64 need, .bool front] 31)))) (by kernel_rfl) ((by rw [hwe]; exact S0)) (fun hS => ?_)
    rw [hwe] at hS ⊢
    refine wpAnyH_take (i := 0) (oi := ⟨some 68, .load 29 (.tmp 11), 29, "ref.go:25", #[], none⟩) (v := .agg (([.int .i64 kd, .int .i64 z, .int .i64 o1, .int .i64 o2, .int .i64 o3, .int .i64 o4, .int .i64 o5, .int .u32 wa, .int .u32 to, .slice A n c, .slice B m d] : List Value)).toArray) rfl (by kernel_rfl) (by kernel_rfl) (by kernel_rfl) (fun _ _ _ h => h) (yieldsIf_load_mid (by rfl) _ _ (by rfl) (sx) (0) (by rfl) _ _ (fun wv hS => blk_rngl hS.out.1) Try.underlying29 (by rfl) (by kernel_rfl)) hS ?_
    try simp only [Act.put, List.setIfInBounds_toArray, List.set_cons_zero, List.set_cons_succ]
    refine wpAnyH_take (i := 1) (oi := ⟨some 69, .load 31 (.tmp 5), 31, "ref.go:25", #[], none⟩) (v := .agg (([.int .i64 op, .int .i64 1, .int .i64 phase, .int .i64 old, .int .i64 since, .int .i64 left, .bool awoke, .bool starve, .int .i64 need, .bool front] : List Value)).toArray) rfl (by kernel_rfl) (by kernel_rfl) (by kernel_rfl) (fun _ _ _ h => h) (yieldsIf_load_mid (by rfl) _ _ (by rfl) (w.heap.size + 1) (0) (by rfl) _ _ (fun wv hS => blk_rngl hS.out.2) Try.underlying31 (by rfl) (by kernel_rfl)) hS ?_
    try simp only [Act.put, List.setIfInBounds_toArray, List.set_cons_zero, List.set_cons_succ]
    refine wpAnyH_take (i := 3) (oi := ⟨some 71, .build 39 #[], 39, "ref.go:25", #[⟨5, .gcOnly .lateStores⟩], none⟩) (v := ?_) rfl (by kernel_rfl) (by kernel_rfl) (by kernel_rfl) (fun _ _ _ h => h) (Or.inl ⟨by rfl, ?_⟩) hS ?_
    rotate_left
    · intro wv _; go_simp; try with_reducible rfl
    try simp only [Act.put, List.setIfInBounds_toArray, List.set_cons_zero, List.set_cons_succ]
    refine wpAnyH_ready (rs := [2]) (by kernel_rfl) (by simp) (AllReadyH.cons (o := ⟨some 70, .call { callee := .value (.func 21), args := #[.tmp 69, .const (Value.int IntKind.i64 2)], argTypes := #[31, 3] }, 31, "ref.go:25", #[⟨1, .data⟩], none⟩) rfl (fun K hK => ?_) AllReadyH.nil)
    go_simp
    refine (stage16_any _ _ _ _ _ _ _ _ _ _ _ _).mono ?_; rintro e u2 ⟨rfl, hb⟩
    replace Vo := Lib.hid (blk_below Vo.out hb (blk_lt Vo.out))
    replace Vf := Lib.hid (blk_below Vf.out hb (blk_lt Vf.out))
    replace Vro := Lib.hid (blk_below Vro.out hb (blk_lt Vro.out))
    replace Vrf := Lib.hid (blk_below Vrf.out hb (blk_lt Vrf.out))
    replace Vra := Lib.hid (blk_below Vra.out hb (blk_lt Vra.out))
    replace Vx := Lib.hid (blk_below Vx.out hb (blk_lt Vx.out))
    replace Vg := Lib.hid (blk_below Vg.out hb (blk_lt Vg.out))
    replace Vu := Lib.hid (blk_below Vu.out hb (blk_lt Vu.out))
    replace HB := Lib.hid (And.intro (HB.out.1.trans (hb.mono HB.out.2)) (Nat.le_trans HB.out.2 hb.size))
    replace hS := Lib.hid (And.intro (Vx.out) (Vf.out))
    clear hb
    obtain ⟨w4, hw4⟩ : ∃ W, u2.setCells (w.heap.size + 2) 0 [.int .i64 kd, .int .i64 z, .int .i64 o1, .int .i64 o2, .int .i64 o3, .int .i64 o4, .int .i64 o5, .int .u32 wa, .int .u32 to, .slice A n c, .slice B m d] = W := ⟨_, rfl⟩
    have thro := Lib.hid (there_blk Vro.out (k := 11) rfl)
    replace Vo := Lib.hid (stayS hw4 neo_ro Vo.out)
    replace Vf := Lib.hid (stayS hw4 nef_ro Vf.out)
    replace Vrf := Lib.hid (stayS hw4 nero_rf.symm Vrf.out)
    replace Vra := Lib.hid (stayS hw4 nero_ra.symm Vra.out)
    replace Vx := Lib.hid (stayS hw4 nero_x.symm Vx.out)
    replace Vg := Lib.hid (stayS hw4 nero_g.symm Vg.out)
    replace Vu := Lib.hid (stayS hw4 nero_u.symm Vu.out)
    replace Vro := Lib.hid (setS hw4 Vro.out rfl)
    replace HB := Lib.hid (belS hw4 gero HB.out)
    have S1 := Lib.hid (And.intro (Vx.out) (Vf.out))
    obtain ⟨w5, hw5⟩ : ∃ W, w4.setCells (w.heap.size + 3) 0 [.int .i64 op, .int .i64 2, .int .i64 0, .int .i64 0, .int .i64 (-1), .int .i64 0, .bool false, .bool false, .int .i64 0, .bool false] = W := ⟨_, rfl⟩
    have thrf := Lib.hid (there_blk Vrf.out (k := 10) rfl)
    replace Vo := Lib.hid (stayS hw5 neo_rf Vo.out)
    replace Vf := Lib.hid (stayS hw5 nef_rf Vf.out)
    replace Vro := Lib.hid (stayS hw5 nero_rf Vro.out)
    replace Vra := Lib.hid (stayS hw5 nerf_ra.symm Vra.out)
    replace Vx := Lib.hid (stayS hw5 nerf_x.symm Vx.out)
    replace Vg := Lib.hid (stayS hw5 nerf_g.symm Vg.out)
    replace Vu := Lib.hid (stayS hw5 nerf_u.symm Vu.out)
    replace Vrf := Lib.hid (setS hw5 Vrf.out rfl)
    replace HB := Lib.hid (belS hw5 gerf HB.out)
    have S2 := Lib.hid (And.intro (Vx.out) (Vf.out))
    obtain ⟨w6, hw6⟩ : ∃ W, w5.setCells (w.heap.size + 4) 0 [.bool false, .bool false, .bool false, .int .i64 0, .int .i64 0, .int .u64 0, .slice none 0 0] = W := ⟨_, rfl⟩
    have thra := Lib.hid (there_blk Vra.out (k := 7) rfl)
    replace Vo := Lib.hid (stayS hw6 neo_ra Vo.out)
    replace Vf := Lib.hid (stayS hw6 nef_ra Vf.out)
    replace Vro := Lib.hid (stayS hw6 nero_ra Vro.out)
    replace Vrf := Lib.hid (stayS hw6 nerf_ra Vrf.out)
    replace Vx := Lib.hid (stayS hw6 nera_x.symm Vx.out)
    replace Vg := Lib.hid (stayS hw6 nera_g.symm Vg.out)
    replace Vu := Lib.hid (stayS hw6 nera_u.symm Vu.out)
    replace Vra := Lib.hid (setS hw6 Vra.out rfl)
    replace HB := Lib.hid (belS hw6 gera HB.out)
    have S3 := Lib.hid (And.intro (Vx.out) (Vf.out))
    go_wp2_with fail
    refine Shut.out hK _ _ hS (fun _ => ?_)
    clear hK K
    try simp only [Act.put, List.setIfInBounds_toArray, List.set_cons_zero, List.set_cons_succ]
    refine wpAnyH_ready (rs := [4]) (by kernel_rfl) (by simp) (AllReadyH.cons (o := ⟨none, .store 29 (.tmp 8) (.tmp 68), 0, "ref.go:25", #[⟨0, .data⟩, ⟨2, .chain⟩, ⟨0, .phase⟩, ⟨1, .textOnly .lateStores⟩, ⟨2, .textOnly .lateStoresUnsure⟩, ⟨3, .textOnly .lateStores⟩], none⟩) rfl (fun K hK => ?_) AllReadyH.nil)
    refine op_storeS (by rfl) rfl rfl rfl thro.out (by kernel_rfl) (by simp [Value.oneCell']) hw4 ?_
    replace hS := S1
    refine Shut.out hK _ _ hS (fun _ => ?_)
    clear hK K
    try simp only [Act.put, List.setIfInBounds_toArray, List.set_cons_zero, List.set_cons_succ]
    refine wpAnyH_ready (rs := [5]) (by kernel_rfl) (by simp) (AllReadyH.cons (o := ⟨none, .store 31 (.tmp 9) (.tmp 70), 0, "ref.go:25", #[⟨2, .data⟩, ⟨4, .chain⟩, ⟨0, .phase⟩, ⟨1, .phase⟩, ⟨2, .phase⟩, ⟨3, .textOnly .lateStores⟩, ⟨4, .phase⟩], none⟩) rfl (fun K hK => ?_) AllReadyH.nil)
    refine op_storeS (by rfl) rfl rfl rfl thrf.out (by kernel_rfl) (by simp [Value.oneCell']) hw5 ?_
    replace hS := S2
    refine Shut.out hK _ _ hS (fun _ => ?_)
    clear hK K
    try simp only [Act.put, List.setIfInBounds_toArray, List.set_cons_zero, List.set_cons_succ]
    refine wpAnyH_ready (rs := [6]) (by kernel_rfl) (by simp) (AllReadyH.cons (o := ⟨none, .store 39 (.tmp 10) (.tmp 71), 0, "ref.go:25", #[⟨3, .data⟩, ⟨5, .chain⟩, ⟨0, .phase⟩, ⟨1, .phase⟩, ⟨2, .phase⟩, ⟨3, .phase⟩, ⟨4, .phase⟩, ⟨5, .phase⟩], none⟩) rfl (fun K hK => ?_) AllReadyH.nil)
    refine op_storeS (by rfl) rfl rfl rfl thra.out (by kernel_rfl) (by simp [Value.oneCell']) hw6 ?_
    replace hS := S3
    refine Shut.out hK _ _ hS (fun _ => ?_)
    clear hK K
    try simp only [Act.put, List.setIfInBounds_toArray, List.set_cons_zero, List.set_cons_succ]
    refine wpAnyH_done (by kernel_rfl) ?_ _
    refine NoPanic.normal ?_
    clear hS S0 S1 S2 S3 thro thrf thra
    go_wp2
    refine bodyPost_ret (res_ccc Try.results8 (by rfl) (by rfl) (by rfl) (load_blk Vro.out Try.underlying29 (by kernel_rfl)) (load_blk Vrf.out Try.underlying31 (by kernel_rfl)) (load_blk Vra.out Try.underlying39 (by kernel_rfl))) rfl ?_
    rw [HE.out]
    exact ⟨rfl, HB.out.1⟩
set_option maxRecDepth 100000 in
set_option maxHeartbeats 16000000 in
theorem once18_any (kd o0 o1 o2 o3 o4 o5 wa to : Int) (A : Option Addr) (n c : Nat) (B : Option Addr) (m d : Nat) (f : MFr) (now pat : Int) (w : World) : Calls Try.prog 8 #[obV kd o0 o1 o2 o3 o4 o5 wa to A n c B m d, frV f, .int .i64 now, .int .i64 pat] w (StepN w kd o1 o3 o4 o5 wa to A n c B m d (onceW o0 o2 f now pat)) := by
  by_cases hz : f.stage = 1
  · exact once18_one kd o0 o1 o2 o3 o4 o5 wa to A n c B m d f hz now pat w
  obtain ⟨op, stage, phase, old, since, left, awoke, starve, need, front⟩ := f
  have s1 : ¬ stage = 1 := hz
  clear hz
  have n1 : (stage == 1) = false := by simp [s1]
  unfold obV frV frC
  simp only
  obtain ⟨v1, hv1, z1, v2, hv2, z2, v3, hv3, z3, v4, hv4, z4, v5, hv5, z5, F⟩ := boxes5 w (.cells #[.int .i64 kd, .int .i64 o0, .int .i64 o1, .int .i64 o2, .int .i64 o3, .int .i64 o4, .int .i64 o5, .int .u32 wa, .int .u32 to, .slice A n c, .slice B m d] 29) (.cells #[.int .i64 op, .int .i64 stage, .int .i64 phase, .int .i64 old, .int .i64 since, .int .i64 left, .bool awoke, .bool starve, .int .i64 need, .bool front] 31) (.cells #[.int .i64 0, .int .i64 0, .int .i64 0, .int .i64 0, .int .i64 0, .int .i64 0, .int .i64 0, .int .u32 0, .int .u32 0, .slice none 0 0, .slice none 0 0] 29) (.cells #[.int .i64 0, .int .i64 0, .int .i64 0, .int .i64 0, .int .i64 0, .int .i64 0, .bool false, .bool false, .int .i64 0, .bool false] 31) (.cells #[.bool false, .bool false, .bool false, .int .i64 0, .int .i64 0, .int .u64 0, .slice none 0 0] 39)
  generalize hq : w.heap.size = q at *
  have FR := Lib.hid F
  clear F
  by_cases s0 : stage = 0
  · subst s0
    clear s1 n1
    by_cases h0 : o2 = 1
    · have c0 : (o2 == 1) = true := by simp [h0]
      have HE := Lib.hid (show onceW o0 o2 ⟨op, 0, phase, old, since, left, awoke, starve, need, front⟩ now pat = ((o0, o2), noF, doneA, 0) from by
        unfold onceW
        exact if_pos ⟨rfl, h0⟩)
      clear h0
      go_enter Try.func8, Try.ntmps8
      have ac0 := row11 (b := q) (FR.out.at 0 rfl rfl)
      have ac1 := row10 (b := q + 1) (FR.out.at 1 rfl rfl)
      obtain ⟨mw6r, w6r, hw6r, hse, F⟩ := FR.out.put11 2 rfl (b := q + 2) rfl (.int .i64 kd) (.int .i64 o0) (.int .i64 o1) (.int .i64 o2) (.int .i64 o3) (.int .i64 o4) (.int .i64 o5) (.int .u32 wa) (.int .u32 to) (.slice A n c) (.slice B m d)
      replace FR := F
      clear F hse
      obtain ⟨mw7r, w7r, hw7r, hse, F⟩ := FR.out.put10 3 rfl (b := q + 3) rfl (.int .i64 0) (.int .i64 0) (.int .i64 0) (.int .i64 0) (.int .i64 0) (.int .i64 0) (.bool false) (.bool false) (.int .i64 0) (.bool false)
      replace FR := F
      clear F hse
      obtain ⟨mw8r, w8r, hw8r, hse, F⟩ := FR.out.put7 4 rfl (b := q + 4) rfl (.bool true) (.bool false) (.bool false) (.int .i64 0) (.int .i64 0) (.int .u64 0) (.slice none 0 0)
      replace FR := F
      clear F hse
      go_wp2
      refine bodyPost_ret (res_ccc Try.results8 (by rfl) (by rfl) (by rfl) (FR.out.load 2 rfl rfl Try.underlying29 (by kernel_rfl)) (FR.out.load 3 rfl rfl Try.underlying31 (by kernel_rfl)) (FR.out.load 4 rfl rfl Try.underlying39 (by kernel_rfl))) rfl ?_
      rw [HE.out]
      exact ⟨rfl, FR.out.out⟩
    · have c0 : (o2 == 1) = false := by simp [h0]
      have HE := Lib.hid (show onceW o0 o2 ⟨op, 0, phase, old, since, left, awoke, starve, need, front⟩ now pat = ((o0, o2), ⟨op, 1, 0, old, since, left, awoke, starve, need, front⟩, noA, 0) from by
        unfold onceW
        rw [if_neg (fun h => h0 h.2), if_neg (fun h => (show ¬ ((0 : Int) = 2) by decide) h.1), if_pos rfl])
      clear h0
      go_enter Try.func8, Try.ntmps8
      have ac0 := row11 (b := q) (FR.out.at 0 rfl rfl)
      have ac1 := row10 (b := q + 1) (FR.out.at 1 rfl rfl)
      have af11 : v5.frozen? ⟨q + 1, 1, none⟩ = false := FR.out.frozen 1 1 rfl rfl
      have af12 : v5.frozen? ⟨q + 1, 2, none⟩ = false := FR.out.frozen 1 2 rfl rfl
      obtain ⟨w6p, hw6p⟩ : ∃ W, ((v5.setCell ⟨q + 1, 1, none⟩ (.int .i64 1)).setCell ⟨q + 1, 2, none⟩ (.int .i64 0)) = W := ⟨_, rfl⟩
      replace FR := Lib.hid ((((FR.out.set 1 1 rfl rfl (.int .i64 1)).set 1 2 rfl rfl (.int .i64 0))).eqw hw6p)
      have bc0 := row11 (b := q) (FR.out.at 0 rfl rfl)
      have bc1 := row10 (b := q + 1) (FR.out.at 1 rfl rfl)
      go_wp2
      clear ac0 ac1 af11 af12 bc0 bc1
      have HF0 := Lib.hid FR.out.drew
      obtain ⟨w7r, hw7r⟩ : ∃ W, w6p.drew.setCells (q + 2) 0 [.int .i64 kd, .int .i64 o0, .int .i64 o1, .int .i64 o2, .int .i64 o3, .int .i64 o4, .int .i64 o5, .int .u32 wa, .int .u32 to, .slice A n c, .slice B m d] = W := ⟨_, rfl⟩
      have HF1 := Lib.hid ((HF0.out.all 2 rfl rfl (by rfl)).eqw hw7r)
      have hh1 := Lib.hid hw7r
      clear hw7r
      obtain ⟨w8r, hw8r⟩ : ∃ W, w7r.setCells (q + 3) 0 [.int .i64 op, .int .i64 1, .int .i64 0, .int .i64 old, .int .i64 since, .int .i64 left, .bool awoke, .bool starve, .int .i64 need, .bool front] = W := ⟨_, rfl⟩
      have HF2 := Lib.hid ((HF1.out.all 3 rfl rfl (by rfl)).eqw hw8r)
      have hh2 := Lib.hid hw8r
      clear hw8r
      obtain ⟨w9r, hw9r⟩ : ∃ W, w8r.setCells (q + 4) 0 [.bool false, .bool false, .bool false, .int .i64 0, .int .i64 0, .int .u64 0, .slice none 0 0] = W := ⟨_, rfl⟩
      have HF3 := Lib.hid ((HF2.out.all 4 rfl rfl (by rfl)).eqw hw9r)
      have hh3 := Lib.hid hw9r
      clear hw9r
      refine wp_region_noPanic ?_
      refine wp_region_held_drew (S := (fun wv => Hid (wv.heap[q]? = some (.cells #[.int .i64 kd, .int .i64 o0, .int .i64 o1, .int .i64 o2, .int .i64 o3, .int .i64 o4, .int .i64 o5, .int .u32 wa, .int .u32 to, .slice A n c, .slice B m d] 29) ∧ wv.heap[q + 1]? = some (.cells #[.int .i64 op, .int .i64 1, .int .i64 0, .int .i64 old, .int .i64 since, .int .i64 left, .bool awoke, .bool starve, .int .i64 need, .bool front] 31)))) (by kernel_rfl) (Lib.hid (And.intro (HF0.out.blk 0 _ rfl) (HF0.out.blk 1 _ rfl))) (fun hS => ?_)
      refine wpAnyH_take (i := 0) (oi := ⟨some 51, .load 29 (.tmp 4), 29, "ref.go:20", #[], none⟩) (v := .agg (([.int .i64 kd, .int .i64 o0, .int .i64 o1, .int .i64 o2, .int .i64 o3, .int .i64 o4, .int .i64 o5, .int .u32 wa, .int .u32 to, .slice A n c, .slice B m d] : List Value)).toArray) rfl (by kernel_rfl) (by kernel_rfl) (by kernel_rfl) (fun _ _ _ h => h) (yieldsIf_load_mid (by rfl) _ _ (by rfl) (q) (0) (by rfl) _ _ (fun wv hS => blk_rngl hS.out.1) Try.underlying29 (by rfl) (by kernel_rfl)) hS ?_
      try simp only [Act.put, List.setIfInBounds_toArray, List.set_cons_zero, List.set_cons_succ]
      refine wpAnyH_take (i := 1) (oi := ⟨some 52, .load 31 (.tmp 5), 31, "ref.go:20", #[⟨3, .gcOnly .lateStores⟩], none⟩) (v := .agg (([.int .i64 op, .int .i64 1, .int .i64 0, .int .i64 old, .int .i64 since, .int .i64 left, .bool awoke, .bool starve, .int .i64 need, .bool front] : List Value)).toArray) rfl (by kernel_rfl) (by kernel_rfl) (by kernel_rfl) (fun _ _ _ h => h) (yieldsIf_load_mid (by rfl) _ _ (by rfl) (q + 1) (0) (by rfl) _ _ (fun wv hS => blk_rngl hS.out.2) Try.underlying31 (by rfl) (by kernel_rfl)) hS ?_
      try simp only [Act.put, List.setIfInBounds_toArray, List.set_cons_zero, List.set_cons_succ]
      refine wpAnyH_take (i := 2) (oi := ⟨some 53, .build 39 #[], 39, "ref.go:20", #[⟨4, .gcOnly .lateStores⟩], none⟩) (v := ?_) rfl (by kernel_rfl) (by kernel_rfl) (by kernel_rfl) (fun _ _ _ h => h) (Or.inl ⟨by rfl, ?_⟩) hS ?_
      rotate_left
      · intro wv _; go_simp; try with_reducible rfl
      try simp only [Act.put, List.setIfInBounds_toArray, List.set_cons_zero, List.set_cons_succ]
      refine wpAnyH_ready (rs := [3]) (by kernel_rfl) (by simp) (AllReadyH.cons (o := ⟨none, .store 29 (.tmp 8) (.tmp 51), 0, "ref.go:20", #[⟨0, .data⟩, ⟨0, .phase⟩, ⟨1, .textOnly .lateStores⟩, ⟨2, .textOnly .lateStores⟩], none⟩) rfl (fun K hK => ?_) AllReadyH.nil)
      refine op_storeS (by rfl) rfl rfl rfl (there_blk (HF0.out.blk 2 _ rfl) rfl) (by kernel_rfl) (by simp [Value.oneCell']) hh1.out ?_
      replace hS := Lib.hid (And.intro (HF1.out.blk 0 _ rfl) (HF1.out.blk 1 _ rfl))
      refine Shut.out hK _ _ hS (fun _ => ?_)
      clear hK K
      try simp only [Act.put, List.setIfInBounds_toArray, List.set_cons_zero, List.set_cons_succ]
      refine wpAnyH_ready (rs := [4]) (by kernel_rfl) (by simp) (AllReadyH.cons (o := ⟨none, .store 31 (.tmp 9) (.tmp 52), 0, "ref.go:20", #[⟨1, .data⟩, ⟨3, .chain⟩, ⟨0, .phase⟩, ⟨1, .phase⟩, ⟨2, .textOnly .lateStores⟩, ⟨3, .phase⟩], none⟩) rfl (fun K hK => ?_) AllReadyH.nil)
      refine op_storeS (by rfl) rfl rfl rfl (there_blk (HF1.out.blk 3 _ rfl) rfl) (by kernel_rfl) (by simp [Value.oneCell']) hh2.out ?_
      replace hS := Lib.hid (And.intro (HF2.out.blk 0 _ rfl) (HF2.out.blk 1 _ rfl))
      refine Shut.out hK _ _ hS (fun _ => ?_)
      clear hK K
      try simp only [Act.put, List.setIfInBounds_toArray, List.set_cons_zero, List.set_cons_succ]
      refine wpAnyH_ready (rs := [5]) (by kernel_rfl) (by simp) (AllReadyH.cons (o := ⟨none, .store 39 (.tmp 10) (.tmp 53), 0, "ref.go:20", #[⟨2, .data⟩, ⟨4, .chain⟩, ⟨0, .phase⟩, ⟨1, .phase⟩, ⟨2, .phase⟩, ⟨3, .phase⟩, ⟨4, .phase⟩], none⟩) rfl (fun K hK => ?_) AllReadyH.nil)
      refine op_storeS (by rfl) rfl rfl rfl (there_blk (HF2.out.blk 4 _ rfl) rfl) (by kernel_rfl) (by simp [Value.oneCell']) hh3.out ?_
      replace hS := Lib.hid (And.intro (HF3.out.blk 0 _ rfl) (HF3.out.blk 1 _ rfl))
      refine Shut.out hK _ _ hS (fun _ => ?_)
      clear hK K
      try simp only [Act.put, List.setIfInBounds_toArray, List.set_cons_zero, List.set_cons_succ]
      refine wpAnyH_done (by kernel_rfl) ?_ _
      refine NoPanic.normal ?_
      go_wp2
      refine bodyPost_ret (res_ccc Try.results8 (by rfl) (by rfl) (by rfl) (HF3.out.load 2 rfl rfl Try.underlying29 (by kernel_rfl)) (HF3.out.load 3 rfl rfl Try.underlying31 (by kernel_rfl)) (HF3.out.load 4 rfl rfl Try.underlying39 (by kernel_rfl))) rfl ?_
      replace FR := HF3
      rw [HE.out]
      exact ⟨rfl, FR.out.out⟩
  have n0 : (stage == 0) = false := by simp [s0]
  by_cases s2 : stage = 2
  · subst s2
    clear s0 n0 s1 n1
    by_cases h0 : o2 = 1
    · have c0 : (o2 != 1) = false := by simp [h0]
      have HE := Lib.hid (show onceW o0 o2 ⟨op, 2, phase, old, since, left, awoke, starve, need, front⟩ now pat = ((o0, o2), ⟨op, 3, 0, old, since, left, awoke, starve, need, front⟩, noA, 0) from by
        unfold onceW
        rw [if_neg (fun h => (show ¬ ((2 : Int) = 0) by decide) h.1), if_neg (fun h => h.2 h0), if_neg (show ¬ ((2 : Int) = 0) by decide), if_pos rfl])
      clear h0
      go_enter Try.func8, Try.ntmps8
      have ac0 := row11 (b := q) (FR.out.at 0 rfl rfl)
      have ac1 := row10 (b := q + 1) (FR.out.at 1 rfl rfl)
      have af11 : v5.frozen? ⟨q + 1, 1, none⟩ = false := FR.out.frozen 1 1 rfl rfl
      have af12 : v5.frozen? ⟨q + 1, 2, none⟩ = false := FR.out.frozen 1 2 rfl rfl
      obtain ⟨w6p, hw6p⟩ : ∃ W, ((v5.setCell ⟨q + 1, 1, none⟩ (.int .i64 3)).setCell ⟨q + 1, 2, none⟩ (.int .i64 0)) = W := ⟨_, rfl⟩
      replace FR := Lib.hid ((((FR.out.set 1 1 rfl rfl (.int .i64 3)).set 1 2 rfl rfl (.int .i64 0))).eqw hw6p)
      have bc0 := row11 (b := q) (FR.out.at 0 rfl rfl)
      have bc1 := row10 (b := q + 1) (FR.out.at 1 rfl rfl)
      go_wp2
      clear ac0 ac1 af11 af12 bc0 bc1
      have HF0 := Lib.hid FR.out.drew
      obtain ⟨w7r, hw7r⟩ : ∃ W, w6p.drew.setCells (q + 2) 0 [.int .i64 kd, .int .i64 o0, .int .i64 o1, .int .i64 o2, .int .i64 o3, .int .i64 o4, .int .i64 o5, .int .u32 wa, .int .u32 to, .slice A n c, .slice B m d] = W := ⟨_, rfl⟩
      have HF1 := Lib.hid ((HF0.out.all 2 rfl rfl (by rfl)).eqw hw7r)
      have hh1 := Lib.hid hw7r
      clear hw7r
      obtain ⟨w8r, hw8r⟩ : ∃ W, w7r.setCells (q + 3) 0 [.int .i64 op, .int .i64 3, .int .i64 0, .int .i64 old, .int .i64 since, .int .i64 left, .bool awoke, .bool starve, .int .i64 need, .bool front] = W := ⟨_, rfl⟩
      have HF2 := Lib.hid ((HF1.out.all 3 rfl rfl (by rfl)).eqw hw8r)
      have hh2 := Lib.hid hw8r
      clear hw8r
      obtain ⟨w9r, hw9r⟩ : ∃ W, w8r.setCells (q + 4) 0 [.bool false, .bool false, .bool false, .int .i64 0, .int .i64 0, .int .u64 0, .slice none 0 0] = W := ⟨_, rfl⟩
      have HF3 := Lib.hid ((HF2.out.all 4 rfl rfl (by rfl)).eqw hw9r)
      have hh3 := Lib.hid hw9r
      clear hw9r
      refine wp_region_noPanic ?_
      refine wp_region_held_drew (S := (fun wv => Hid (wv.heap[q]? = some (.cells #[.int .i64 kd, .int .i64 o0, .int .i64 o1, .int .i64 o2, .int .i64 o3, .int .i64 o4, .int .i64 o5, .int .u32 wa, .int .u32 to, .slice A n c, .slice B m d] 29) ∧ wv.heap[q + 1]? = some (.cells #[.int .i64 op, .int .i64 3, .int .i64 0, .int .i64 old, .int .i64 since, .int .i64 left, .bool awoke, .bool starve, .int .i64 need, .bool front] 31)))) (by kernel_rfl) (Lib.hid (And.intro (HF0.out.blk 0 _ rfl) (HF0.out.blk 1 _ rfl))) (fun hS => ?_)
      refine wpAnyH_take (i := 0) (oi := ⟨some 51, .load 29 (.tmp 4), 29, "ref.go:20", #[], none⟩) (v := .agg (([.int .i64 kd, .int .i64 o0, .int .i64 o1, .int .i64 o2, .int .i64 o3, .int .i64 o4, .int .i64 o5, .int .u32 wa, .int .u32 to, .slice A n c, .slice B m d] : List Value)).toArray) rfl (by kernel_rfl) (by kernel_rfl) (by kernel_rfl) (fun _ _ _ h => h) (yieldsIf_load_mid (by rfl) _ _ (by rfl) (q) (0) (by rfl) _ _ (fun wv hS => blk_rngl hS.out.1) Try.underlying29 (by rfl) (by kernel_rfl)) hS ?_
      try simp only [Act.put, List.setIfInBounds_toArray, List.set_cons_zero, List.set_cons_succ]
      refine wpAnyH_take (i := 1) (oi := ⟨some 52, .load 31 (.tmp 5), 31, "ref.go:20", #[⟨3, .gcOnly .lateStores⟩], none⟩) (v := .agg (([.int .i64 op, .int .i64 3, .int .i64 0, .int .i64 old, .int .i64 since, .int .i64 left, .bool awoke, .bool starve, .int .i64 need, .bool front] : List Value)).toArray) rfl (by kernel_rfl) (by kernel_rfl) (by kernel_rfl) (fun _ _ _ h => h) (yieldsIf_load_mid (by rfl) _ _ (by rfl) (q + 1) (0) (by rfl) _ _ (fun wv hS => blk_rngl hS.out.2) Try.underlying31 (by rfl) (by kernel_rfl)) hS ?_
      try simp only [Act.put, List.setIfInBounds_toArray, List.set_cons_zero, List.set_cons_succ]
      refine wpAnyH_take (i := 2) (oi := ⟨some 53, .build 39 #[], 39, "ref.go:20", #[⟨4, .gcOnly .lateStores⟩], none⟩) (v := ?_) rfl (by kernel_rfl) (by kernel_rfl) (by kernel_rfl) (fun _ _ _ h => h) (Or.inl ⟨by rfl, ?_⟩) hS ?_
      rotate_left
      · intro wv _; go_simp; try with_reducible rfl
      try simp only [Act.put, List.setIfInBounds_toArray, List.set_cons_zero, List.set_cons_succ]
      refine wpAnyH_ready (rs := [3]) (by kernel_rfl) (by simp) (AllReadyH.cons (o := ⟨none, .store 29 (.tmp 8) (.tmp 51), 0, "ref.go:20", #[⟨0, .data⟩, ⟨0, .phase⟩, ⟨1, .textOnly .lateStores⟩, ⟨2, .textOnly .lateStores⟩], none⟩) rfl (fun K hK => ?_) AllReadyH.nil)
      refine op_storeS (by rfl) rfl rfl rfl (there_blk (HF0.out.blk 2 _ rfl) rfl) (by kernel_rfl) (by simp [Value.oneCell']) hh1.out ?_
      replace hS := Lib.hid (And.intro (HF1.out.blk 0 _ rfl) (HF1.out.blk 1 _ rfl))
      refine Shut.out hK _ _ hS (fun _ => ?_)
      clear hK K
      try simp only [Act.put, List.setIfInBounds_toArray, List.set_cons_zero, List.set_cons_succ]
      refine wpAnyH_ready (rs := [4]) (by kernel_rfl) (by simp) (AllReadyH.cons (o := ⟨none, .store 31 (.tmp 9) (.tmp 52), 0, "ref.go:20", #[⟨1, .data⟩, ⟨3, .chain⟩, ⟨0, .phase⟩, ⟨1, .phase⟩, ⟨2, .textOnly .lateStores⟩, ⟨3, .phase⟩], none⟩) rfl (fun K hK => ?_) AllReadyH.nil)
      refine op_storeS (by rfl) rfl rfl rfl (there_blk (HF1.out.blk 3 _ rfl) rfl) (by kernel_rfl) (by simp [Value.oneCell']) hh2.out ?_
      replace hS := Lib.hid (And.intro (HF2.out.blk 0 _ rfl) (HF2.out.blk 1 _ rfl))
      refine Shut.out hK _ _ hS (fun _ => ?_)
      clear hK K
      try simp only [Act.put, List.setIfInBounds_toArray, List.set_cons_zero, List.set_cons_succ]
      refine wpAnyH_ready (rs := [5]) (by kernel_rfl) (by simp) (AllReadyH.cons (o := ⟨none, .store 39 (.tmp 10) (.tmp 53), 0, "ref.go:20", #[⟨2, .data⟩, ⟨4, .chain⟩, ⟨0, .phase⟩, ⟨1, .phase⟩, ⟨2, .phase⟩, ⟨3, .phase⟩, ⟨4, .phase⟩], none⟩) rfl (fun K hK => ?_) AllReadyH.nil)
      refine op_storeS (by rfl) rfl rfl rfl (there_blk (HF2.out.blk 4 _ rfl) rfl) (by kernel_rfl) (by simp [Value.oneCell']) hh3.out ?_
      replace hS := Lib.hid (And.intro (HF3.out.blk 0 _ rfl) (HF3.out.blk 1 _ rfl))
      refine Shut.out hK _ _ hS (fun _ => ?_)
      clear hK K
      try simp only [Act.put, List.setIfInBounds_toArray, List.set_cons_zero, List.set_cons_succ]
      refine wpAnyH_done (by kernel_rfl) ?_ _
      refine NoPanic.normal ?_
      go_wp2
      refine bodyPost_ret (res_ccc Try.results8 (by rfl) (by rfl) (by rfl) (HF3.out.load 2 rfl rfl Try.underlying29 (by kernel_rfl)) (HF3.out.load 3 rfl rfl Try.underlying31 (by kernel_rfl)) (HF3.out.load 4 rfl rfl Try.underlying39 (by kernel_rfl))) rfl ?_
      replace FR := HF3
      rw [HE.out]
      exact ⟨rfl, FR.out.out⟩
    · have c0 : (o2 != 1) = true := by simp [h0]
      have HE := Lib.hid (show onceW o0 o2 ⟨op, 2, phase, old, since, left, awoke, starve, need, front⟩ now pat = ((o0, o2), noF, doneA, 1) from by
        unfold onceW
        rw [if_neg (fun h => (show ¬ ((2 : Int) = 0) by decide) h.1), if_pos ⟨rfl, h0⟩])
      clear h0
      go_enter Try.func8, Try.ntmps8
      have ac0 := row11 (b := q) (FR.out.at 0 rfl rfl)
      have ac1 := row10 (b := q + 1) (FR.out.at 1 rfl rfl)
      obtain ⟨mw6r, w6r, hw6r, hse, F⟩ := FR.out.put11 2 rfl (b := q + 2) rfl (.int .i64 kd) (.int .i64 o0) (.int .i64 o1) (.int .i64 o2) (.int .i64 o3) (.int .i64 o4) (.int .i64 o5) (.int .u32 wa) (.int .u32 to) (.slice A n c) (.slice B m d)
      replace FR := F
      clear F hse
      obtain ⟨mw7r, w7r, hw7r, hse, F⟩ := FR.out.put10 3 rfl (b := q + 3) rfl (.int .i64 0) (.int .i64 0) (.int .i64 0) (.int .i64 0) (.int .i64 0) (.int .i64 0) (.bool false) (.bool false) (.int .i64 0) (.bool false)
      replace FR := F
      clear F hse
      obtain ⟨mw8r, w8r, hw8r, hse, F⟩ := FR.out.put7 4 rfl (b := q + 4) rfl (.bool true) (.bool false) (.bool false) (.int .i64 0) (.int .i64 0) (.int .u64 1) (.slice none 0 0)
      replace FR := F
      clear F hse
      go_wp2
      refine bodyPost_ret (res_ccc Try.results8 (by rfl) (by rfl) (by rfl) (FR.out.load 2 rfl rfl Try.underlying29 (by kernel_rfl)) (FR.out.load 3 rfl rfl Try.underlying31 (by kernel_rfl)) (FR.out.load 4 rfl rfl Try.underlying39 (by kernel_rfl))) rfl ?_
      rw [HE.out]
      exact ⟨rfl, FR.out.out⟩
  have n2 : (stage == 2) = false := by simp [s2]
  by_cases s3 : stage = 3
  · subst s3
    obtain ⟨⟨z, ⟨gop, gstage, gphase, gold, gsince, gleft, gawoke, gstarve, gneed, gfront⟩, ⟨gdn, ggv, ghd, gft⟩⟩, hr⟩ : ∃ r, unlockM o0 ⟨op, 3, phase, old, since, left, awoke, starve, need, front⟩ = r := ⟨_, rfl⟩
    have HE := Lib.hid (show onceW o0 o2 ⟨op, 3, phase, old, since, left, awoke, starve, need, front⟩ now pat = ((z, o2), ⟨gop, gstage, gphase, gold, gsince, gleft, gawoke, gstarve, gneed, gfront⟩, ⟨gdn, ggv, ghd, gft⟩, 0) from by
      unfold onceW
      rw [if_neg (fun h => (show ¬ ((3 : Int) = 0) by decide) h.1), if_neg (fun h => (show ¬ ((3 : Int) = 2) by decide) h.1), if_neg (show ¬ ((3 : Int) = 0) by decide), if_neg (show ¬ ((3 : Int) = 2) by decide), if_neg (show ¬ ((3 : Int) = 1) by decide), if_pos rfl, hr])
    have UC := Lib.hid (show ∀ W : World, Calls Try.prog 22 #[.agg #[.int .i64 kd, .int .i64 o0, .int .i64 o1, .int .i64 o2, .int .i64 o3, .int .i64 o4, .int .i64 o5, .int .u32 wa, .int .u32 to, .slice A n c, .slice B m d], .agg #[.int .i64 op, .int .i64 3, .int .i64 phase, .int .i64 old, .int .i64 since, .int .i64 left, .bool awoke, .bool starve, .int .i64 need, .bool front]] W (fun e w' => e = .returned (.tuple #[.agg #[.int .i64 kd, .int .i64 z, .int .i64 o1, .int .i64 o2, .int .i64 o3, .int .i64 o4, .int .i64 o5, .int .u32 wa, .int .u32 to, .slice A n c, .slice B m d], .agg #[.int .i64 gop, .int .i64 gstage, .int .i64 gphase, .int .i64 gold, .int .i64 gsince, .int .i64 gleft, .bool gawoke, .bool gstarve, .int .i64 gneed, .bool gfront], .agg #[.bool gdn, .bool false, .bool ghd, .int .i64 ggv, .int .i64 gft, .int .u64 0, .slice none 0 0]]) ∧ Below W.heap.size W w') from fun W => by have h := unlock15_any kd o0 o1 o2 o3 o4 o5 wa to A n c B m d ⟨op, 3, phase, old, since, left, awoke, starve, need, front⟩ W; rw [hr] at h; exact h)
    clear s0 n0 s1 n1 s2 n2 hr
    go_enter Try.func8, Try.ntmps8
    have ac0 := row11 (b := q) (FR.out.at 0 rfl rfl)
    have ac1 := row10 (b := q + 1) (FR.out.at 1 rfl rfl)
    go_wp2_with fail
    refine (UC.out _).mono ?_
    rintro e w7 ⟨rfl, hb⟩
    clear ac0 ac1
    replace FR := Lib.hid (FR.out.step hb)
    clear hb
    obtain ⟨mw6r, w6r, hw6r, hse, F⟩ := FR.out.put11 2 rfl (b := q + 2) rfl (.int .i64 kd) (.int .i64 z) (.int .i64 o1) (.int .i64 o2) (.int .i64 o3) (.int .i64 o4) (.int .i64 o5) (.int .u32 wa) (.int .u32 to) (.slice A n c) (.slice B m d)
    replace FR := F
    clear F hse
    obtain ⟨mw7r, w7r, hw7r, hse, F⟩ := FR.out.put10 3 rfl (b := q + 3) rfl (.int .i64 gop) (.int .i64 gstage) (.int .i64 gphase) (.int .i64 gold) (.int .i64 gsince) (.int .i64 gleft) (.bool gawoke) (.bool gstarve) (.int .i64 gneed) (.bool gfront)
    replace FR := F
    clear F hse
    obtain ⟨mw8r, w8r, hw8r, hse, F⟩ := FR.out.put7 4 rfl (b := q + 4) rfl (.bool gdn) (.bool false) (.bool ghd) (.int .i64 ggv) (.int .i64 gft) (.int .u64 0) (.slice none 0 0)
    replace FR := F
    clear F hse
    go_wp2
    refine bodyPost_ret (res_ccc Try.results8 (by rfl) (by rfl) (by rfl) (FR.out.load 2 rfl rfl Try.underlying29 (by kernel_rfl)) (FR.out.load 3 rfl rfl Try.underlying31 (by kernel_rfl)) (FR.out.load 4 rfl rfl Try.underlying39 (by kernel_rfl))) rfl ?_
    rw [HE.out]
    exact ⟨rfl, FR.out.out⟩
  have n3 : (stage == 3) = false := by simp [s3]
  have HE := Lib.hid (show onceW o0 o2 ⟨op, stage, phase, old, since, left, awoke, starve, need, front⟩ now pat = ((o0, o2), ⟨op, stage, phase, old, since, left, awoke, starve, need, front⟩, noA, 0) from by
    unfold onceW
    rw [if_neg (fun h => s0 h.1), if_neg (fun h => s2 h.1), if_neg s0, if_neg s2, if_neg s1, if_neg s3])
  clear s0 s1 s2 s3
  go_enter Try.func8, Try.ntmps8
  have ac0 := row11 (b := q) (FR.out.at 0 rfl rfl)
  have ac1 := row10 (b := q + 1) (FR.out.at 1 rfl rfl)
  go_wp2
  clear ac0 ac1
  have HF0 := Lib.hid FR.out.drew
  obtain ⟨w6r, hw6r⟩ : ∃ W, v5.drew.setCells (q + 2) 0 [.int .i64 kd, .int .i64 o0, .int .i64 o1, .int .i64 o2, .int .i64 o3, .int .i64 o4, .int .i64 o5, .int .u32 wa, .int .u32 to, .slice A n c, .slice B m d] = W := ⟨_, rfl⟩
  have HF1 := Lib.hid ((HF0.out.all 2 rfl rfl (by rfl)).eqw hw6r)
  have hh1 := Lib.hid hw6r
  clear hw6r
  obtain ⟨w7r, hw7r⟩ : ∃ W, w6r.setCells (q + 3) 0 [.int .i64 op, .int .i64 stage, .int .i64 phase, .int .i64 old, .int .i64 since, .int .i64 left, .bool awoke, .bool starve, .int .i64 need, .bool front] = W := ⟨_, rfl⟩
  have HF2 := Lib.hid ((HF1.out.all 3 rfl rfl (by rfl)).eqw hw7r)
  have hh2 := Lib.hid hw7r
  clear hw7r
  obtain ⟨w8r, hw8r⟩ : ∃ W, w7r.setCells (q + 4) 0 [.bool false, .bool false, .bool false, .int .i64 0, .int .i64 0, .int .u64 0, .slice none 0 0] = W := ⟨_, rfl⟩
  have HF3 := Lib.hid ((HF2.out.all 4 rfl rfl (by rfl)).eqw hw8r)
  have hh3 := Lib.hid hw8r
  clear hw8r
  refine wp_region_noPanic ?_
  refine wp_region_held_drew (S := (fun wv => Hid (wv.heap[q]? = some (.cells #[.int .i64 kd, .int .i64 o0, .int .i64 o1, .int .i64 o2, .int .i64 o3, .int .i64 o4, .int .i64 o5, .int .u32 wa, .int .u32 to, .slice A n c, .slice B m d] 29) ∧ wv.heap[q + 1]? = some (.cells #[.int .i64 op, .int .i64 stage, .int .i64 phase, .int .i64 old, .int .i64 since, .int .i64 left, .bool awoke, .bool starve, .int .i64 need, .bool front] 31)))) (by kernel_rfl) (Lib.hid (And.intro (HF0.out.blk 0 _ rfl) (HF0.out.blk 1 _ rfl))) (fun hS => ?_)
  refine wpAnyH_take (i := 0) (oi := ⟨some 84, .load 29 (.tmp 4), 29, "ref.go:32", #[], none⟩) (v := .agg (([.int .i64 kd, .int .i64 o0, .int .i64 o1, .int .i64 o2, .int .i64 o3, .int .i64 o4, .int .i64 o5, .int .u32 wa, .int .u32 to, .slice A n c, .slice B m d] : List Value)).toArray) rfl (by kernel_rfl) (by kernel_rfl) (by kernel_rfl) (fun _ _ _ h => h) (yieldsIf_load_mid (by rfl) _ _ (by rfl) (q) (0) (by rfl) _ _ (fun wv hS => blk_rngl hS.out.1) Try.underlying29 (by rfl) (by kernel_rfl)) hS ?_
  try simp only [Act.put, List.setIfInBounds_toArray, List.set_cons_zero, List.set_cons_succ]
  refine wpAnyH_take (i := 1) (oi := ⟨some 85, .load 31 (.tmp 5), 31, "ref.go:32", #[⟨3, .gcOnly .lateStores⟩], none⟩) (v := .agg (([.int .i64 op, .int .i64 stage, .int .i64 phase, .int .i64 old, .int .i64 since, .int .i64 left, .bool awoke, .bool starve, .int .i64 need, .bool front] : List Value)).toArray) rfl (by kernel_rfl) (by kernel_rfl) (by kernel_rfl) (fun _ _ _ h => h) (yieldsIf_load_mid (by rfl) _ _ (by rfl) (q + 1) (0) (by rfl) _ _ (fun wv hS => blk_rngl hS.out.2) Try.underlying31 (by rfl) (by kernel_rfl)) hS ?_
  try simp only [Act.put, List.setIfInBounds_toArray, List.set_cons_zero, List.set_cons_succ]
  refine wpAnyH_take (i := 2) (oi := ⟨some 86, .build 39 #[], 39, "ref.go:32", #[⟨4, .gcOnly .lateStores⟩], none⟩) (v := ?_) rfl (by kernel_rfl) (by kernel_rfl) (by kernel_rfl) (fun _ _ _ h => h) (Or.inl ⟨by rfl, ?_⟩) hS ?_
  rotate_left
  · intro wv _; go_simp; try with_reducible rfl
  try simp only [Act.put, List.setIfInBounds_toArray, List.set_cons_zero, List.set_cons_succ]
  refine wpAnyH_ready (rs := [3]) (by kernel_rfl) (by simp) (AllReadyH.cons (o := ⟨none, .store 29 (.tmp 8) (.tmp 84), 0, "ref.go:32", #[⟨0, .data⟩, ⟨0, .phase⟩, ⟨1, .textOnly .lateStores⟩, ⟨2, .textOnly .lateStores⟩], none⟩) rfl (fun K hK => ?_) AllReadyH.nil)
  refine op_storeS (by rfl) rfl rfl rfl (there_blk (HF0.out.blk 2 _ rfl) rfl) (by kernel_rfl) (by simp [Value.oneCell']) hh1.out ?_
  replace hS := Lib.hid (And.intro (HF1.out.blk 0 _ rfl) (HF1.out.blk 1 _ rfl))
  refine Shut.out hK _ _ hS (fun _ => ?_)
  clear hK K
  try simp only [Act.put, List.setIfInBounds_toArray, List.set_cons_zero, List.set_cons_succ]
  refine wpAnyH_ready (rs := [4]) (by kernel_rfl) (by simp) (AllReadyH.cons (o := ⟨none, .store 31 (.tmp 9) (.tmp 85), 0, "ref.go:32", #[⟨1, .data⟩, ⟨3, .chain⟩, ⟨0, .phase⟩, ⟨1, .phase⟩, ⟨2, .textOnly .lateStores⟩, ⟨3, .phase⟩], none⟩) rfl (fun K hK => ?_) AllReadyH.nil)
  refine op_storeS (by rfl) rfl rfl rfl (there_blk (HF1.out.blk 3 _ rfl) rfl) (by kernel_rfl) (by simp [Value.oneCell']) hh2.out ?_
  replace hS := Lib.hid (And.intro (HF2.out.blk 0 _ rfl) (HF2.out.blk 1 _ rfl))
  refine Shut.out hK _ _ hS (fun _ => ?_)
  clear hK K
  try simp only [Act.put, List.setIfInBounds_toArray, List.set_cons_zero, List.set_cons_succ]
  refine wpAnyH_ready (rs := [5]) (by kernel_rfl) (by simp) (AllReadyH.cons (o := ⟨none, .store 39 (.tmp 10) (.tmp 86), 0, "ref.go:32", #[⟨2, .data⟩, ⟨4, .chain⟩, ⟨0, .phase⟩, ⟨1, .phase⟩, ⟨2, .phase⟩, ⟨3, .phase⟩, ⟨4, .phase⟩], none⟩) rfl (fun K hK => ?_) AllReadyH.nil)
  refine op_storeS (by rfl) rfl rfl rfl (there_blk (HF2.out.blk 4 _ rfl) rfl) (by kernel_rfl) (by simp [Value.oneCell']) hh3.out ?_
  replace hS := Lib.hid (And.intro (HF3.out.blk 0 _ rfl) (HF3.out.blk 1 _ rfl))
  refine Shut.out hK _ _ hS (fun _ => ?_)
  clear hK K
  try simp only [Act.put, List.setIfInBounds_toArray, List.set_cons_zero, List.set_cons_succ]
  refine wpAnyH_done (by kernel_rfl) ?_ _
  refine NoPanic.normal ?_
  go_wp2
  refine bodyPost_ret (res_ccc Try.results8 (by rfl) (by rfl) (by rfl) (HF3.out.load 2 rfl rfl Try.underlying29 (by kernel_rfl)) (HF3.out.load 3 rfl rfl Try.underlying31 (by kernel_rfl)) (HF3.out.load 4 rfl rfl Try.underlying39 (by kernel_rfl))) rfl ?_
  replace FR := HF3
  rw [HE.out]
  exact ⟨rfl, FR.out.out⟩
set_option maxRecDepth 100000 in
set_option maxHeartbeats 16000000 in
theorem end18_any (kd o0 o1 o2 o3 o4 o5 wa to : Int) (A : Option Addr) (n c : Nat) (B : Option Addr) (m d : Nat) (f : MFr) (w : World) : Calls Try.prog 10 #[obV kd o0 o1 o2 o3 o4 o5 wa to A n c B m d, frV f] w (StepN w kd o1 o3 o4 o5 wa to A n c B m d (endW o0 o2 f)) := by
  obtain ⟨op, stage, phase, old, since, left, awoke, starve, need, front⟩ := f
  unfold obV frV frC
  simp only
  obtain ⟨v1, hv1, z1, v2, hv2, z2, v3, hv3, z3, v4, hv4, z4, v5, hv5, z5, F⟩ := boxes5 w (.cells #[.int .i64 kd, .int .i64 o0, .int .i64 o1, .int .i64 o2, .int .i64 o3, .int .i64 o4, .int .i64 o5, .int .u32 wa, .int .u32 to, .slice A n c, .slice B m d] 29) (.cells #[.int .i64 op, .int .i64 stage, .int .i64 phase, .int .i64 old, .int .i64 since, .int .i64 left, .bool awoke, .bool starve, .int .i64 need, .bool front] 31) (.cells #[.int .i64 0, .int .i64 0, .int .i64 0, .int .i64 0, .int .i64 0, .int .i64 0, .int .i64 0, .int .u32 0, .int .u32 0, .slice none 0 0, .slice none 0 0] 29) (.cells #[.int .i64 0, .int .i64 0, .int .i64 0, .int .i64 0, .int .i64 0, .int .i64 0, .bool false, .bool false, .int .i64 0, .bool false] 31) (.cells #[.bool false, .bool false, .bool false, .int .i64 0, .int .i64 0, .int .u64 0, .slice none 0 0] 39)
  generalize hq : w.heap.size = q at *
  have FR := Lib.hid F
  clear F
  by_cases s0 : stage = 0
  · subst s0
    have BT := Lib.hid (bit15_any o0 0 (by omega))
    by_cases h0 : hasBit o0 0
    · replace BT := Lib.hid (show ∀ W : World, Calls Try.prog 24 #[.int .i64 o0, .int .i64 0] W (fun e w' => e = .returned (.bool true) ∧ w' = W) from fun W => by have h := BT.out W; rw [decide_eq_true h0] at h; exact h)
      have HE := Lib.hid (show endW o0 o2 ⟨op, 0, phase, old, since, left, awoke, starve, need, front⟩ = ((o0, 1), ⟨op, 1, 0, old, since, left, awoke, starve, need, front⟩, noA, 0) from by
        unfold endW
        rw [if_neg (fun h => h.2 h0), if_pos rfl])
      clear h0
      go_enter Try.func10, Try.ntmps10
      have ac0 := row11 (b := q) (FR.out.at 0 rfl rfl)
      have ac1 := row10 (b := q + 1) (FR.out.at 1 rfl rfl)
      go_wp2_with fail
      refine (BT.out _).mono ?_
      rintro e w7 ⟨rfl, hw7⟩
      replace hw7 := hw7.symm
      subst hw7
      clear ac0 ac1
      have ac0 := row11 (b := q) (FR.out.at 0 rfl rfl)
      have af03 : v5.frozen? ⟨q, 3, none⟩ = false := FR.out.frozen 0 3 rfl rfl
      have ac1 := row10 (b := q + 1) (FR.out.at 1 rfl rfl)
      obtain ⟨w6p, hw6p⟩ : ∃ W, (v5.setCell ⟨q, 3, none⟩ (.int .i64 1)) = W := ⟨_, rfl⟩
      replace FR := Lib.hid (((FR.out.set 0 3 rfl rfl (.int .i64 1))).eqw hw6p)
      have bc0 := row11 (b := q) (FR.out.at 0 rfl rfl)
      have bc1 := row10 (b := q + 1) (FR.out.at 1 rfl rfl)
      have bf11 : w6p.frozen? ⟨q + 1, 1, none⟩ = false := FR.out.frozen 1 1 rfl rfl
      have bf12 : w6p.frozen? ⟨q + 1, 2, none⟩ = false := FR.out.frozen 1 2 rfl rfl
      obtain ⟨w7p, hw7p⟩ : ∃ W, ((w6p.setCell ⟨q + 1, 1, none⟩ (.int .i64 1)).setCell ⟨q + 1, 2, none⟩ (.int .i64 0)) = W := ⟨_, rfl⟩
      replace FR := Lib.hid ((((FR.out.set 1 1 rfl rfl (.int .i64 1)).set 1 2 rfl rfl (.int .i64 0))).eqw hw7p)
      have cc0 := row11 (b := q) (FR.out.at 0 rfl rfl)
      have cc1 := row10 (b := q + 1) (FR.out.at 1 rfl rfl)
      go_wp2
      clear ac0 af03 ac1 bc0 bc1 bf11 bf12 cc0 cc1
      have HF0 := Lib.hid FR.out.drew
      obtain ⟨w8r, hw8r⟩ : ∃ W, w7p.drew.setCells (q + 2) 0 [.int .i64 kd, .int .i64 o0, .int .i64 o1, .int .i64 1, .int .i64 o3, .int .i64 o4, .int .i64 o5, .int .u32 wa, .int .u32 to, .slice A n c, .slice B m d] = W := ⟨_, rfl⟩
      have HF1 := Lib.hid ((HF0.out.all 2 rfl rfl (by rfl)).eqw hw8r)
      have hh1 := Lib.hid hw8r
      clear hw8r
      obtain ⟨w9r, hw9r⟩ : ∃ W, w8r.setCells (q + 3) 0 [.int .i64 op, .int .i64 1, .int .i64 0, .int .i64 old, .int .i64 since, .int .i64 left, .bool awoke, .bool starve, .int .i64 need, .bool front] = W := ⟨_, rfl⟩
      have HF2 := Lib.hid ((HF1.out.all 3 rfl rfl (by rfl)).eqw hw9r)
      have hh2 := Lib.hid hw9r
      clear hw9r
      obtain ⟨w10r, hw10r⟩ : ∃ W, w9r.setCells (q + 4) 0 [.bool false, .bool false, .bool false, .int .i64 0, .int .i64 0, .int .u64 0, .slice none 0 0] = W := ⟨_, rfl⟩
      have HF3 := Lib.hid ((HF2.out.all 4 rfl rfl (by rfl)).eqw hw10r)
      have hh3 := Lib.hid hw10r
      clear hw10r
      refine wp_region_noPanic ?_
      refine wp_region_held_drew (S := (fun wv => Hid (wv.heap[q]? = some (.cells #[.int .i64 kd, .int .i64 o0, .int .i64 o1, .int .i64 1, .int .i64 o3, .int .i64 o4, .int .i64 o5, .int .u32 wa, .int .u32 to, .slice A n c, .slice B m d] 29) ∧ wv.heap[q + 1]? = some (.cells #[.int .i64 op, .int .i64 1, .int .i64 0, .int .i64 old, .int .i64 since, .int .i64 left, .bool awoke, .bool starve, .int .i64 need, .bool front] 31)))) (by kernel_rfl) (Lib.hid (And.intro (HF0.out.blk 0 _ rfl) (HF0.out.blk 1 _ rfl))) (fun hS => ?_)
      refine wpAnyH_take (i := 0) (oi := ⟨some 27, .load 29 (.tmp 2), 29, "ref.go:43", #[], none⟩) (v := .agg (([.int .i64 kd, .int .i64 o0, .int .i64 o1, .int .i64 1, .int .i64 o3, .int .i64 o4, .int .i64 o5, .int .u32 wa, .int .u32 to, .slice A n c, .slice B m d] : List Value)).toArray) rfl (by kernel_rfl) (by kernel_rfl) (by kernel_rfl) (fun _ _ _ h => h) (yieldsIf_load_mid (by rfl) _ _ (by rfl) (q) (0) (by rfl) _ _ (fun wv hS => blk_rngl hS.out.1) Try.underlying29 (by rfl) (by kernel_rfl)) hS ?_
      try simp only [Act.put, List.setIfInBounds_toArray, List.set_cons_zero, List.set_cons_succ]
      refine wpAnyH_take (i := 1) (oi := ⟨some 28, .load 31 (.tmp 3), 31, "ref.go:43", #[⟨3, .gcOnly .lateStores⟩], none⟩) (v := .agg (([.int .i64 op, .int .i64 1, .int .i64 0, .int .i64 old, .int .i64 since, .int .i64 left, .bool awoke, .bool starve, .int .i64 need, .bool front] : List Value)).toArray) rfl (by kernel_rfl) (by kernel_rfl) (by kernel_rfl) (fun _ _ _ h => h) (yieldsIf_load_mid (by rfl) _ _ (by rfl) (q + 1) (0) (by rfl) _ _ (fun wv hS => blk_rngl hS.out.2) Try.underlying31 (by rfl) (by kernel_rfl)) hS ?_
      try simp only [Act.put, List.setIfInBounds_toArray, List.set_cons_zero, List.set_cons_succ]
      refine wpAnyH_take (i := 2) (oi := ⟨some 29, .build 39 #[], 39, "ref.go:43", #[⟨4, .gcOnly .lateStores⟩], none⟩) (v := ?_) rfl (by kernel_rfl) (by kernel_rfl) (by kernel_rfl) (fun _ _ _ h => h) (Or.inl ⟨by rfl, ?_⟩) hS ?_
      rotate_left
      · intro wv _; go_simp; try with_reducible rfl
      try simp only [Act.put, List.setIfInBounds_toArray, List.set_cons_zero, List.set_cons_succ]
      refine wpAnyH_ready (rs := [3]) (by kernel_rfl) (by simp) (AllReadyH.cons (o := ⟨none, .store 29 (.tmp 4) (.tmp 27), 0, "ref.go:43", #[⟨0, .data⟩, ⟨0, .phase⟩, ⟨1, .textOnly .lateStores⟩, ⟨2, .textOnly .lateStores⟩], none⟩) rfl (fun K hK => ?_) AllReadyH.nil)
      refine op_storeS (by rfl) rfl rfl rfl (there_blk (HF0.out.blk 2 _ rfl) rfl) (by kernel_rfl) (by simp [Value.oneCell']) hh1.out ?_
      replace hS := Lib.hid (And.intro (HF1.out.blk 0 _ rfl) (HF1.out.blk 1 _ rfl))
      refine Shut.out hK _ _ hS (fun _ => ?_)
      clear hK K
      try simp only [Act.put, List.setIfInBounds_toArray, List.set_cons_zero, List.set_cons_succ]
      refine wpAnyH_ready (rs := [4]) (by kernel_rfl) (by simp) (AllReadyH.cons (o := ⟨none, .store 31 (.tmp 5) (.tmp 28), 0, "ref.go:43", #[⟨1, .data⟩, ⟨3, .chain⟩, ⟨0, .phase⟩, ⟨1, .phase⟩, ⟨2, .textOnly .lateStores⟩, ⟨3, .phase⟩], none⟩) rfl (fun K hK => ?_) AllReadyH.nil)
      refine op_storeS (by rfl) rfl rfl rfl (there_blk (HF1.out.blk 3 _ rfl) rfl) (by kernel_rfl) (by simp [Value.oneCell']) hh2.out ?_
      replace hS := Lib.hid (And.intro (HF2.out.blk 0 _ rfl) (HF2.out.blk 1 _ rfl))
      refine Shut.out hK _ _ hS (fun _ => ?_)
      clear hK K
      try simp only [Act.put, List.setIfInBounds_toArray, List.set_cons_zero, List.set_cons_succ]
      refine wpAnyH_ready (rs := [5]) (by kernel_rfl) (by simp) (AllReadyH.cons (o := ⟨none, .store 39 (.tmp 6) (.tmp 29), 0, "ref.go:43", #[⟨2, .data⟩, ⟨4, .chain⟩, ⟨0, .phase⟩, ⟨1, .phase⟩, ⟨2, .phase⟩, ⟨3, .phase⟩, ⟨4, .phase⟩], none⟩) rfl (fun K hK => ?_) AllReadyH.nil)
      refine op_storeS (by rfl) rfl rfl rfl (there_blk (HF2.out.blk 4 _ rfl) rfl) (by kernel_rfl) (by simp [Value.oneCell']) hh3.out ?_
      replace hS := Lib.hid (And.intro (HF3.out.blk 0 _ rfl) (HF3.out.blk 1 _ rfl))
      refine Shut.out hK _ _ hS (fun _ => ?_)
      clear hK K
      try simp only [Act.put, List.setIfInBounds_toArray, List.set_cons_zero, List.set_cons_succ]
      refine wpAnyH_done (by kernel_rfl) ?_ _
      refine NoPanic.normal ?_
      go_wp2
      refine bodyPost_ret (res_ccc Try.results10 (by rfl) (by rfl) (by rfl) (HF3.out.load 2 rfl rfl Try.underlying29 (by kernel_rfl)) (HF3.out.load 3 rfl rfl Try.underlying31 (by kernel_rfl)) (HF3.out.load 4 rfl rfl Try.underlying39 (by kernel_rfl))) rfl ?_
      replace FR := HF3
      rw [HE.out]
      exact ⟨rfl, FR.out.out⟩
    · replace BT := Lib.hid (show ∀ W : World, Calls Try.prog 24 #[.int .i64 o0, .int .i64 0] W (fun e w' => e = .returned (.bool false) ∧ w' = W) from fun W => by have h := BT.out W; rw [decide_eq_false h0] at h; exact h)
      have HE := Lib.hid (show endW o0 o2 ⟨op, 0, phase, old, since, left, awoke, starve, need, front⟩ = ((o0, o2), noF, faultA, 0) from by
        unfold endW
        exact if_pos ⟨rfl, h0⟩)
      clear h0
      go_enter Try.func10, Try.ntmps10
      have ac0 := row11 (b := q) (FR.out.at 0 rfl rfl)
      have ac1 := row10 (b := q + 1) (FR.out.at 1 rfl rfl)
      go_wp2_with fail
      refine (BT.out _).mono ?_
      rintro e w7 ⟨rfl, hw7⟩
      replace hw7 := hw7.symm
      subst hw7
      clear ac0 ac1
      have ac0 := row11 (b := q) (FR.out.at 0 rfl rfl)
      have ac1 := row10 (b := q + 1) (FR.out.at 1 rfl rfl)
      obtain ⟨mw6r, w6r, hw6r, hse, F⟩ := FR.out.put11 2 rfl (b := q + 2) rfl (.int .i64 kd) (.int .i64 o0) (.int .i64 o1) (.int .i64 o2) (.int .i64 o3) (.int .i64 o4) (.int .i64 o5) (.int .u32 wa) (.int .u32 to) (.slice A n c) (.slice B m d)
      replace FR := F
      clear F hse
      obtain ⟨mw7r, w7r, hw7r, hse, F⟩ := FR.out.put10 3 rfl (b := q + 3) rfl (.int .i64 0) (.int .i64 0) (.int .i64 0) (.int .i64 0) (.int .i64 0) (.int .i64 0) (.bool false) (.bool false) (.int .i64 0) (.bool false)
      replace FR := F
      clear F hse
      obtain ⟨mw8r, w8r, hw8r, hse, F⟩ := FR.out.put7 4 rfl (b := q + 4) rfl (.bool false) (.bool false) (.bool false) (.int .i64 0) (.int .i64 1) (.int .u64 0) (.slice none 0 0)
      replace FR := F
      clear F hse
      go_wp2
      refine bodyPost_ret (res_ccc Try.results10 (by rfl) (by rfl) (by rfl) (FR.out.load 2 rfl rfl Try.underlying29 (by kernel_rfl)) (FR.out.load 3 rfl rfl Try.underlying31 (by kernel_rfl)) (FR.out.load 4 rfl rfl Try.underlying39 (by kernel_rfl))) rfl ?_
      rw [HE.out]
      exact ⟨rfl, FR.out.out⟩
  have n0 : (stage == 0) = false := by simp [s0]
  by_cases s1 : stage = 1
  · subst s1
    obtain ⟨⟨z, ⟨gop, gstage, gphase, gold, gsince, gleft, gawoke, gstarve, gneed, gfront⟩, ⟨gdn, ggv, ghd, gft⟩⟩, hr⟩ : ∃ r, unlockM o0 ⟨op, 1, phase, old, since, left, awoke, starve, need, front⟩ = r := ⟨_, rfl⟩
    have HE := Lib.hid (show endW o0 o2 ⟨op, 1, phase, old, since, left, awoke, starve, need, front⟩ = ((z, o2), ⟨gop, gstage, gphase, gold, gsince, gleft, gawoke, gstarve, gneed, gfront⟩, ⟨gdn, ggv, ghd, gft⟩, 0) from by
      unfold endW
      rw [if_neg (fun h => (show ¬ ((1 : Int) = 0) by decide) h.1), if_neg (show ¬ ((1 : Int) = 0) by decide), if_pos rfl, hr])
    have UC := Lib.hid (show ∀ W : World, Calls Try.prog 22 #[.agg #[.int .i64 kd, .int .i64 o0, .int .i64 o1, .int .i64 o2, .int .i64 o3, .int .i64 o4, .int .i64 o5, .int .u32 wa, .int .u32 to, .slice A n c, .slice B m d], .agg #[.int .i64 op, .int .i64 1, .int .i64 phase, .int .i64 old, .int .i64 since, .int .i64 left, .bool awoke, .bool starve, .int .i64 need, .bool front]] W (fun e w' => e = .returned (.tuple #[.agg #[.int .i64 kd, .int .i64 z, .int .i64 o1, .int .i64 o2, .int .i64 o3, .int .i64 o4, .int .i64 o5, .int .u32 wa, .int .u32 to, .slice A n c, .slice B m d], .agg #[.int .i64 gop, .int .i64 gstage, .int .i64 gphase, .int .i64 gold, .int .i64 gsince, .int .i64 gleft, .bool gawoke, .bool gstarve, .int .i64 gneed, .bool gfront], .agg #[.bool gdn, .bool false, .bool ghd, .int .i64 ggv, .int .i64 gft, .int .u64 0, .slice none 0 0]]) ∧ Below W.heap.size W w') from fun W => by have h := unlock15_any kd o0 o1 o2 o3 o4 o5 wa to A n c B m d ⟨op, 1, phase, old, since, left, awoke, starve, need, front⟩ W; rw [hr] at h; exact h)
    clear s0 n0 hr
    go_enter Try.func10, Try.ntmps10
    have ac0 := row11 (b := q) (FR.out.at 0 rfl rfl)
    have ac1 := row10 (b := q + 1) (FR.out.at 1 rfl rfl)
    go_wp2_with fail
    refine (UC.out _).mono ?_
    rintro e w7 ⟨rfl, hb⟩
    clear ac0 ac1
    replace FR := Lib.hid (FR.out.step hb)
    clear hb
    obtain ⟨mw6r, w6r, hw6r, hse, F⟩ := FR.out.put11 2 rfl (b := q + 2) rfl (.int .i64 kd) (.int .i64 z) (.int .i64 o1) (.int .i64 o2) (.int .i64 o3) (.int .i64 o4) (.int .i64 o5) (.int .u32 wa) (.int .u32 to) (.slice A n c) (.slice B m d)
    replace FR := F
    clear F hse
    obtain ⟨mw7r, w7r, hw7r, hse, F⟩ := FR.out.put10 3 rfl (b := q + 3) rfl (.int .i64 gop) (.int .i64 gstage) (.int .i64 gphase) (.int .i64 gold) (.int .i64 gsince) (.int .i64 gleft) (.bool gawoke) (.bool gstarve) (.int .i64 gneed) (.bool gfront)
    replace FR := F
    clear F hse
    obtain ⟨mw8r, w8r, hw8r, hse, F⟩ := FR.out.put7 4 rfl (b := q + 4) rfl (.bool gdn) (.bool false) (.bool ghd) (.int .i64 ggv) (.int .i64 gft) (.int .u64 0) (.slice none 0 0)
    replace FR := F
    clear F hse
    go_wp2
    refine bodyPost_ret (res_ccc Try.results10 (by rfl) (by rfl) (by rfl) (FR.out.load 2 rfl rfl Try.underlying29 (by kernel_rfl)) (FR.out.load 3 rfl rfl Try.underlying31 (by kernel_rfl)) (FR.out.load 4 rfl rfl Try.underlying39 (by kernel_rfl))) rfl ?_
    rw [HE.out]
    exact ⟨rfl, FR.out.out⟩
  have n1 : (stage == 1) = false := by simp [s1]
  have HE := Lib.hid (show endW o0 o2 ⟨op, stage, phase, old, since, left, awoke, starve, need, front⟩ = ((o0, o2), ⟨op, stage, phase, old, since, left, awoke, starve, need, front⟩, noA, 0) from by
    unfold endW
    rw [if_neg (fun h => s0 h.1), if_neg s0, if_neg s1])
  clear s0 s1
  go_enter Try.func10, Try.ntmps10
  have ac0 := row11 (b := q) (FR.out.at 0 rfl rfl)
  have ac1 := row10 (b := q + 1) (FR.out.at 1 rfl rfl)
  go_wp2
  clear ac0 ac1
  have HF0 := Lib.hid FR.out.drew
  obtain ⟨w6r, hw6r⟩ : ∃ W, v5.drew.setCells (q + 2) 0 [.int .i64 kd, .int .i64 o0, .int .i64 o1, .int .i64 o2, .int .i64 o3, .int .i64 o4, .int .i64 o5, .int .u32 wa, .int .u32 to, .slice A n c, .slice B m d] = W := ⟨_, rfl⟩
  have HF1 := Lib.hid ((HF0.out.all 2 rfl rfl (by rfl)).eqw hw6r)
  have hh1 := Lib.hid hw6r
  clear hw6r
  obtain ⟨w7r, hw7r⟩ : ∃ W, w6r.setCells (q + 3) 0 [.int .i64 op, .int .i64 stage, .int .i64 phase, .int .i64 old, .int .i64 since, .int .i64 left, .bool awoke, .bool starve, .int .i64 need, .bool front] = W := ⟨_, rfl⟩
  have HF2 := Lib.hid ((HF1.out.all 3 rfl rfl (by rfl)).eqw hw7r)
  have hh2 := Lib.hid hw7r
  clear hw7r
  obtain ⟨w8r, hw8r⟩ : ∃ W, w7r.setCells (q + 4) 0 [.bool false, .bool false, .bool false, .int .i64 0, .int .i64 0, .int .u64 0, .slice none 0 0] = W := ⟨_, rfl⟩
  have HF3 := Lib.hid ((HF2.out.all 4 rfl rfl (by rfl)).eqw hw8r)
  have hh3 := Lib.hid hw8r
  clear hw8r
  refine wp_region_noPanic ?_
  refine wp_region_held_drew (S := (fun wv => Hid (wv.heap[q]? = some (.cells #[.int .i64 kd, .int .i64 o0, .int .i64 o1, .int .i64 o2, .int .i64 o3, .int .i64 o4, .int .i64 o5, .int .u32 wa, .int .u32 to, .slice A n c, .slice B m d] 29) ∧ wv.heap[q + 1]? = some (.cells #[.int .i64 op, .int .i64 stage, .int .i64 phase, .int .i64 old, .int .i64 since, .int .i64 left, .bool awoke, .bool starve, .int .i64 need, .bool front] 31)))) (by kernel_rfl) (Lib.hid (And.intro (HF0.out.blk 0 _ rfl) (HF0.out.blk 1 _ rfl))) (fun hS => ?_)
  refine wpAnyH_take (i := 0) (oi := ⟨some 39, .load 29 (.tmp 2), 29, "ref.go:48", #[], none⟩) (v := .agg (([.int .i64 kd, .int .i64 o0, .int .i64 o1, .int .i64 o2, .int .i64 o3, .int .i64 o4, .int .i64 o5, .int .u32 wa, .int .u32 to, .slice A n c, .slice B m d] : List Value)).toArray) rfl (by kernel_rfl) (by kernel_rfl) (by kernel_rfl) (fun _ _ _ h => h) (yieldsIf_load_mid (by rfl) _ _ (by rfl) (q) (0) (by rfl) _ _ (fun wv hS => blk_rngl hS.out.1) Try.underlying29 (by rfl) (by kernel_rfl)) hS ?_
  try simp only [Act.put, List.setIfInBounds_toArray, List.set_cons_zero, List.set_cons_succ]
  refine wpAnyH_take (i := 1) (oi := ⟨some 40, .load 31 (.tmp 3), 31, "ref.go:48", #[⟨3, .gcOnly .lateStores⟩], none⟩) (v := .agg (([.int .i64 op, .int .i64 stage, .int .i64 phase, .int .i64 old, .int .i64 since, .int .i64 left, .bool awoke, .bool starve, .int .i64 need, .bool front] : List Value)).toArray) rfl (by kernel_rfl) (by kernel_rfl) (by kernel_rfl) (fun _ _ _ h => h) (yieldsIf_load_mid (by rfl) _ _ (by rfl) (q + 1) (0) (by rfl) _ _ (fun wv hS => blk_rngl hS.out.2) Try.underlying31 (by rfl) (by kernel_rfl)) hS ?_
  try simp only [Act.put, List.setIfInBounds_toArray, List.set_cons_zero, List.set_cons_succ]
  refine wpAnyH_take (i := 2) (oi := ⟨some 41, .build 39 #[], 39, "ref.go:48", #[⟨4, .gcOnly .lateStores⟩], none⟩) (v := ?_) rfl (by kernel_rfl) (by kernel_rfl) (by kernel_rfl) (fun _ _ _ h => h) (Or.inl ⟨by rfl, ?_⟩) hS ?_
  rotate_left
  · intro wv _; go_simp; try with_reducible rfl
  try simp only [Act.put, List.setIfInBounds_toArray, List.set_cons_zero, List.set_cons_succ]
  refine wpAnyH_ready (rs := [3]) (by kernel_rfl) (by simp) (AllReadyH.cons (o := ⟨none, .store 29 (.tmp 4) (.tmp 39), 0, "ref.go:48", #[⟨0, .data⟩, ⟨0, .phase⟩, ⟨1, .textOnly .lateStores⟩, ⟨2, .textOnly .lateStores⟩], none⟩) rfl (fun K hK => ?_) AllReadyH.nil)
  refine op_storeS (by rfl) rfl rfl rfl (there_blk (HF0.out.blk 2 _ rfl) rfl) (by kernel_rfl) (by simp [Value.oneCell']) hh1.out ?_
  replace hS := Lib.hid (And.intro (HF1.out.blk 0 _ rfl) (HF1.out.blk 1 _ rfl))
  refine Shut.out hK _ _ hS (fun _ => ?_)
  clear hK K
  try simp only [Act.put, List.setIfInBounds_toArray, List.set_cons_zero, List.set_cons_succ]
  refine wpAnyH_ready (rs := [4]) (by kernel_rfl) (by simp) (AllReadyH.cons (o := ⟨none, .store 31 (.tmp 5) (.tmp 40), 0, "ref.go:48", #[⟨1, .data⟩, ⟨3, .chain⟩, ⟨0, .phase⟩, ⟨1, .phase⟩, ⟨2, .textOnly .lateStores⟩, ⟨3, .phase⟩], none⟩) rfl (fun K hK => ?_) AllReadyH.nil)
  refine op_storeS (by rfl) rfl rfl rfl (there_blk (HF1.out.blk 3 _ rfl) rfl) (by kernel_rfl) (by simp [Value.oneCell']) hh2.out ?_
  replace hS := Lib.hid (And.intro (HF2.out.blk 0 _ rfl) (HF2.out.blk 1 _ rfl))
  refine Shut.out hK _ _ hS (fun _ => ?_)
  clear hK K
  try simp only [Act.put, List.setIfInBounds_toArray, List.set_cons_zero, List.set_cons_succ]
  refine wpAnyH_ready (rs := [5]) (by kernel_rfl) (by simp) (AllReadyH.cons (o := ⟨none, .store 39 (.tmp 6) (.tmp 41), 0, "ref.go:48", #[⟨2, .data⟩, ⟨4, .chain⟩, ⟨0, .phase⟩, ⟨1, .phase⟩, ⟨2, .phase⟩, ⟨3, .phase⟩, ⟨4, .phase⟩], none⟩) rfl (fun K hK => ?_) AllReadyH.nil)
  refine op_storeS (by rfl) rfl rfl rfl (there_blk (HF2.out.blk 4 _ rfl) rfl) (by kernel_rfl) (by simp [Value.oneCell']) hh3.out ?_
  replace hS := Lib.hid (And.intro (HF3.out.blk 0 _ rfl) (HF3.out.blk 1 _ rfl))
  refine Shut.out hK _ _ hS (fun _ => ?_)
  clear hK K
  try simp only [Act.put, List.setIfInBounds_toArray, List.set_cons_zero, List.set_cons_succ]
  refine wpAnyH_done (by kernel_rfl) ?_ _
  refine NoPanic.normal ?_
  go_wp2
  refine bodyPost_ret (res_ccc Try.results10 (by rfl) (by rfl) (by rfl) (HF3.out.load 2 rfl rfl Try.underlying29 (by kernel_rfl)) (HF3.out.load 3 rfl rfl Try.underlying31 (by kernel_rfl)) (HF3.out.load 4 rfl rfl Try.underlying39 (by kernel_rfl))) rfl ?_
  replace FR := HF3
  rw [HE.out]
  exact ⟨rfl, FR.out.out⟩
end Go.Proofs.Ytkecmiedeihdgaa
