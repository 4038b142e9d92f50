/- alive of layer 18: it answers true, over any world; no condition. -/
import Derived.Test.YtkecmiedeihdgaaOncO
import Derived.Test.YtkecmiedeihdgaaMutC
import Derived.Test.YtkecmiedeihdgaaSyB
import Derived.Test.YtkecmiedeihdgaaInv
namespace Go.Proofs.Ytkecmiedeihdgaa
set_option linter.unusedVariables false
set_option linter.unusedSimpArgs false
open Go.RowKit
set_option maxRecDepth 100000 in
set_option maxHeartbeats 16000000 in
theorem alive18 (w : World) : Calls Try.prog 5 #[] w fun e w' => e = .returned (.bool true) ∧ Below w.heap.size w w' := by
  have K0 := Lib.hid (show ∀ W : World, Calls Try.prog 7 #[.agg #[.int .i64 4, .int .i64 0, .int .i64 0, .int .i64 0, .int .i64 0, .int .i64 0, .int .i64 0, .int .u32 0, .int .u32 0, .slice none 0 0, .slice none 0 0], .agg #[.int .i64 34, .int .i64 0, .int .i64 0, .int .i64 0, .int .i64 (-1), .int .i64 0, .bool false, .bool false, .int .i64 0, .bool false], .int .i64 0, .int .i64 9] W (fun e w' => e = .returned (.tuple #[.agg #[.int .i64 4, .int .i64 0, .int .i64 0, .int .i64 0, .int .i64 0, .int .i64 0, .int .i64 0, .int .u32 0, .int .u32 0, .slice none 0 0, .slice none 0 0], .agg #[.int .i64 34, .int .i64 1, .int .i64 0, .int .i64 0, .int .i64 (-1), .int .i64 0, .bool false, .bool false, .int .i64 0, .bool false], .agg #[.bool false, .bool false, .bool false, .int .i64 0, .int .i64 0, .int .u64 0, .slice none 0 0]]) ∧ Below W.heap.size W w') from fun W => by
    have h := onOnce_nil 4 0 0 0 0 0 0 0 0 (⟨34, 0, 0, 0, -1, 0, false, false, 0, false⟩ : MFr) 0 9 (by kernel_rfl) W
    rw [show onceW 0 0 (⟨34, 0, 0, 0, -1, 0, false, false, 0, false⟩ : MFr) 0 9 = ((0, 0), (⟨34, 1, 0, 0, -1, 0, false, false, 0, false⟩ : MFr), (⟨false, 0, false, 0⟩ : MAct), 0) from by kernel_rfl] at h
    exact h)
  have K1 := Lib.hid (show ∀ W : World, Calls Try.prog 7 #[.agg #[.int .i64 4, .int .i64 0, .int .i64 0, .int .i64 0, .int .i64 0, .int .i64 0, .int .i64 0, .int .u32 0, .int .u32 0, .slice none 0 0, .slice none 0 0], .agg #[.int .i64 34, .int .i64 1, .int .i64 0, .int .i64 0, .int .i64 (-1), .int .i64 0, .bool false, .bool false, .int .i64 0, .bool false], .int .i64 0, .int .i64 9] W (fun e w' => e = .returned (.tuple #[.agg #[.int .i64 4, .int .i64 1, .int .i64 0, .int .i64 0, .int .i64 0, .int .i64 0, .int .i64 0, .int .u32 0, .int .u32 0, .slice none 0 0, .slice none 0 0], .agg #[.int .i64 34, .int .i64 2, .int .i64 0, .int .i64 0, .int .i64 (-1), .int .i64 0, .bool false, .bool false, .int .i64 0, .bool false], .agg #[.bool false, .bool false, .bool false, .int .i64 0, .int .i64 0, .int .u64 0, .slice none 0 0]]) ∧ Below W.heap.size W w') from fun W => by
    have h := onOnce_nil 4 0 0 0 0 0 0 0 0 (⟨34, 1, 0, 0, -1, 0, false, false, 0, false⟩ : MFr) 0 9 (by kernel_rfl) W
    rw [show onceW 0 0 (⟨34, 1, 0, 0, -1, 0, false, false, 0, false⟩ : MFr) 0 9 = ((1, 0), (⟨34, 2, 0, 0, -1, 0, false, false, 0, false⟩ : MFr), (⟨false, 0, false, 0⟩ : MAct), 0) from by kernel_rfl] at h
    exact h)
  have K2 := Lib.hid (show ∀ W : World, Calls Try.prog 7 #[.agg #[.int .i64 4, .int .i64 1, .int .i64 0, .int .i64 0, .int .i64 0, .int .i64 0, .int .i64 0, .int .u32 0, .int .u32 0, .slice none 0 0, .slice none 0 0], .agg #[.int .i64 34, .int .i64 2, .int .i64 0, .int .i64 0, .int .i64 (-1), .int .i64 0, .bool false, .bool false, .int .i64 0, .bool false], .int .i64 0, .int .i64 9] W (fun e w' => e = .returned (.tuple #[.agg #[.int .i64 4, .int .i64 1, .int .i64 0, .int .i64 0, .int .i64 0, .int .i64 0, .int .i64 0, .int .u32 0, .int .u32 0, .slice none 0 0, .slice none 0 0], .agg #[.int .i64 0, .int .i64 0, .int .i64 0, .int .i64 0, .int .i64 0, .int .i64 0, .bool false, .bool false, .int .i64 0, .bool false], .agg #[.bool true, .bool false, .bool false, .int .i64 0, .int .i64 0, .int .u64 1, .slice none 0 0]]) ∧ Below W.heap.size W w') from fun W => by
    have h := onOnce_nil 4 1 0 0 0 0 0 0 0 (⟨34, 2, 0, 0, -1, 0, false, false, 0, false⟩ : MFr) 0 9 (by kernel_rfl) W
    rw [show onceW 1 0 (⟨34, 2, 0, 0, -1, 0, false, false, 0, false⟩ : MFr) 0 9 = ((1, 0), (⟨0, 0, 0, 0, 0, 0, false, false, 0, false⟩ : MFr), (⟨true, 0, false, 0⟩ : MAct), 1) from by kernel_rfl] at h
    exact h)
  have K3 := Lib.hid (show ∀ W : World, Calls Try.prog 9 #[.agg #[.int .i64 4, .int .i64 1, .int .i64 0, .int .i64 0, .int .i64 0, .int .i64 0, .int .i64 0, .int .u32 0, .int .u32 0, .slice none 0 0, .slice none 0 0], .agg #[.int .i64 35, .int .i64 0, .int .i64 0, .int .i64 0, .int .i64 (-1), .int .i64 0, .bool false, .bool false, .int .i64 0, .bool false]] W (fun e w' => e = .returned (.tuple #[.agg #[.int .i64 4, .int .i64 1, .int .i64 0, .int .i64 1, .int .i64 0, .int .i64 0, .int .i64 0, .int .u32 0, .int .u32 0, .slice none 0 0, .slice none 0 0], .agg #[.int .i64 35, .int .i64 1, .int .i64 0, .int .i64 0, .int .i64 (-1), .int .i64 0, .bool false, .bool false, .int .i64 0, .bool false], .agg #[.bool false, .bool false, .bool false, .int .i64 0, .int .i64 0, .int .u64 0, .slice none 0 0]]) ∧ Below W.heap.size W w') from fun W => by
    have h := onEnd_nil 4 1 0 0 0 0 0 0 0 (⟨35, 0, 0, 0, -1, 0, false, false, 0, false⟩ : MFr) (by kernel_rfl) W
    rw [show endW 1 0 (⟨35, 0, 0, 0, -1, 0, false, false, 0, false⟩ : MFr) = ((1, 1), (⟨35, 1, 0, 0, -1, 0, false, false, 0, false⟩ : MFr), (⟨false, 0, false, 0⟩ : MAct), 0) from by kernel_rfl] at h
    exact h)
  have K4 := Lib.hid (show ∀ W : World, Calls Try.prog 9 #[.agg #[.int .i64 4, .int .i64 1, .int .i64 0, .int .i64 1, .int .i64 0, .int .i64 0, .int .i64 0, .int .u32 0, .int .u32 0, .slice none 0 0, .slice none 0 0], .agg #[.int .i64 35, .int .i64 1, .int .i64 0, .int .i64 0, .int .i64 (-1), .int .i64 0, .bool false, .bool false, .int .i64 0, .bool false]] W (fun e w' => e = .returned (.tuple #[.agg #[.int .i64 4, .int .i64 0, .int .i64 0, .int .i64 1, .int .i64 0, .int .i64 0, .int .i64 0, .int .u32 0, .int .u32 0, .slice none 0 0, .slice none 0 0], .agg #[.int .i64 0, .int .i64 0, .int .i64 0, .int .i64 0, .int .i64 0, .int .i64 0, .bool false, .bool false, .int .i64 0, .bool false], .agg #[.bool true, .bool false, .bool false, .int .i64 0, .int .i64 0, .int .u64 0, .slice none 0 0]]) ∧ Below W.heap.size W w') from fun W => by
    have h := onEnd_nil 4 1 0 1 0 0 0 0 0 (⟨35, 1, 0, 0, -1, 0, false, false, 0, false⟩ : MFr) (by kernel_rfl) W
    rw [show endW 1 1 (⟨35, 1, 0, 0, -1, 0, false, false, 0, false⟩ : MFr) = ((0, 1), (⟨0, 0, 0, 0, 0, 0, false, false, 0, false⟩ : MFr), (⟨true, 0, false, 0⟩ : MAct), 0) from by kernel_rfl] at h
    exact h)
  have K5 := Lib.hid (show ∀ W : World, Calls Try.prog 7 #[.agg #[.int .i64 4, .int .i64 0, .int .i64 0, .int .i64 1, .int .i64 0, .int .i64 0, .int .i64 0, .int .u32 0, .int .u32 0, .slice none 0 0, .slice none 0 0], .agg #[.int .i64 34, .int .i64 0, .int .i64 0, .int .i64 0, .int .i64 (-1), .int .i64 0, .bool false, .bool false, .int .i64 0, .bool false], .int .i64 0, .int .i64 9] W (fun e w' => e = .returned (.tuple #[.agg #[.int .i64 4, .int .i64 0, .int .i64 0, .int .i64 1, .int .i64 0, .int .i64 0, .int .i64 0, .int .u32 0, .int .u32 0, .slice none 0 0, .slice none 0 0], .agg #[.int .i64 0, .int .i64 0, .int .i64 0, .int .i64 0, .int .i64 0, .int .i64 0, .bool false, .bool false, .int .i64 0, .bool false], .agg #[.bool true, .bool false, .bool false, .int .i64 0, .int .i64 0, .int .u64 0, .slice none 0 0]]) ∧ Below W.heap.size W w') from fun W => by
    have h := onOnce_nil 4 0 0 1 0 0 0 0 0 (⟨34, 0, 0, 0, -1, 0, false, false, 0, false⟩ : MFr) 0 9 (by kernel_rfl) W
    rw [show onceW 0 1 (⟨34, 0, 0, 0, -1, 0, false, false, 0, false⟩ : MFr) 0 9 = ((0, 1), (⟨0, 0, 0, 0, 0, 0, false, false, 0, false⟩ : MFr), (⟨true, 0, false, 0⟩ : MAct), 0) from by kernel_rfl] at h
    exact h)
  have K6 := Lib.hid (show ∀ W : World, Calls Try.prog 9 #[.agg #[.int .i64 4, .int .i64 0, .int .i64 0, .int .i64 1, .int .i64 0, .int .i64 0, .int .i64 0, .int .u32 0, .int .u32 0, .slice none 0 0, .slice none 0 0], .agg #[.int .i64 35, .int .i64 0, .int .i64 0, .int .i64 0, .int .i64 (-1), .int .i64 0, .bool false, .bool false, .int .i64 0, .bool false]] W (fun e w' => e = .returned (.tuple #[.agg #[.int .i64 4, .int .i64 0, .int .i64 0, .int .i64 1, .int .i64 0, .int .i64 0, .int .i64 0, .int .u32 0, .int .u32 0, .slice none 0 0, .slice none 0 0], .agg #[.int .i64 0, .int .i64 0, .int .i64 0, .int .i64 0, .int .i64 0, .int .i64 0, .bool false, .bool false, .int .i64 0, .bool false], .agg #[.bool false, .bool false, .bool false, .int .i64 0, .int .i64 1, .int .u64 0, .slice none 0 0]]) ∧ Below W.heap.size W w') from fun W => by
    have h := onEnd_nil 4 0 0 1 0 0 0 0 0 (⟨35, 0, 0, 0, -1, 0, false, false, 0, false⟩ : MFr) (by kernel_rfl) W
    rw [show endW 0 1 (⟨35, 0, 0, 0, -1, 0, false, false, 0, false⟩ : MFr) = ((0, 1), (⟨0, 0, 0, 0, 0, 0, false, false, 0, false⟩ : MFr), (⟨false, 0, false, 1⟩ : MAct), 0) from by kernel_rfl] at h
    exact h)
  have N1 := Lib.hid (show ∀ W : World, Calls Try.prog 14 #[.int .i64 34] W (fun e w' => e = .returned (.agg #[.int .i64 34, .int .i64 0, .int .i64 0, .int .i64 0, .int .i64 (-1), .int .i64 0, .bool false, .bool false, .int .i64 0, .bool false]) ∧ Below W.heap.size W w') from fun W => refBegin15_any 34 W)
  have N2 := Lib.hid (show ∀ W : World, Calls Try.prog 14 #[.int .i64 35] W (fun e w' => e = .returned (.agg #[.int .i64 35, .int .i64 0, .int .i64 0, .int .i64 0, .int .i64 (-1), .int .i64 0, .bool false, .bool false, .int .i64 0, .bool false]) ∧ Below W.heap.size W w') from fun W => refBegin15_any 35 W)
  have V0 := Lib.hid (show ∀ W : World, Calls Try.prog 13 #[.agg #[.int .i64 4, .int .i64 1, .int .i64 0, .int .i64 0, .int .i64 0, .int .i64 0, .int .i64 0, .int .u32 0, .int .u32 0, .slice none 0 0, .slice none 0 0]] W (fun e w' => e = .returned (.bool false) ∧ Below W.heap.size W w') from fun W => onOver_any 4 1 0 0 0 0 0 0 0 none 0 0 none 0 0 false (by kernel_rfl) W)
  have V1 := Lib.hid (show ∀ W : World, Calls Try.prog 13 #[.agg #[.int .i64 4, .int .i64 0, .int .i64 0, .int .i64 1, .int .i64 0, .int .i64 0, .int .i64 0, .int .u32 0, .int .u32 0, .slice none 0 0, .slice none 0 0]] W (fun e w' => e = .returned (.bool true) ∧ Below W.heap.size W w') from fun W => onOver_any 4 0 0 1 0 0 0 0 0 none 0 0 none 0 0 true (by kernel_rfl) W)
  have hw1 := w6_self 1 0 0 0 0 0
  have hw2 := w6_self 0 0 1 0 0 0
  have HB := Lib.hid (And.intro (Below.refl w.heap.size w) (Nat.le_refl w.heap.size))
  go_enter Try.func5, Try.ntmps5
  have gq := HB.out.2
  obtain ⟨w1, hw1⟩ : ∃ W, (w.alloc (.cells #[.int .i64 0, .int .i64 0, .int .i64 0, .int .i64 0, .int .i64 0, .int .i64 0, .int .i64 0, .int .u32 0, .int .u32 0, .slice none 0 0, .slice none 0 0] 29)) = W := ⟨_, rfl⟩
  have hb : Below w.heap.size w w1 := hw1 ▸ ((Below.refl _ _).alloc (Nat.le_refl _) _)
  have hv0 : w1.heap[w.heap.size]? = some (.cells #[.int .i64 0, .int .i64 0, .int .i64 0, .int .i64 0, .int .i64 0, .int .i64 0, .int .i64 0, .int .u32 0, .int .u32 0, .slice none 0 0, .slice none 0 0] 29) := by
    have h0 := heap_alloc_new w (.cells #[.int .i64 0, .int .i64 0, .int .i64 0, .int .i64 0, .int .i64 0, .int .i64 0, .int .i64 0, .int .u32 0, .int .u32 0, .slice none 0 0, .slice none 0 0] 29)
    rw [show w.heap.size = w.heap.size by simp [Nat.add_assoc]] at h0
    rw [← hw1]
    exact h0
  replace HB := Lib.hid (And.intro (HB.out.1.trans (hb.mono HB.out.2)) (Nat.le_trans HB.out.2 hb.size))
  have Vo := Lib.hid hv0
  have geo := gq
  generalize hso : w.heap.size = so at *
  clear hb gq hv0
  subst hso
  obtain ⟨mw2, w2, hw2, hse, VN⟩ := set11 Vo.out (.int .i64 4) (.int .i64 0) (.int .i64 0) (.int .i64 0) (.int .i64 0) (.int .i64 0) (.int .i64 0) (.int .u32 0) (.int .u32 0) (.slice none 0 0) (.slice none 0 0)
  replace Vo := VN
  replace HB := Lib.hid (belS hse geo HB.out)
  clear VN hse
  go_wp2_with fail
  refine (N1.out _).mono ?_
  rintro e w3 ⟨rfl, hb⟩
  clear mw2 hw2
  replace Vo := Lib.hid (blk_below Vo.out hb (blk_lt Vo.out))
  replace HB := Lib.hid (And.intro (HB.out.1.trans (hb.mono HB.out.2)) (Nat.le_trans HB.out.2 hb.size))
  clear hb
  have lto := blk_lt Vo.out
  have gq := HB.out.2
  obtain ⟨w4, hw4⟩ : ∃ W, (w3.alloc (.cells #[.int .i64 0, .int .i64 0, .int .i64 0, .int .i64 0, .int .i64 0, .int .i64 0, .bool false, .bool false, .int .i64 0, .bool false] 31)) = W := ⟨_, rfl⟩
  have hb : Below w3.heap.size w3 w4 := hw4 ▸ ((Below.refl _ _).alloc (Nat.le_refl _) _)
  have hv0 : w4.heap[w3.heap.size]? = some (.cells #[.int .i64 0, .int .i64 0, .int .i64 0, .int .i64 0, .int .i64 0, .int .i64 0, .bool false, .bool false, .int .i64 0, .bool false] 31) := by
    have h0 := heap_alloc_new w3 (.cells #[.int .i64 0, .int .i64 0, .int .i64 0, .int .i64 0, .int .i64 0, .int .i64 0, .bool false, .bool false, .int .i64 0, .bool false] 31)
    rw [show w3.heap.size = w3.heap.size by simp [Nat.add_assoc]] at h0
    rw [← hw4]
    exact h0
  replace Vo := Lib.hid (blk_below Vo.out hb (blk_lt Vo.out))
  replace HB := Lib.hid (And.intro (HB.out.1.trans (hb.mono HB.out.2)) (Nat.le_trans HB.out.2 hb.size))
  have Vf := Lib.hid hv0
  have neo_f := Nat.ne_of_lt lto
  have gef := gq
  generalize hsf : w3.heap.size = sf at *
  clear hb gq hv0 lto
  obtain ⟨mw5, w5, hw5, hse, VN⟩ := set10 Vf.out (.int .i64 34) (.int .i64 0) (.int .i64 0) (.int .i64 0) (.int .i64 (-1)) (.int .i64 0) (.bool false) (.bool false) (.int .i64 0) (.bool false)
  replace Vo := Lib.hid (stayS hse neo_f Vo.out)
  replace Vf := VN
  replace HB := Lib.hid (belS hse gef HB.out)
  clear VN hse
  have lto := blk_lt Vo.out
  have ltf := blk_lt Vf.out
  have gq := HB.out.2
  obtain ⟨w6, hw6⟩ : ∃ W, (w5.alloc (.cells #[.bool false, .bool false, .bool false, .int .i64 0, .int .i64 0, .int .u64 0, .slice none 0 0] 39)) = W := ⟨_, rfl⟩
  have hb : Below w5.heap.size w5 w6 := hw6 ▸ ((Below.refl _ _).alloc (Nat.le_refl _) _)
  have hv0 : w6.heap[w5.heap.size]? = some (.cells #[.bool false, .bool false, .bool false, .int .i64 0, .int .i64 0, .int .u64 0, .slice none 0 0] 39) := by
    have h0 := heap_alloc_new w5 (.cells #[.bool false, .bool false, .bool false, .int .i64 0, .int .i64 0, .int .u64 0, .slice none 0 0] 39)
    rw [show w5.heap.size = w5.heap.size by simp [Nat.add_assoc]] at h0
    rw [← hw6]
    exact h0
  replace Vo := Lib.hid (blk_below Vo.out hb (blk_lt Vo.out))
  replace Vf := Lib.hid (blk_below Vf.out hb (blk_lt Vf.out))
  replace HB := Lib.hid (And.intro (HB.out.1.trans (hb.mono HB.out.2)) (Nat.le_trans HB.out.2 hb.size))
  have Va := Lib.hid hv0
  have neo_a := Nat.ne_of_lt lto
  have nef_a := Nat.ne_of_lt ltf
  have gea := gq
  generalize hsa : w5.heap.size = sa at *
  clear hb gq hv0 lto ltf
  go_wp2
  clear mw5 hw5
  go_loopw [4] (fun iv wr => (iv = .int .i64 0 ∧ Hid (Below w.heap.size w wr ∧ w.heap.size ≤ wr.heap.size) ∧ Hid (wr.heap[w.heap.size]? = some (.cells #[.int .i64 4, .int .i64 0, .int .i64 0, .int .i64 0, .int .i64 0, .int .i64 0, .int .i64 0, .int .u32 0, .int .u32 0, .slice none 0 0, .slice none 0 0] 29)) ∧ Hid (wr.heap[sf]? = some (.cells #[.int .i64 34, .int .i64 0, .int .i64 0, .int .i64 0, .int .i64 (-1), .int .i64 0, .bool false, .bool false, .int .i64 0, .bool false] 31)) ∧ Hid (wr.heap[sa]? = some (.cells #[.bool false, .bool false, .bool false, .int .i64 0, .int .i64 0, .int .u64 0, .slice none 0 0] 39))) ∨ (iv = .int .i64 1 ∧ Hid (Below w.heap.size w wr ∧ w.heap.size ≤ wr.heap.size) ∧ Hid (wr.heap[w.heap.size]? = some (.cells #[.int .i64 4, .int .i64 0, .int .i64 0, .int .i64 0, .int .i64 0, .int .i64 0, .int .i64 0, .int .u32 0, .int .u32 0, .slice none 0 0, .slice none 0 0] 29)) ∧ Hid (wr.heap[sf]? = some (.cells #[.int .i64 34, .int .i64 1, .int .i64 0, .int .i64 0, .int .i64 (-1), .int .i64 0, .bool false, .bool false, .int .i64 0, .bool false] 31)) ∧ Hid (wr.heap[sa]? = some (.cells #[.bool false, .bool false, .bool false, .int .i64 0, .int .i64 0, .int .u64 0, .slice none 0 0] 39))) ∨ (iv = .int .i64 2 ∧ Hid (Below w.heap.size w wr ∧ w.heap.size ≤ wr.heap.size) ∧ Hid (wr.heap[w.heap.size]? = some (.cells #[.int .i64 4, .int .i64 1, .int .i64 0, .int .i64 0, .int .i64 0, .int .i64 0, .int .i64 0, .int .u32 0, .int .u32 0, .slice none 0 0, .slice none 0 0] 29)) ∧ Hid (wr.heap[sf]? = some (.cells #[.int .i64 34, .int .i64 2, .int .i64 0, .int .i64 0, .int .i64 (-1), .int .i64 0, .bool false, .bool false, .int .i64 0, .bool false] 31)) ∧ Hid (wr.heap[sa]? = some (.cells #[.bool false, .bool false, .bool false, .int .i64 0, .int .i64 0, .int .u64 0, .slice none 0 0] 39))) ∨ (iv = .int .i64 3 ∧ Hid (Below w.heap.size w wr ∧ w.heap.size ≤ wr.heap.size) ∧ Hid (wr.heap[w.heap.size]? = some (.cells #[.int .i64 4, .int .i64 1, .int .i64 0, .int .i64 0, .int .i64 0, .int .i64 0, .int .i64 0, .int .u32 0, .int .u32 0, .slice none 0 0, .slice none 0 0] 29)) ∧ Hid (wr.heap[sf]? = some (.cells #[.int .i64 0, .int .i64 0, .int .i64 0, .int .i64 0, .int .i64 0, .int .i64 0, .bool false, .bool false, .int .i64 0, .bool false] 31)) ∧ Hid (wr.heap[sa]? = some (.cells #[.bool true, .bool false, .bool false, .int .i64 0, .int .i64 0, .int .u64 1, .slice none 0 0] 39)))) (fun iv _ => 3 - (intOf iv).toNat)
  case atStart => exact Or.inl ⟨rfl, HB, Vo, Vf, Va⟩
  case round =>
    clear HB Vo Vf Va
    rcases hrel with ⟨rfl, HB, Vo, Vf, Va⟩ | ⟨rfl, HB, Vo, Vf, Va⟩ | ⟨rfl, HB, Vo, Vf, Va⟩ | ⟨rfl, HB, Vo, Vf, Va⟩
    · have co := row11 Vo.out
      have cf := row10 Vf.out
      go_wp2_with fail
      refine (K0.out _).mono ?_
      rintro e w7 ⟨rfl, hb⟩
      clear co cf
      replace Vo := Lib.hid (blk_below Vo.out hb (blk_lt Vo.out))
      replace Vf := Lib.hid (blk_below Vf.out hb (blk_lt Vf.out))
      replace Va := Lib.hid (blk_below Va.out hb (blk_lt Va.out))
      replace HB := Lib.hid (And.intro (HB.out.1.trans (hb.mono HB.out.2)) (Nat.le_trans HB.out.2 hb.size))
      clear hb
      obtain ⟨mw8, w8, hw8, hse, VN⟩ := set11 Vo.out (.int .i64 4) (.int .i64 0) (.int .i64 0) (.int .i64 0) (.int .i64 0) (.int .i64 0) (.int .i64 0) (.int .u32 0) (.int .u32 0) (.slice none 0 0) (.slice none 0 0)
      replace Vf := Lib.hid (stayS hse neo_f.symm Vf.out)
      replace Va := Lib.hid (stayS hse neo_a.symm Va.out)
      replace Vo := VN
      replace HB := Lib.hid (belS hse geo HB.out)
      clear VN hse
      obtain ⟨mw9, w9, hw9, hse, VN⟩ := set10 Vf.out (.int .i64 34) (.int .i64 1) (.int .i64 0) (.int .i64 0) (.int .i64 (-1)) (.int .i64 0) (.bool false) (.bool false) (.int .i64 0) (.bool false)
      replace Vo := Lib.hid (stayS hse neo_f Vo.out)
      replace Va := Lib.hid (stayS hse nef_a.symm Va.out)
      replace Vf := VN
      replace HB := Lib.hid (belS hse gef HB.out)
      clear VN hse
      obtain ⟨mw10, w10, hw10, hse, VN⟩ := set7 Va.out (.bool false) (.bool false) (.bool false) (.int .i64 0) (.int .i64 0) (.int .u64 0) (.slice none 0 0)
      replace Vo := Lib.hid (stayS hse neo_a Vo.out)
      replace Vf := Lib.hid (stayS hse nef_a Vf.out)
      replace Va := VN
      replace HB := Lib.hid (belS hse gea HB.out)
      clear VN hse
      go_wp2
      go_roundw
      case rel => exact Or.inr (Or.inl ⟨by go_num, HB, Vo, Vf, Va⟩)
      case measure => simp [intOf]
    · have co := row11 Vo.out
      have cf := row10 Vf.out
      go_wp2_with fail
      refine (K1.out _).mono ?_
      rintro e w7 ⟨rfl, hb⟩
      clear co cf
      replace Vo := Lib.hid (blk_below Vo.out hb (blk_lt Vo.out))
      replace Vf := Lib.hid (blk_below Vf.out hb (blk_lt Vf.out))
      replace Va := Lib.hid (blk_below Va.out hb (blk_lt Va.out))
      replace HB := Lib.hid (And.intro (HB.out.1.trans (hb.mono HB.out.2)) (Nat.le_trans HB.out.2 hb.size))
      clear hb
      obtain ⟨mw8, w8, hw8, hse, VN⟩ := set11 Vo.out (.int .i64 4) (.int .i64 1) (.int .i64 0) (.int .i64 0) (.int .i64 0) (.int .i64 0) (.int .i64 0) (.int .u32 0) (.int .u32 0) (.slice none 0 0) (.slice none 0 0)
      replace Vf := Lib.hid (stayS hse neo_f.symm Vf.out)
      replace Va := Lib.hid (stayS hse neo_a.symm Va.out)
      replace Vo := VN
      replace HB := Lib.hid (belS hse geo HB.out)
      clear VN hse
      obtain ⟨mw9, w9, hw9, hse, VN⟩ := set10 Vf.out (.int .i64 34) (.int .i64 2) (.int .i64 0) (.int .i64 0) (.int .i64 (-1)) (.int .i64 0) (.bool false) (.bool false) (.int .i64 0) (.bool false)
      replace Vo := Lib.hid (stayS hse neo_f Vo.out)
      replace Va := Lib.hid (stayS hse nef_a.symm Va.out)
      replace Vf := VN
      replace HB := Lib.hid (belS hse gef HB.out)
      clear VN hse
      obtain ⟨mw10, w10, hw10, hse, VN⟩ := set7 Va.out (.bool false) (.bool false) (.bool false) (.int .i64 0) (.int .i64 0) (.int .u64 0) (.slice none 0 0)
      replace Vo := Lib.hid (stayS hse neo_a Vo.out)
      replace Vf := Lib.hid (stayS hse nef_a Vf.out)
      replace Va := VN
      replace HB := Lib.hid (belS hse gea HB.out)
      clear VN hse
      go_wp2
      go_roundw
      case rel => exact Or.inr (Or.inr (Or.inl ⟨by go_num, HB, Vo, Vf, Va⟩))
      case measure => simp [intOf]
    · have co := row11 Vo.out
      have cf := row10 Vf.out
      go_wp2_with fail
      refine (K2.out _).mono ?_
      rintro e w7 ⟨rfl, hb⟩
      clear co cf
      replace Vo := Lib.hid (blk_below Vo.out hb (blk_lt Vo.out))
      replace Vf := Lib.hid (blk_below Vf.out hb (blk_lt Vf.out))
      replace Va := Lib.hid (blk_below Va.out hb (blk_lt Va.out))
      replace HB := Lib.hid (And.intro (HB.out.1.trans (hb.mono HB.out.2)) (Nat.le_trans HB.out.2 hb.size))
      clear hb
      obtain ⟨mw8, w8, hw8, hse, VN⟩ := set11 Vo.out (.int .i64 4) (.int .i64 1) (.int .i64 0) (.int .i64 0) (.int .i64 0) (.int .i64 0) (.int .i64 0) (.int .u32 0) (.int .u32 0) (.slice none 0 0) (.slice none 0 0)
      replace Vf := Lib.hid (stayS hse neo_f.symm Vf.out)
      replace Va := Lib.hid (stayS hse neo_a.symm Va.out)
      replace Vo := VN
      replace HB := Lib.hid (belS hse geo HB.out)
      clear VN hse
      obtain ⟨mw9, w9, hw9, hse, VN⟩ := set10 Vf.out (.int .i64 0) (.int .i64 0) (.int .i64 0) (.int .i64 0) (.int .i64 0) (.int .i64 0) (.bool false) (.bool false) (.int .i64 0) (.bool false)
      replace Vo := Lib.hid (stayS hse neo_f Vo.out)
      replace Va := Lib.hid (stayS hse nef_a.symm Va.out)
      replace Vf := VN
      replace HB := Lib.hid (belS hse gef HB.out)
      clear VN hse
      obtain ⟨mw10, w10, hw10, hse, VN⟩ := set7 Va.out (.bool true) (.bool false) (.bool false) (.int .i64 0) (.int .i64 0) (.int .u64 1) (.slice none 0 0)
      replace Vo := Lib.hid (stayS hse neo_a Vo.out)
      replace Vf := Lib.hid (stayS hse nef_a Vf.out)
      replace Va := VN
      replace HB := Lib.hid (belS hse gea HB.out)
      clear VN hse
      go_wp2
      go_roundw
      case rel => exact Or.inr (Or.inr (Or.inr (⟨by go_num, HB, Vo, Vf, Va⟩)))
      case measure => simp [intOf]
    · have co := row11 Vo.out
      have ca := row7 Va.out
      go_wp2_with fail
      refine (V0.out _).mono ?_
      rintro e w7 ⟨rfl, hb⟩
      clear co ca
      replace Vo := Lib.hid (blk_below Vo.out hb (blk_lt Vo.out))
      replace Vf := Lib.hid (blk_below Vf.out hb (blk_lt Vf.out))
      replace Va := Lib.hid (blk_below Va.out hb (blk_lt Va.out))
      replace HB := Lib.hid (And.intro (HB.out.1.trans (hb.mono HB.out.2)) (Nat.le_trans HB.out.2 hb.size))
      clear hb
      have co := row11 Vo.out
      have ca := row7 Va.out
      go_wp2_with fail
      refine (N2.out _).mono ?_
      rintro e w8 ⟨rfl, hb⟩
      clear co ca
      replace Vo := Lib.hid (blk_below Vo.out hb (blk_lt Vo.out))
      replace Vf := Lib.hid (blk_below Vf.out hb (blk_lt Vf.out))
      replace Va := Lib.hid (blk_below Va.out hb (blk_lt Va.out))
      replace HB := Lib.hid (And.intro (HB.out.1.trans (hb.mono HB.out.2)) (Nat.le_trans HB.out.2 hb.size))
      clear hb
      obtain ⟨mw9, w9, hw9, hse, VN⟩ := set10 Vf.out (.int .i64 35) (.int .i64 0) (.int .i64 0) (.int .i64 0) (.int .i64 (-1)) (.int .i64 0) (.bool false) (.bool false) (.int .i64 0) (.bool false)
      replace Vo := Lib.hid (stayS hse neo_f Vo.out)
      replace Va := Lib.hid (stayS hse nef_a.symm Va.out)
      replace Vf := VN
      replace HB := Lib.hid (belS hse gef HB.out)
      clear VN hse
      go_wp2
      clear mw9 hw9
      go_loopw [5] (fun iv wr => (iv = .int .i64 0 ∧ Hid (Below w.heap.size w wr ∧ w.heap.size ≤ wr.heap.size) ∧ Hid (wr.heap[w.heap.size]? = some (.cells #[.int .i64 4, .int .i64 1, .int .i64 0, .int .i64 0, .int .i64 0, .int .i64 0, .int .i64 0, .int .u32 0, .int .u32 0, .slice none 0 0, .slice none 0 0] 29)) ∧ Hid (wr.heap[sf]? = some (.cells #[.int .i64 35, .int .i64 0, .int .i64 0, .int .i64 0, .int .i64 (-1), .int .i64 0, .bool false, .bool false, .int .i64 0, .bool false] 31)) ∧ Hid (wr.heap[sa]? = some (.cells #[.bool true, .bool false, .bool false, .int .i64 0, .int .i64 0, .int .u64 1, .slice none 0 0] 39))) ∨ (iv = .int .i64 1 ∧ Hid (Below w.heap.size w wr ∧ w.heap.size ≤ wr.heap.size) ∧ Hid (wr.heap[w.heap.size]? = some (.cells #[.int .i64 4, .int .i64 1, .int .i64 0, .int .i64 1, .int .i64 0, .int .i64 0, .int .i64 0, .int .u32 0, .int .u32 0, .slice none 0 0, .slice none 0 0] 29)) ∧ Hid (wr.heap[sf]? = some (.cells #[.int .i64 35, .int .i64 1, .int .i64 0, .int .i64 0, .int .i64 (-1), .int .i64 0, .bool false, .bool false, .int .i64 0, .bool false] 31)) ∧ Hid (wr.heap[sa]? = some (.cells #[.bool false, .bool false, .bool false, .int .i64 0, .int .i64 0, .int .u64 0, .slice none 0 0] 39))) ∨ (iv = .int .i64 2 ∧ Hid (Below w.heap.size w wr ∧ w.heap.size ≤ wr.heap.size) ∧ Hid (wr.heap[w.heap.size]? = some (.cells #[.int .i64 4, .int .i64 0, .int .i64 0, .int .i64 1, .int .i64 0, .int .i64 0, .int .i64 0, .int .u32 0, .int .u32 0, .slice none 0 0, .slice none 0 0] 29)) ∧ Hid (wr.heap[sf]? = some (.cells #[.int .i64 0, .int .i64 0, .int .i64 0, .int .i64 0, .int .i64 0, .int .i64 0, .bool false, .bool false, .int .i64 0, .bool false] 31)) ∧ Hid (wr.heap[sa]? = some (.cells #[.bool true, .bool false, .bool false, .int .i64 0, .int .i64 0, .int .u64 0, .slice none 0 0] 39)))) (fun iv _ => 2 - (intOf iv).toNat)
      case atStart => exact Or.inl ⟨rfl, HB, Vo, Vf, Va⟩
      case round =>
        clear HB Vo Vf Va
        rcases hrel with ⟨rfl, HB, Vo, Vf, Va⟩ | ⟨rfl, HB, Vo, Vf, Va⟩ | ⟨rfl, HB, Vo, Vf, Va⟩
        · have co := row11 Vo.out
          have cf := row10 Vf.out
          go_wp2_with fail
          refine (K3.out _).mono ?_
          rintro e w10 ⟨rfl, hb⟩
          clear co cf
          replace Vo := Lib.hid (blk_below Vo.out hb (blk_lt Vo.out))
          replace Vf := Lib.hid (blk_below Vf.out hb (blk_lt Vf.out))
          replace Va := Lib.hid (blk_below Va.out hb (blk_lt Va.out))
          replace HB := Lib.hid (And.intro (HB.out.1.trans (hb.mono HB.out.2)) (Nat.le_trans HB.out.2 hb.size))
          clear hb
          obtain ⟨mw11, w11, hw11, hse, VN⟩ := set11 Vo.out (.int .i64 4) (.int .i64 1) (.int .i64 0) (.int .i64 1) (.int .i64 0) (.int .i64 0) (.int .i64 0) (.int .u32 0) (.int .u32 0) (.slice none 0 0) (.slice none 0 0)
          replace Vf := Lib.hid (stayS hse neo_f.symm Vf.out)
          replace Va := Lib.hid (stayS hse neo_a.symm Va.out)
          replace Vo := VN
          replace HB := Lib.hid (belS hse geo HB.out)
          clear VN hse
          obtain ⟨mw12, w12, hw12, hse, VN⟩ := set10 Vf.out (.int .i64 35) (.int .i64 1) (.int .i64 0) (.int .i64 0) (.int .i64 (-1)) (.int .i64 0) (.bool false) (.bool false) (.int .i64 0) (.bool false)
          replace Vo := Lib.hid (stayS hse neo_f Vo.out)
          replace Va := Lib.hid (stayS hse nef_a.symm Va.out)
          replace Vf := VN
          replace HB := Lib.hid (belS hse gef HB.out)
          clear VN hse
          obtain ⟨mw13, w13, hw13, hse, VN⟩ := set7 Va.out (.bool false) (.bool false) (.bool false) (.int .i64 0) (.int .i64 0) (.int .u64 0) (.slice none 0 0)
          replace Vo := Lib.hid (stayS hse neo_a Vo.out)
          replace Vf := Lib.hid (stayS hse nef_a Vf.out)
          replace Va := VN
          replace HB := Lib.hid (belS hse gea HB.out)
          clear VN hse
          go_wp2
          go_roundw
          case rel => exact Or.inr (Or.inl ⟨by go_num, HB, Vo, Vf, Va⟩)
          case measure => simp [intOf]
        · have co := row11 Vo.out
          have cf := row10 Vf.out
          go_wp2_with fail
          refine (K4.out _).mono ?_
          rintro e w10 ⟨rfl, hb⟩
          clear co cf
          replace Vo := Lib.hid (blk_below Vo.out hb (blk_lt Vo.out))
          replace Vf := Lib.hid (blk_below Vf.out hb (blk_lt Vf.out))
          replace Va := Lib.hid (blk_below Va.out hb (blk_lt Va.out))
          replace HB := Lib.hid (And.intro (HB.out.1.trans (hb.mono HB.out.2)) (Nat.le_trans HB.out.2 hb.size))
          clear hb
          obtain ⟨mw11, w11, hw11, hse, VN⟩ := set11 Vo.out (.int .i64 4) (.int .i64 0) (.int .i64 0) (.int .i64 1) (.int .i64 0) (.int .i64 0) (.int .i64 0) (.int .u32 0) (.int .u32 0) (.slice none 0 0) (.slice none 0 0)
          replace Vf := Lib.hid (stayS hse neo_f.symm Vf.out)
          replace Va := Lib.hid (stayS hse neo_a.symm Va.out)
          replace Vo := VN
          replace HB := Lib.hid (belS hse geo HB.out)
          clear VN hse
          obtain ⟨mw12, w12, hw12, hse, VN⟩ := set10 Vf.out (.int .i64 0) (.int .i64 0) (.int .i64 0) (.int .i64 0) (.int .i64 0) (.int .i64 0) (.bool false) (.bool false) (.int .i64 0) (.bool false)
          replace Vo := Lib.hid (stayS hse neo_f Vo.out)
          replace Va := Lib.hid (stayS hse nef_a.symm Va.out)
          replace Vf := VN
          replace HB := Lib.hid (belS hse gef HB.out)
          clear VN hse
          obtain ⟨mw13, w13, hw13, hse, VN⟩ := set7 Va.out (.bool true) (.bool false) (.bool false) (.int .i64 0) (.int .i64 0) (.int .u64 0) (.slice none 0 0)
          replace Vo := Lib.hid (stayS hse neo_a Vo.out)
          replace Vf := Lib.hid (stayS hse nef_a Vf.out)
          replace Va := VN
          replace HB := Lib.hid (belS hse gea HB.out)
          clear VN hse
          go_wp2
          go_roundw
          case rel => exact Or.inr (Or.inr (⟨by go_num, HB, Vo, Vf, Va⟩))
          case measure => simp [intOf]
        · have co := row11 Vo.out
          have ca := row7 Va.out
          go_wp2_with fail
          refine (V1.out _).mono ?_
          rintro e w10 ⟨rfl, hb⟩
          clear co ca
          replace Vo := Lib.hid (blk_below Vo.out hb (blk_lt Vo.out))
          replace Vf := Lib.hid (blk_below Vf.out hb (blk_lt Vf.out))
          replace Va := Lib.hid (blk_below Va.out hb (blk_lt Va.out))
          replace HB := Lib.hid (And.intro (HB.out.1.trans (hb.mono HB.out.2)) (Nat.le_trans HB.out.2 hb.size))
          clear hb
          have co := row11 Vo.out
          have ca := row7 Va.out
          go_wp2
          clear co ca
          have hBZ := HB.out.2
          refine wp_region_noPanic ?_
          refine wp_region_held_drew (S := (fun wv => Below w.heap.size w10 wv)) (by kernel_rfl) ((((Below.refl w10.heap.size w10).drew).mono hBZ)) (fun hS => ?_)
          refine inv_region (fun a0 fu listed a u => ∃ (lq0 cq0 cq1 xq0 xq1 xq2 : Bool) (v70 v71 v72 v69 v73 v74 v75 p6 p7 p8 : Value) (sp1 sp2 sb : Nat), listed = #[lq0, cq0, cq1, cq1, cq1, cq1, cq1, xq0, xq1, xq2, false, false, false] ∧ a = ⟨((((((((((a0.tmps.setIfInBounds 70 v70).setIfInBounds 71 v71).setIfInBounds 72 v72).setIfInBounds 69 v69).setIfInBounds 73 v73).setIfInBounds 74 v74).setIfInBounds 75 v75).setIfInBounds 6 p6).setIfInBounds 7 p7).setIfInBounds 8 p8), a0.defers⟩ ∧ (bif lq0 then 0 else 1) + (bif cq0 then 0 else 1) + (bif cq1 then 0 else 5) + (bif xq0 then 0 else 1) + (bif xq1 then 0 else 1) + (bif xq2 then 0 else 1) + 3 ≤ fu ∧ (cq1 = true → lq0 = true) ∧ (cq1 = true → cq0 = true) ∧ Below w10.heap.size w10 u ∧ (lq0 = true → v70 = .agg #[.int .i64 4, .int .i64 0, .int .i64 0, .int .i64 1, .int .i64 0, .int .i64 0, .int .i64 0, .int .u32 0, .int .u32 0, .slice none 0 0, .slice none 0 0]) ∧ (cq0 = true → v71 = .agg #[.int .i64 34, .int .i64 0, .int .i64 0, .int .i64 0, .int .i64 (-1), .int .i64 0, .bool false, .bool false, .int .i64 0, .bool false]) ∧ (cq1 = true → v73 = .agg #[.int .i64 4, .int .i64 0, .int .i64 0, .int .i64 1, .int .i64 0, .int .i64 0, .int .i64 0, .int .u32 0, .int .u32 0, .slice none 0 0, .slice none 0 0]) ∧ (cq1 = true → v74 = .agg #[.int .i64 0, .int .i64 0, .int .i64 0, .int .i64 0, .int .i64 0, .int .i64 0, .bool false, .bool false, .int .i64 0, .bool false]) ∧ (cq1 = true → v75 = .agg #[.bool true, .bool false, .bool false, .int .i64 0, .int .i64 0, .int .u64 0, .slice none 0 0]) ∧ (xq0 = true → p6 = .pointer (some ⟨sp1, 0, none⟩) ∧ w10.heap.size ≤ sp1 ∧ u.heap[sp1]? = some (.cells #[.int .i64 0, .int .i64 0, .int .i64 0, .int .i64 0, .int .i64 0, .int .i64 0, .int .i64 0, .int .u32 0, .int .u32 0, .slice none 0 0, .slice none 0 0] 29)) ∧ (xq1 = true → p7 = .pointer (some ⟨sp2, 0, none⟩) ∧ w10.heap.size ≤ sp2 ∧ u.heap[sp2]? = some (.cells #[.int .i64 0, .int .i64 0, .int .i64 0, .int .i64 0, .int .i64 0, .int .i64 0, .bool false, .bool false, .int .i64 0, .bool false] 31)) ∧ (xq2 = true → p8 = .pointer (some ⟨sb, 0, none⟩) ∧ w10.heap.size ≤ sb ∧ u.heap[sb]? = some (.cells #[.bool false, .bool false, .bool false, .int .i64 0, .int .i64 0, .int .u64 0, .slice none 0 0] 39))) ⟨false, false, false, false, false, false, undef, undef, undef, undef, undef, undef, undef, undef, undef, undef, 0, 0, 0, rfl, (by first | (simp only [List.setIfInBounds_toArray, List.set_cons_zero, List.set_cons_succ]; done) | rfl), (by show _ + _ ≤ _; decide), (fun h => nomatch h), (fun h => nomatch h), ((Below.refl w10.heap.size w10).drew), (fun h => nomatch h), (fun h => nomatch h), (fun h => nomatch h), (fun h => nomatch h), (fun h => nomatch h), (fun h => nomatch h), (fun h => nomatch h), (fun h => nomatch h)⟩ ?_
          clear hS; rintro fu listed a u ⟨lq0, cq0, cq1, xq0, xq1, xq2, v70, v71, v72, v69, v73, v74, v75, p6, p7, p8, sp1, sp2, sb, rfl, rfl, hn, hc0, hc1, hS, h70, h71, h73, h74, h75, ksp1, ksp2, ksb⟩ IH
          try simp only [List.setIfInBounds_toArray, List.set_cons_zero, List.set_cons_succ]
          by_cases hall : (lq0 && (cq0 && (cq1 && (xq0 && (xq1 && (xq2)))))) = true
          rotate_left
          · have hbad : ((cq1 && !lq0) || ((cq1 && !cq0) || ((lq0 && (cq0 && (cq1 && (xq0 && (xq1 && (xq2))))))))) = false := inv_or (inv_imp hc0) (inv_or (inv_imp hc1) (inv_not hall))
            obtain ⟨fu, rfl⟩ : ∃ m, fu = m + 1 := ⟨fu - 1, by omega⟩
            refine inv_step (bad := ((cq1 && !lq0) || ((cq1 && !cq0) || ((lq0 && (cq0 && (cq1 && (xq0 && (xq1 && (xq2)))))))))) (fun i => ((i == 0 && !lq0) || ((i == 1 && !cq0) || ((i == 2 && (lq0 && (cq0 && !cq1))) || ((i == 7 && !xq0) || ((i == 8 && !xq1) || ((i == 9 && !xq2)))))))) ((show ∀ lq0 cq0 cq1 xq0 xq1 xq2 : Bool, (((cq1 && !lq0) || ((cq1 && !cq0) || ((lq0 && (cq0 && (cq1 && (xq0 && (xq1 && (xq2))))))))) || (!(Region.ready _ _ #[lq0, cq0, cq1, cq1, cq1, cq1, cq1, xq0, xq1, xq2, false, false, false]).isEmpty && (Region.ready _ _ #[lq0, cq0, cq1, cq1, cq1, cq1, cq1, xq0, xq1, xq2, false, false, false]).all (fun i => ((i == 0 && !lq0) || ((i == 1 && !cq0) || ((i == 2 && (lq0 && (cq0 && !cq1))) || ((i == 7 && !xq0) || ((i == 8 && !xq1) || ((i == 9 && !xq2)))))))))) = true from by intro lq0 cq0 cq1 xq0 xq1 xq2; cases lq0 <;> cases cq0 <;> cases cq1 <;> cases xq0 <;> cases xq1 <;> cases xq2 <;> kernel_rfl) lq0 cq0 cq1 xq0 xq1 xq2) hbad (fun i hi => ?_)
            simp only [Bool.or_eq_true, Bool.and_eq_true, beq_iff_eq, Bool.not_eq_true'] at hi
            clear hall hbad
            rcases hi with ⟨rfl, rfl⟩ | ⟨rfl, rfl⟩ | ⟨rfl, rfl, rfl, rfl⟩ | ⟨rfl, rfl⟩ | ⟨rfl, rfl⟩ | ⟨rfl, rfl⟩
            · skip
              obtain ⟨lc0, lc1, lc2, lc3, lc4, lc5, lc6, lc7, lc8, lc9, lc10⟩ := row11 (blk_below Vo.out hS (blk_lt Vo.out))
              refine inv_arm (o := ⟨some 70, .load 29 (.tmp 1), 29, "law.go:29", #[], none⟩) rfl (fun K hK => ?_)
              go_simp
              clear lc0 lc1 lc2 lc3 lc4 lc5 lc6 lc7 lc8 lc9 lc10
              refine Shut.out hK _ _ (hS.mono hBZ) (fun _ => ?_)
              clear hK K
              try simp only [Act.put, List.setIfInBounds_toArray, List.set_cons_zero, List.set_cons_succ]
              exact IH _ _ _ _ (by omega) ⟨true, cq0, cq1, xq0, xq1, xq2, _, v71, v72, v69, v73, v74, v75, p6, p7, p8, sp1, sp2, sb, rfl, (by (try simp only [List.setIfInBounds_toArray, List.set_cons_zero, List.set_cons_succ]); try rfl), (by simp only [cond_true, cond_false] at hn ⊢; omega), (fun _ => rfl), hc1, hS, (fun _ => rfl), h71, h73, h74, h75, (fun h => ⟨(ksp1 h).1, (ksp1 h).2.1, blk_below (ksp1 h).2.2 (Below.refl _ _) (blk_lt (ksp1 h).2.2)⟩), (fun h => ⟨(ksp2 h).1, (ksp2 h).2.1, blk_below (ksp2 h).2.2 (Below.refl _ _) (blk_lt (ksp2 h).2.2)⟩), (fun h => ⟨(ksb h).1, (ksb h).2.1, blk_below (ksb h).2.2 (Below.refl _ _) (blk_lt (ksb h).2.2)⟩)⟩
            · skip
              refine inv_arm (o := ⟨some 71, .call { callee := .value (.func 14), args := #[.const (Value.int IntKind.i64 34)], argTypes := #[3] }, 31, "law.go:29", #[], none⟩) rfl (fun K hK => ?_)
              go_simp
              go_wp2_with fail
              refine (N1.out _).mono ?_; rintro e u1 ⟨rfl, hb⟩
              replace hS := hS.trans (hb.mono hS.size)
              refine Shut.out hK _ _ (hS.mono hBZ) (fun _ => ?_)
              clear hK K
              try simp only [Act.put, List.setIfInBounds_toArray, List.set_cons_zero, List.set_cons_succ]
              exact IH _ _ _ _ (by omega) ⟨lq0, true, cq1, xq0, xq1, xq2, v70, _, v72, v69, v73, v74, v75, p6, p7, p8, sp1, sp2, sb, rfl, (by (try simp only [List.setIfInBounds_toArray, List.set_cons_zero, List.set_cons_succ]); try rfl), (by simp only [cond_true, cond_false] at hn ⊢; omega), hc0, (fun _ => rfl), hS, h70, (fun _ => rfl), h73, h74, h75, (fun h => ⟨(ksp1 h).1, (ksp1 h).2.1, blk_below (ksp1 h).2.2 hb (blk_lt (ksp1 h).2.2)⟩), (fun h => ⟨(ksp2 h).1, (ksp2 h).2.1, blk_below (ksp2 h).2.2 hb (blk_lt (ksp2 h).2.2)⟩), (fun h => ⟨(ksb h).1, (ksb h).2.1, blk_below (ksb h).2.2 hb (blk_lt (ksb h).2.2)⟩)⟩
            · skip
              obtain rfl := h70 rfl
              obtain rfl := h71 rfl
              refine inv_arm (o := ⟨some 72, .call { callee := .value (.func 7), args := #[.tmp 70, .tmp 71, .const (Value.int IntKind.i64 0), .const (Value.int IntKind.i64 9)], argTypes := #[29, 31, 2, 2] }, 40, "law.go:29", #[⟨0, .data⟩, ⟨1, .data⟩, ⟨1, .chain⟩], none⟩) rfl (fun K hK => ?_)
              go_simp
              go_wp2_with fail
              refine (K5.out _).mono ?_; rintro e u2 ⟨rfl, hb⟩
              replace hS := hS.trans (hb.mono hS.size)
              obtain ⟨fu, rfl⟩ : ∃ m, fu = m + 4 := ⟨fu - 4, by simp only [cond_true, cond_false] at hn; omega⟩
              refine Shut.out hK _ _ (hS.mono hBZ) (fun _ => ?_)
              clear hK K
              try simp only [Act.put, List.setIfInBounds_toArray, List.set_cons_zero, List.set_cons_succ]
              refine wpAnyH_take (i := 3) (oi := ⟨some 69, .move (.tmp 72), 40, "law.go:29", #[⟨2, .data⟩], none⟩) (v := ?_) rfl (by kernel_rfl) ((show ∀ xq0 xq1 xq2 : Bool, Region.free _ _ #[true, true, true, false, false, false, false, xq0, xq1, xq2, false, false, false] 3 = true from by intro xq0 xq1 xq2; cases xq0 <;> cases xq1 <;> cases xq2 <;> kernel_rfl) xq0 xq1 xq2) ((show ∀ xq0 xq1 xq2 : Bool, (Region.ready _ _ #[true, true, true, false, false, false, false, xq0, xq1, xq2, false, false, false]).contains 3 = true from by intro xq0 xq1 xq2; cases xq0 <;> cases xq1 <;> cases xq2 <;> kernel_rfl) xq0 xq1 xq2) (fun _ _ _ h => h) (Or.inl ⟨by rfl, ?_⟩) (hS.mono hBZ) ?_
              rotate_left
              · intro wv _; go_simp; try with_reducible rfl
              try simp only [Act.put, List.setIfInBounds_toArray, List.set_cons_zero, List.set_cons_succ]
              refine wpAnyH_take (i := 4) (oi := ⟨some 73, .extract (.tmp 69) 0, 29, "law.go:29", #[⟨3, .data⟩], none⟩) (v := ?_) rfl (by kernel_rfl) ((show ∀ xq0 xq1 xq2 : Bool, Region.free _ _ #[true, true, true, true, false, false, false, xq0, xq1, xq2, false, false, false] 4 = true from by intro xq0 xq1 xq2; cases xq0 <;> cases xq1 <;> cases xq2 <;> kernel_rfl) xq0 xq1 xq2) ((show ∀ xq0 xq1 xq2 : Bool, (Region.ready _ _ #[true, true, true, true, false, false, false, xq0, xq1, xq2, false, false, false]).contains 4 = true from by intro xq0 xq1 xq2; cases xq0 <;> cases xq1 <;> cases xq2 <;> kernel_rfl) xq0 xq1 xq2) (fun _ _ _ h => h) (Or.inl ⟨by rfl, ?_⟩) (hS.mono hBZ) ?_
              rotate_left
              · intro wv _; go_simp; try with_reducible rfl
              try simp only [Act.put, List.setIfInBounds_toArray, List.set_cons_zero, List.set_cons_succ]
              refine wpAnyH_take (i := 5) (oi := ⟨some 74, .extract (.tmp 69) 1, 31, "law.go:29", #[⟨3, .data⟩, ⟨10, .gcOnly .lateStores⟩], none⟩) (v := ?_) rfl (by kernel_rfl) ((show ∀ xq0 xq1 xq2 : Bool, Region.free _ _ #[true, true, true, true, true, false, false, xq0, xq1, xq2, false, false, false] 5 = true from by intro xq0 xq1 xq2; cases xq0 <;> cases xq1 <;> cases xq2 <;> kernel_rfl) xq0 xq1 xq2) ((show ∀ xq0 xq1 xq2 : Bool, (Region.ready _ _ #[true, true, true, true, true, false, false, xq0, xq1, xq2, false, false, false]).contains 5 = true from by intro xq0 xq1 xq2; cases xq0 <;> cases xq1 <;> cases xq2 <;> kernel_rfl) xq0 xq1 xq2) (fun _ _ _ h => h) (Or.inl ⟨by rfl, ?_⟩) (hS.mono hBZ) ?_
              rotate_left
              · intro wv _; go_simp; try with_reducible rfl
              try simp only [Act.put, List.setIfInBounds_toArray, List.set_cons_zero, List.set_cons_succ]
              refine wpAnyH_take (i := 6) (oi := ⟨some 75, .extract (.tmp 69) 2, 39, "law.go:29", #[⟨3, .data⟩, ⟨11, .gcOnly .lateStores⟩], none⟩) (v := ?_) rfl (by kernel_rfl) ((show ∀ xq0 xq1 xq2 : Bool, Region.free _ _ #[true, true, true, true, true, true, false, xq0, xq1, xq2, false, false, false] 6 = true from by intro xq0 xq1 xq2; cases xq0 <;> cases xq1 <;> cases xq2 <;> kernel_rfl) xq0 xq1 xq2) ((show ∀ xq0 xq1 xq2 : Bool, (Region.ready _ _ #[true, true, true, true, true, true, false, xq0, xq1, xq2, false, false, false]).contains 6 = true from by intro xq0 xq1 xq2; cases xq0 <;> cases xq1 <;> cases xq2 <;> kernel_rfl) xq0 xq1 xq2) (fun _ _ _ h => h) (Or.inl ⟨by rfl, ?_⟩) (hS.mono hBZ) ?_
              rotate_left
              · intro wv _; go_simp; try with_reducible rfl
              try simp only [Act.put, List.setIfInBounds_toArray, List.set_cons_zero, List.set_cons_succ]
              exact IH _ _ _ _ (by omega) ⟨true, true, true, xq0, xq1, xq2, _, _, _, _, _, _, _, p6, p7, p8, sp1, sp2, sb, rfl, (by (try simp only [List.setIfInBounds_toArray, List.set_cons_zero, List.set_cons_succ]); try rfl), (by simp only [cond_true, cond_false] at hn ⊢; omega), (fun _ => rfl), (fun _ => rfl), hS, (fun _ => rfl), (fun _ => rfl), (fun _ => rfl), (fun _ => rfl), (fun _ => rfl), (fun h => ⟨(ksp1 h).1, (ksp1 h).2.1, blk_below (ksp1 h).2.2 hb (blk_lt (ksp1 h).2.2)⟩), (fun h => ⟨(ksp2 h).1, (ksp2 h).2.1, blk_below (ksp2 h).2.2 hb (blk_lt (ksp2 h).2.2)⟩), (fun h => ⟨(ksb h).1, (ksb h).2.1, blk_below (ksb h).2.2 hb (blk_lt (ksb h).2.2)⟩)⟩
            · skip
              refine inv_arm (o := ⟨some 6, .alloc 29, 0, "law.go:29", #[], none⟩) rfl (fun K hK => ?_)
              go_simp
              have zs := hS.size
              have hb := (Below.refl u.heap.size u).alloc (Nat.le_refl _) (.cells #[.int .i64 0, .int .i64 0, .int .i64 0, .int .i64 0, .int .i64 0, .int .i64 0, .int .i64 0, .int .u32 0, .int .u32 0, .slice none 0 0, .slice none 0 0] 29)
              replace hS := hS.trans (hb.mono hS.size)
              refine Shut.out hK _ _ (hS.mono hBZ) (fun _ => ?_)
              clear hK K
              try simp only [Act.put, List.setIfInBounds_toArray, List.set_cons_zero, List.set_cons_succ]
              exact IH _ _ _ _ (by omega) ⟨lq0, cq0, cq1, true, xq1, xq2, v70, v71, v72, v69, v73, v74, v75, _, p7, p8, u.heap.size, sp2, sb, rfl, (by (try simp only [List.setIfInBounds_toArray, List.set_cons_zero, List.set_cons_succ]); try rfl), (by simp only [cond_true, cond_false] at hn ⊢; omega), hc0, hc1, hS, h70, h71, h73, h74, h75, (fun _ => ⟨rfl, zs, heap_alloc_new _ _⟩), (fun h => ⟨(ksp2 h).1, (ksp2 h).2.1, blk_below (ksp2 h).2.2 hb (blk_lt (ksp2 h).2.2)⟩), (fun h => ⟨(ksb h).1, (ksb h).2.1, blk_below (ksb h).2.2 hb (blk_lt (ksb h).2.2)⟩)⟩
            · skip
              refine inv_arm (o := ⟨some 7, .alloc 31, 0, "law.go:29", #[], none⟩) rfl (fun K hK => ?_)
              go_simp
              have zs := hS.size
              have hb := (Below.refl u.heap.size u).alloc (Nat.le_refl _) (.cells #[.int .i64 0, .int .i64 0, .int .i64 0, .int .i64 0, .int .i64 0, .int .i64 0, .bool false, .bool false, .int .i64 0, .bool false] 31)
              replace hS := hS.trans (hb.mono hS.size)
              refine Shut.out hK _ _ (hS.mono hBZ) (fun _ => ?_)
              clear hK K
              try simp only [Act.put, List.setIfInBounds_toArray, List.set_cons_zero, List.set_cons_succ]
              exact IH _ _ _ _ (by omega) ⟨lq0, cq0, cq1, xq0, true, xq2, v70, v71, v72, v69, v73, v74, v75, p6, _, p8, sp1, u.heap.size, sb, rfl, (by (try simp only [List.setIfInBounds_toArray, List.set_cons_zero, List.set_cons_succ]); try rfl), (by simp only [cond_true, cond_false] at hn ⊢; omega), hc0, hc1, hS, h70, h71, h73, h74, h75, (fun h => ⟨(ksp1 h).1, (ksp1 h).2.1, blk_below (ksp1 h).2.2 hb (blk_lt (ksp1 h).2.2)⟩), (fun _ => ⟨rfl, zs, heap_alloc_new _ _⟩), (fun h => ⟨(ksb h).1, (ksb h).2.1, blk_below (ksb h).2.2 hb (blk_lt (ksb h).2.2)⟩)⟩
            · skip
              refine inv_arm (o := ⟨some 8, .alloc 39, 0, "law.go:29", #[], none⟩) rfl (fun K hK => ?_)
              go_simp
              have zs := hS.size
              have hb := (Below.refl u.heap.size u).alloc (Nat.le_refl _) (.cells #[.bool false, .bool false, .bool false, .int .i64 0, .int .i64 0, .int .u64 0, .slice none 0 0] 39)
              replace hS := hS.trans (hb.mono hS.size)
              refine Shut.out hK _ _ (hS.mono hBZ) (fun _ => ?_)
              clear hK K
              try simp only [Act.put, List.setIfInBounds_toArray, List.set_cons_zero, List.set_cons_succ]
              exact IH _ _ _ _ (by omega) ⟨lq0, cq0, cq1, xq0, xq1, true, v70, v71, v72, v69, v73, v74, v75, p6, p7, _, sp1, sp2, u.heap.size, rfl, (by (try simp only [List.setIfInBounds_toArray, List.set_cons_zero, List.set_cons_succ]); try rfl), (by simp only [cond_true, cond_false] at hn ⊢; omega), hc0, hc1, hS, h70, h71, h73, h74, h75, (fun h => ⟨(ksp1 h).1, (ksp1 h).2.1, blk_below (ksp1 h).2.2 hb (blk_lt (ksp1 h).2.2)⟩), (fun h => ⟨(ksp2 h).1, (ksp2 h).2.1, blk_below (ksp2 h).2.2 hb (blk_lt (ksp2 h).2.2)⟩), (fun _ => ⟨rfl, zs, heap_alloc_new _ _⟩)⟩
          simp only [Bool.and_eq_true] at hall
          obtain ⟨rfl, rfl, rfl, rfl, rfl, rfl⟩ := hall
          obtain rfl := h70 rfl
          obtain rfl := h71 rfl
          obtain rfl := h73 rfl
          obtain rfl := h74 rfl
          obtain rfl := h75 rfl
          obtain ⟨rfl, gsp1, Vsp1⟩ := ksp1 rfl
          obtain ⟨rfl, gsp2, Vsp2⟩ := ksp2 rfl
          obtain ⟨rfl, gsb, Vsb⟩ := ksb rfl
          obtain ⟨fu, rfl⟩ : ∃ m, fu = m + 3 := ⟨fu - 3, by simp only [cond_true] at hn; omega⟩
          clear IH hn hc0 hc1
          have neo_p1 := Nat.ne_of_lt (Nat.lt_of_lt_of_le (blk_lt Vo.out) gsp1)
          have nef_p1 := Nat.ne_of_lt (Nat.lt_of_lt_of_le (blk_lt Vf.out) gsp1)
          have nea_p1 := Nat.ne_of_lt (Nat.lt_of_lt_of_le (blk_lt Va.out) gsp1)
          have neo_p2 := Nat.ne_of_lt (Nat.lt_of_lt_of_le (blk_lt Vo.out) gsp2)
          have nef_p2 := Nat.ne_of_lt (Nat.lt_of_lt_of_le (blk_lt Vf.out) gsp2)
          have nea_p2 := Nat.ne_of_lt (Nat.lt_of_lt_of_le (blk_lt Va.out) gsp2)
          have neo_b := Nat.ne_of_lt (Nat.lt_of_lt_of_le (blk_lt Vo.out) gsb)
          have nef_b := Nat.ne_of_lt (Nat.lt_of_lt_of_le (blk_lt Vf.out) gsb)
          have nea_b := Nat.ne_of_lt (Nat.lt_of_lt_of_le (blk_lt Va.out) gsb)
          have nep1_p2 : sp1 ≠ sp2 := blk_ne Vsp1 Vsp2 (by decide)
          have nep1_b : sp1 ≠ sb := blk_ne Vsp1 Vsb (by decide)
          have nep2_b : sp2 ≠ sb := blk_ne Vsp2 Vsb (by decide)
          have gep1 := Nat.le_trans HB.out.2 gsp1
          have gep2 := Nat.le_trans HB.out.2 gsp2
          have geb := Nat.le_trans HB.out.2 gsb
          replace Vo := Lib.hid (blk_below Vo.out hS (blk_lt Vo.out))
          replace Vf := Lib.hid (blk_below Vf.out hS (blk_lt Vf.out))
          replace Va := Lib.hid (blk_below Va.out hS (blk_lt Va.out))
          replace HB := Lib.hid (And.intro (HB.out.1.trans (hS.mono HB.out.2)) (Nat.le_trans HB.out.2 hS.size))
          have Vp1 := Lib.hid Vsp1
          clear Vsp1
          have Vp2 := Lib.hid Vsp2
          clear Vsp2
          have Vb := Lib.hid Vsb
          clear Vsb
          obtain ⟨w11, hw11⟩ : ∃ W, u.setCells (sp1) 0 [.int .i64 4, .int .i64 0, .int .i64 0, .int .i64 1, .int .i64 0, .int .i64 0, .int .i64 0, .int .u32 0, .int .u32 0, .slice none 0 0, .slice none 0 0] = W := ⟨_, rfl⟩
          have thp1 := Lib.hid (there_blk Vp1.out (k := 11) rfl)
          replace Vo := Lib.hid (stayS hw11 neo_p1 Vo.out)
          replace Vf := Lib.hid (stayS hw11 nef_p1 Vf.out)
          replace Va := Lib.hid (stayS hw11 nea_p1 Va.out)
          replace Vp2 := Lib.hid (stayS hw11 nep1_p2.symm Vp2.out)
          replace Vb := Lib.hid (stayS hw11 nep1_b.symm Vb.out)
          replace Vp1 := Lib.hid (setS hw11 Vp1.out rfl)
          replace HB := Lib.hid (belS hw11 gep1 HB.out)
          replace hS := (hS.mono hBZ)
          refine wpAnyH_ready (rs := [10]) (by kernel_rfl) (by simp) (AllReadyH.cons (o := ⟨none, .store 29 (.tmp 6) (.tmp 73), 0, "law.go:29", #[⟨7, .data⟩, ⟨4, .data⟩, ⟨2, .chain⟩, ⟨0, .phase⟩, ⟨1, .phase⟩, ⟨2, .phase⟩, ⟨3, .phase⟩, ⟨4, .phase⟩, ⟨5, .textOnly .lateStores⟩, ⟨6, .textOnly .lateStores⟩, ⟨7, .phase⟩, ⟨8, .phase⟩, ⟨9, .phase⟩], none⟩) rfl (fun K hK => ?_) AllReadyH.nil)
          refine op_storeS (by rfl) rfl rfl rfl thp1.out (by kernel_rfl) (by simp [Value.oneCell']) hw11 ?_
          replace hS := hw11 ▸ below_setCells gep1 [.int .i64 4, .int .i64 0, .int .i64 0, .int .i64 1, .int .i64 0, .int .i64 0, .int .i64 0, .int .u32 0, .int .u32 0, .slice none 0 0, .slice none 0 0] 0 _ hS
          obtain ⟨w12, hw12⟩ : ∃ W, w11.setCells (sp2) 0 [.int .i64 0, .int .i64 0, .int .i64 0, .int .i64 0, .int .i64 0, .int .i64 0, .bool false, .bool false, .int .i64 0, .bool false] = W := ⟨_, rfl⟩
          have thp2 := Lib.hid (there_blk Vp2.out (k := 10) rfl)
          replace Vo := Lib.hid (stayS hw12 neo_p2 Vo.out)
          replace Vf := Lib.hid (stayS hw12 nef_p2 Vf.out)
          replace Va := Lib.hid (stayS hw12 nea_p2 Va.out)
          replace Vp1 := Lib.hid (stayS hw12 nep1_p2 Vp1.out)
          replace Vb := Lib.hid (stayS hw12 nep2_b.symm Vb.out)
          replace Vp2 := Lib.hid (setS hw12 Vp2.out rfl)
          replace HB := Lib.hid (belS hw12 gep2 HB.out)
          refine Shut.out hK _ _ hS (fun _ => ?_)
          clear hK K
          try simp only [Act.put, List.setIfInBounds_toArray, List.set_cons_zero, List.set_cons_succ]
          refine wpAnyH_ready (rs := [11]) (by kernel_rfl) (by simp) (AllReadyH.cons (o := ⟨none, .store 31 (.tmp 7) (.tmp 74), 0, "law.go:29", #[⟨8, .data⟩, ⟨5, .data⟩, ⟨10, .chain⟩, ⟨0, .phase⟩, ⟨1, .phase⟩, ⟨2, .phase⟩, ⟨3, .phase⟩, ⟨4, .phase⟩, ⟨5, .phase⟩, ⟨6, .textOnly .lateStores⟩, ⟨7, .phase⟩, ⟨8, .phase⟩, ⟨9, .phase⟩, ⟨10, .phase⟩], none⟩) rfl (fun K hK => ?_) AllReadyH.nil)
          refine op_storeS (by rfl) rfl rfl rfl thp2.out (by kernel_rfl) (by simp [Value.oneCell']) hw12 ?_
          replace hS := hw12 ▸ below_setCells gep2 [.int .i64 0, .int .i64 0, .int .i64 0, .int .i64 0, .int .i64 0, .int .i64 0, .bool false, .bool false, .int .i64 0, .bool false] 0 _ hS
          obtain ⟨w13, hw13⟩ : ∃ W, w12.setCells (sb) 0 [.bool true, .bool false, .bool false, .int .i64 0, .int .i64 0, .int .u64 0, .slice none 0 0] = W := ⟨_, rfl⟩
          have thb := Lib.hid (there_blk Vb.out (k := 7) rfl)
          replace Vo := Lib.hid (stayS hw13 neo_b Vo.out)
          replace Vf := Lib.hid (stayS hw13 nef_b Vf.out)
          replace Va := Lib.hid (stayS hw13 nea_b Va.out)
          replace Vp1 := Lib.hid (stayS hw13 nep1_b Vp1.out)
          replace Vp2 := Lib.hid (stayS hw13 nep2_b Vp2.out)
          replace Vb := Lib.hid (setS hw13 Vb.out rfl)
          replace HB := Lib.hid (belS hw13 geb HB.out)
          refine Shut.out hK _ _ hS (fun _ => ?_)
          clear hK K
          try simp only [Act.put, List.setIfInBounds_toArray, List.set_cons_zero, List.set_cons_succ]
          refine wpAnyH_ready (rs := [12]) (by kernel_rfl) (by simp) (AllReadyH.cons (o := ⟨none, .store 39 (.tmp 8) (.tmp 75), 0, "law.go:29", #[⟨9, .data⟩, ⟨6, .data⟩, ⟨11, .chain⟩, ⟨0, .phase⟩, ⟨1, .phase⟩, ⟨2, .phase⟩, ⟨3, .phase⟩, ⟨4, .phase⟩, ⟨5, .phase⟩, ⟨6, .phase⟩, ⟨7, .phase⟩, ⟨8, .phase⟩, ⟨9, .phase⟩, ⟨10, .phase⟩, ⟨11, .phase⟩], none⟩) rfl (fun K hK => ?_) AllReadyH.nil)
          refine op_storeS (by rfl) rfl rfl rfl thb.out (by kernel_rfl) (by simp [Value.oneCell']) hw13 ?_
          replace hS := hw13 ▸ below_setCells geb [.bool true, .bool false, .bool false, .int .i64 0, .int .i64 0, .int .u64 0, .slice none 0 0] 0 _ hS
          refine Shut.out hK _ _ hS (fun _ => ?_)
          clear hK K
          try simp only [Act.put, List.setIfInBounds_toArray, List.set_cons_zero, List.set_cons_succ]
          refine wpAnyH_done (by kernel_rfl) ?_ _
          refine NoPanic.normal ?_
          clear hS hBZ gsp1 gsp2 gsb thp1 thp2 thb
          clear Vp1
          clear Vp2
          go_wp2
          have hBZ := HB.out.2
          refine wp_region_noPanic ?_
          refine wp_region_held_drew (S := (fun wv => Below w.heap.size w13 wv)) (by kernel_rfl) ((((Below.refl w13.heap.size w13).drew).mono hBZ)) (fun hS => ?_)
          refine inv_region (fun a0 fu listed a u => ∃ (lq0 cq0 cq1 xq0 xq1 xq2 : Bool) (v77 v78 v79 v76 v80 v81 v82 p9 p10 p11 : Value) (sq1 sq2 sc : Nat), listed = #[lq0, cq0, cq1, cq1, cq1, cq1, cq1, xq0, xq1, xq2, false, false, false] ∧ a = ⟨((((((((((a0.tmps.setIfInBounds 77 v77).setIfInBounds 78 v78).setIfInBounds 79 v79).setIfInBounds 76 v76).setIfInBounds 80 v80).setIfInBounds 81 v81).setIfInBounds 82 v82).setIfInBounds 9 p9).setIfInBounds 10 p10).setIfInBounds 11 p11), a0.defers⟩ ∧ (bif lq0 then 0 else 1) + (bif cq0 then 0 else 1) + (bif cq1 then 0 else 5) + (bif xq0 then 0 else 1) + (bif xq1 then 0 else 1) + (bif xq2 then 0 else 1) + 3 ≤ fu ∧ (cq1 = true → lq0 = true) ∧ (cq1 = true → cq0 = true) ∧ Below w13.heap.size w13 u ∧ (lq0 = true → v77 = .agg #[.int .i64 4, .int .i64 0, .int .i64 0, .int .i64 1, .int .i64 0, .int .i64 0, .int .i64 0, .int .u32 0, .int .u32 0, .slice none 0 0, .slice none 0 0]) ∧ (cq0 = true → v78 = .agg #[.int .i64 35, .int .i64 0, .int .i64 0, .int .i64 0, .int .i64 (-1), .int .i64 0, .bool false, .bool false, .int .i64 0, .bool false]) ∧ (cq1 = true → v80 = .agg #[.int .i64 4, .int .i64 0, .int .i64 0, .int .i64 1, .int .i64 0, .int .i64 0, .int .i64 0, .int .u32 0, .int .u32 0, .slice none 0 0, .slice none 0 0]) ∧ (cq1 = true → v81 = .agg #[.int .i64 0, .int .i64 0, .int .i64 0, .int .i64 0, .int .i64 0, .int .i64 0, .bool false, .bool false, .int .i64 0, .bool false]) ∧ (cq1 = true → v82 = .agg #[.bool false, .bool false, .bool false, .int .i64 0, .int .i64 1, .int .u64 0, .slice none 0 0]) ∧ (xq0 = true → p9 = .pointer (some ⟨sq1, 0, none⟩) ∧ w13.heap.size ≤ sq1 ∧ u.heap[sq1]? = some (.cells #[.int .i64 0, .int .i64 0, .int .i64 0, .int .i64 0, .int .i64 0, .int .i64 0, .int .i64 0, .int .u32 0, .int .u32 0, .slice none 0 0, .slice none 0 0] 29)) ∧ (xq1 = true → p10 = .pointer (some ⟨sq2, 0, none⟩) ∧ w13.heap.size ≤ sq2 ∧ u.heap[sq2]? = some (.cells #[.int .i64 0, .int .i64 0, .int .i64 0, .int .i64 0, .int .i64 0, .int .i64 0, .bool false, .bool false, .int .i64 0, .bool false] 31)) ∧ (xq2 = true → p11 = .pointer (some ⟨sc, 0, none⟩) ∧ w13.heap.size ≤ sc ∧ u.heap[sc]? = some (.cells #[.bool false, .bool false, .bool false, .int .i64 0, .int .i64 0, .int .u64 0, .slice none 0 0] 39))) ⟨false, false, false, false, false, false, undef, undef, undef, undef, undef, undef, undef, undef, undef, undef, 0, 0, 0, rfl, (by first | (simp only [List.setIfInBounds_toArray, List.set_cons_zero, List.set_cons_succ]; done) | rfl), (by show _ + _ ≤ _; decide), (fun h => nomatch h), (fun h => nomatch h), ((Below.refl w13.heap.size w13).drew), (fun h => nomatch h), (fun h => nomatch h), (fun h => nomatch h), (fun h => nomatch h), (fun h => nomatch h), (fun h => nomatch h), (fun h => nomatch h), (fun h => nomatch h)⟩ ?_
          clear hS; rintro fu listed a u ⟨lq0, cq0, cq1, xq0, xq1, xq2, v77, v78, v79, v76, v80, v81, v82, p9, p10, p11, sq1, sq2, sc, rfl, rfl, hn, hc0, hc1, hS, h77, h78, h80, h81, h82, ksq1, ksq2, ksc⟩ IH
          try simp only [List.setIfInBounds_toArray, List.set_cons_zero, List.set_cons_succ]
          by_cases hall : (lq0 && (cq0 && (cq1 && (xq0 && (xq1 && (xq2)))))) = true
          rotate_left
          · have hbad : ((cq1 && !lq0) || ((cq1 && !cq0) || ((lq0 && (cq0 && (cq1 && (xq0 && (xq1 && (xq2))))))))) = false := inv_or (inv_imp hc0) (inv_or (inv_imp hc1) (inv_not hall))
            obtain ⟨fu, rfl⟩ : ∃ m, fu = m + 1 := ⟨fu - 1, by omega⟩
            refine inv_step (bad := ((cq1 && !lq0) || ((cq1 && !cq0) || ((lq0 && (cq0 && (cq1 && (xq0 && (xq1 && (xq2)))))))))) (fun i => ((i == 0 && !lq0) || ((i == 1 && !cq0) || ((i == 2 && (lq0 && (cq0 && !cq1))) || ((i == 7 && !xq0) || ((i == 8 && !xq1) || ((i == 9 && !xq2)))))))) ((show ∀ lq0 cq0 cq1 xq0 xq1 xq2 : Bool, (((cq1 && !lq0) || ((cq1 && !cq0) || ((lq0 && (cq0 && (cq1 && (xq0 && (xq1 && (xq2))))))))) || (!(Region.ready _ _ #[lq0, cq0, cq1, cq1, cq1, cq1, cq1, xq0, xq1, xq2, false, false, false]).isEmpty && (Region.ready _ _ #[lq0, cq0, cq1, cq1, cq1, cq1, cq1, xq0, xq1, xq2, false, false, false]).all (fun i => ((i == 0 && !lq0) || ((i == 1 && !cq0) || ((i == 2 && (lq0 && (cq0 && !cq1))) || ((i == 7 && !xq0) || ((i == 8 && !xq1) || ((i == 9 && !xq2)))))))))) = true from by intro lq0 cq0 cq1 xq0 xq1 xq2; cases lq0 <;> cases cq0 <;> cases cq1 <;> cases xq0 <;> cases xq1 <;> cases xq2 <;> kernel_rfl) lq0 cq0 cq1 xq0 xq1 xq2) hbad (fun i hi => ?_)
            simp only [Bool.or_eq_true, Bool.and_eq_true, beq_iff_eq, Bool.not_eq_true'] at hi
            clear hall hbad
            rcases hi with ⟨rfl, rfl⟩ | ⟨rfl, rfl⟩ | ⟨rfl, rfl, rfl, rfl⟩ | ⟨rfl, rfl⟩ | ⟨rfl, rfl⟩ | ⟨rfl, rfl⟩
            · skip
              obtain ⟨lc0, lc1, lc2, lc3, lc4, lc5, lc6, lc7, lc8, lc9, lc10⟩ := row11 (blk_below Vo.out hS (blk_lt Vo.out))
              refine inv_arm (o := ⟨some 77, .load 29 (.tmp 1), 29, "law.go:30", #[], none⟩) rfl (fun K hK => ?_)
              go_simp
              clear lc0 lc1 lc2 lc3 lc4 lc5 lc6 lc7 lc8 lc9 lc10
              refine Shut.out hK _ _ (hS.mono hBZ) (fun _ => ?_)
              clear hK K
              try simp only [Act.put, List.setIfInBounds_toArray, List.set_cons_zero, List.set_cons_succ]
              exact IH _ _ _ _ (by omega) ⟨true, cq0, cq1, xq0, xq1, xq2, _, v78, v79, v76, v80, v81, v82, p9, p10, p11, sq1, sq2, sc, rfl, (by (try simp only [List.setIfInBounds_toArray, List.set_cons_zero, List.set_cons_succ]); try rfl), (by simp only [cond_true, cond_false] at hn ⊢; omega), (fun _ => rfl), hc1, hS, (fun _ => rfl), h78, h80, h81, h82, (fun h => ⟨(ksq1 h).1, (ksq1 h).2.1, blk_below (ksq1 h).2.2 (Below.refl _ _) (blk_lt (ksq1 h).2.2)⟩), (fun h => ⟨(ksq2 h).1, (ksq2 h).2.1, blk_below (ksq2 h).2.2 (Below.refl _ _) (blk_lt (ksq2 h).2.2)⟩), (fun h => ⟨(ksc h).1, (ksc h).2.1, blk_below (ksc h).2.2 (Below.refl _ _) (blk_lt (ksc h).2.2)⟩)⟩
            · skip
              refine inv_arm (o := ⟨some 78, .call { callee := .value (.func 14), args := #[.const (Value.int IntKind.i64 35)], argTypes := #[3] }, 31, "law.go:30", #[], none⟩) rfl (fun K hK => ?_)
              go_simp
              go_wp2_with fail
              refine (N2.out _).mono ?_; rintro e u1 ⟨rfl, hb⟩
              replace hS := hS.trans (hb.mono hS.size)
              refine Shut.out hK _ _ (hS.mono hBZ) (fun _ => ?_)
              clear hK K
              try simp only [Act.put, List.setIfInBounds_toArray, List.set_cons_zero, List.set_cons_succ]
              exact IH _ _ _ _ (by omega) ⟨lq0, true, cq1, xq0, xq1, xq2, v77, _, v79, v76, v80, v81, v82, p9, p10, p11, sq1, sq2, sc, rfl, (by (try simp only [List.setIfInBounds_toArray, List.set_cons_zero, List.set_cons_succ]); try rfl), (by simp only [cond_true, cond_false] at hn ⊢; omega), hc0, (fun _ => rfl), hS, h77, (fun _ => rfl), h80, h81, h82, (fun h => ⟨(ksq1 h).1, (ksq1 h).2.1, blk_below (ksq1 h).2.2 hb (blk_lt (ksq1 h).2.2)⟩), (fun h => ⟨(ksq2 h).1, (ksq2 h).2.1, blk_below (ksq2 h).2.2 hb (blk_lt (ksq2 h).2.2)⟩), (fun h => ⟨(ksc h).1, (ksc h).2.1, blk_below (ksc h).2.2 hb (blk_lt (ksc h).2.2)⟩)⟩
            · skip
              obtain rfl := h77 rfl
              obtain rfl := h78 rfl
              refine inv_arm (o := ⟨some 79, .call { callee := .value (.func 9), args := #[.tmp 77, .tmp 78], argTypes := #[29, 31] }, 40, "law.go:30", #[⟨0, .data⟩, ⟨1, .data⟩, ⟨1, .chain⟩], none⟩) rfl (fun K hK => ?_)
              go_simp
              go_wp2_with fail
              refine (K6.out _).mono ?_; rintro e u2 ⟨rfl, hb⟩
              replace hS := hS.trans (hb.mono hS.size)
              obtain ⟨fu, rfl⟩ : ∃ m, fu = m + 4 := ⟨fu - 4, by simp only [cond_true, cond_false] at hn; omega⟩
              refine Shut.out hK _ _ (hS.mono hBZ) (fun _ => ?_)
              clear hK K
              try simp only [Act.put, List.setIfInBounds_toArray, List.set_cons_zero, List.set_cons_succ]
              refine wpAnyH_take (i := 3) (oi := ⟨some 76, .move (.tmp 79), 40, "law.go:30", #[⟨2, .data⟩], none⟩) (v := ?_) rfl (by kernel_rfl) ((show ∀ xq0 xq1 xq2 : Bool, Region.free _ _ #[true, true, true, false, false, false, false, xq0, xq1, xq2, false, false, false] 3 = true from by intro xq0 xq1 xq2; cases xq0 <;> cases xq1 <;> cases xq2 <;> kernel_rfl) xq0 xq1 xq2) ((show ∀ xq0 xq1 xq2 : Bool, (Region.ready _ _ #[true, true, true, false, false, false, false, xq0, xq1, xq2, false, false, false]).contains 3 = true from by intro xq0 xq1 xq2; cases xq0 <;> cases xq1 <;> cases xq2 <;> kernel_rfl) xq0 xq1 xq2) (fun _ _ _ h => h) (Or.inl ⟨by rfl, ?_⟩) (hS.mono hBZ) ?_
              rotate_left
              · intro wv _; go_simp; try with_reducible rfl
              try simp only [Act.put, List.setIfInBounds_toArray, List.set_cons_zero, List.set_cons_succ]
              refine wpAnyH_take (i := 4) (oi := ⟨some 80, .extract (.tmp 76) 0, 29, "law.go:30", #[⟨3, .data⟩], none⟩) (v := ?_) rfl (by kernel_rfl) ((show ∀ xq0 xq1 xq2 : Bool, Region.free _ _ #[true, true, true, true, false, false, false, xq0, xq1, xq2, false, false, false] 4 = true from by intro xq0 xq1 xq2; cases xq0 <;> cases xq1 <;> cases xq2 <;> kernel_rfl) xq0 xq1 xq2) ((show ∀ xq0 xq1 xq2 : Bool, (Region.ready _ _ #[true, true, true, true, false, false, false, xq0, xq1, xq2, false, false, false]).contains 4 = true from by intro xq0 xq1 xq2; cases xq0 <;> cases xq1 <;> cases xq2 <;> kernel_rfl) xq0 xq1 xq2) (fun _ _ _ h => h) (Or.inl ⟨by rfl, ?_⟩) (hS.mono hBZ) ?_
              rotate_left
              · intro wv _; go_simp; try with_reducible rfl
              try simp only [Act.put, List.setIfInBounds_toArray, List.set_cons_zero, List.set_cons_succ]
              refine wpAnyH_take (i := 5) (oi := ⟨some 81, .extract (.tmp 76) 1, 31, "law.go:30", #[⟨3, .data⟩, ⟨10, .gcOnly .lateStores⟩], none⟩) (v := ?_) rfl (by kernel_rfl) ((show ∀ xq0 xq1 xq2 : Bool, Region.free _ _ #[true, true, true, true, true, false, false, xq0, xq1, xq2, false, false, false] 5 = true from by intro xq0 xq1 xq2; cases xq0 <;> cases xq1 <;> cases xq2 <;> kernel_rfl) xq0 xq1 xq2) ((show ∀ xq0 xq1 xq2 : Bool, (Region.ready _ _ #[true, true, true, true, true, false, false, xq0, xq1, xq2, false, false, false]).contains 5 = true from by intro xq0 xq1 xq2; cases xq0 <;> cases xq1 <;> cases xq2 <;> kernel_rfl) xq0 xq1 xq2) (fun _ _ _ h => h) (Or.inl ⟨by rfl, ?_⟩) (hS.mono hBZ) ?_
              rotate_left
              · intro wv _; go_simp; try with_reducible rfl
              try simp only [Act.put, List.setIfInBounds_toArray, List.set_cons_zero, List.set_cons_succ]
              refine wpAnyH_take (i := 6) (oi := ⟨some 82, .extract (.tmp 76) 2, 39, "law.go:30", #[⟨3, .data⟩, ⟨11, .gcOnly .lateStores⟩], none⟩) (v := ?_) rfl (by kernel_rfl) ((show ∀ xq0 xq1 xq2 : Bool, Region.free _ _ #[true, true, true, true, true, true, false, xq0, xq1, xq2, false, false, false] 6 = true from by intro xq0 xq1 xq2; cases xq0 <;> cases xq1 <;> cases xq2 <;> kernel_rfl) xq0 xq1 xq2) ((show ∀ xq0 xq1 xq2 : Bool, (Region.ready _ _ #[true, true, true, true, true, true, false, xq0, xq1, xq2, false, false, false]).contains 6 = true from by intro xq0 xq1 xq2; cases xq0 <;> cases xq1 <;> cases xq2 <;> kernel_rfl) xq0 xq1 xq2) (fun _ _ _ h => h) (Or.inl ⟨by rfl, ?_⟩) (hS.mono hBZ) ?_
              rotate_left
              · intro wv _; go_simp; try with_reducible rfl
              try simp only [Act.put, List.setIfInBounds_toArray, List.set_cons_zero, List.set_cons_succ]
              exact IH _ _ _ _ (by omega) ⟨true, true, true, xq0, xq1, xq2, _, _, _, _, _, _, _, p9, p10, p11, sq1, sq2, sc, rfl, (by (try simp only [List.setIfInBounds_toArray, List.set_cons_zero, List.set_cons_succ]); try rfl), (by simp only [cond_true, cond_false] at hn ⊢; omega), (fun _ => rfl), (fun _ => rfl), hS, (fun _ => rfl), (fun _ => rfl), (fun _ => rfl), (fun _ => rfl), (fun _ => rfl), (fun h => ⟨(ksq1 h).1, (ksq1 h).2.1, blk_below (ksq1 h).2.2 hb (blk_lt (ksq1 h).2.2)⟩), (fun h => ⟨(ksq2 h).1, (ksq2 h).2.1, blk_below (ksq2 h).2.2 hb (blk_lt (ksq2 h).2.2)⟩), (fun h => ⟨(ksc h).1, (ksc h).2.1, blk_below (ksc h).2.2 hb (blk_lt (ksc h).2.2)⟩)⟩
            · skip
              refine inv_arm (o := ⟨some 9, .alloc 29, 0, "law.go:30", #[], none⟩) rfl (fun K hK => ?_)
              go_simp
              have zs := hS.size
              have hb := (Below.refl u.heap.size u).alloc (Nat.le_refl _) (.cells #[.int .i64 0, .int .i64 0, .int .i64 0, .int .i64 0, .int .i64 0, .int .i64 0, .int .i64 0, .int .u32 0, .int .u32 0, .slice none 0 0, .slice none 0 0] 29)
              replace hS := hS.trans (hb.mono hS.size)
              refine Shut.out hK _ _ (hS.mono hBZ) (fun _ => ?_)
              clear hK K
              try simp only [Act.put, List.setIfInBounds_toArray, List.set_cons_zero, List.set_cons_succ]
              exact IH _ _ _ _ (by omega) ⟨lq0, cq0, cq1, true, xq1, xq2, v77, v78, v79, v76, v80, v81, v82, _, p10, p11, u.heap.size, sq2, sc, rfl, (by (try simp only [List.setIfInBounds_toArray, List.set_cons_zero, List.set_cons_succ]); try rfl), (by simp only [cond_true, cond_false] at hn ⊢; omega), hc0, hc1, hS, h77, h78, h80, h81, h82, (fun _ => ⟨rfl, zs, heap_alloc_new _ _⟩), (fun h => ⟨(ksq2 h).1, (ksq2 h).2.1, blk_below (ksq2 h).2.2 hb (blk_lt (ksq2 h).2.2)⟩), (fun h => ⟨(ksc h).1, (ksc h).2.1, blk_below (ksc h).2.2 hb (blk_lt (ksc h).2.2)⟩)⟩
            · skip
              refine inv_arm (o := ⟨some 10, .alloc 31, 0, "law.go:30", #[], none⟩) rfl (fun K hK => ?_)
              go_simp
              have zs := hS.size
              have hb := (Below.refl u.heap.size u).alloc (Nat.le_refl _) (.cells #[.int .i64 0, .int .i64 0, .int .i64 0, .int .i64 0, .int .i64 0, .int .i64 0, .bool false, .bool false, .int .i64 0, .bool false] 31)
              replace hS := hS.trans (hb.mono hS.size)
              refine Shut.out hK _ _ (hS.mono hBZ) (fun _ => ?_)
              clear hK K
              try simp only [Act.put, List.setIfInBounds_toArray, List.set_cons_zero, List.set_cons_succ]
              exact IH _ _ _ _ (by omega) ⟨lq0, cq0, cq1, xq0, true, xq2, v77, v78, v79, v76, v80, v81, v82, p9, _, p11, sq1, u.heap.size, sc, rfl, (by (try simp only [List.setIfInBounds_toArray, List.set_cons_zero, List.set_cons_succ]); try rfl), (by simp only [cond_true, cond_false] at hn ⊢; omega), hc0, hc1, hS, h77, h78, h80, h81, h82, (fun h => ⟨(ksq1 h).1, (ksq1 h).2.1, blk_below (ksq1 h).2.2 hb (blk_lt (ksq1 h).2.2)⟩), (fun _ => ⟨rfl, zs, heap_alloc_new _ _⟩), (fun h => ⟨(ksc h).1, (ksc h).2.1, blk_below (ksc h).2.2 hb (blk_lt (ksc h).2.2)⟩)⟩
            · skip
              refine inv_arm (o := ⟨some 11, .alloc 39, 0, "law.go:30", #[], none⟩) rfl (fun K hK => ?_)
              go_simp
              have zs := hS.size
              have hb := (Below.refl u.heap.size u).alloc (Nat.le_refl _) (.cells #[.bool false, .bool false, .bool false, .int .i64 0, .int .i64 0, .int .u64 0, .slice none 0 0] 39)
              replace hS := hS.trans (hb.mono hS.size)
              refine Shut.out hK _ _ (hS.mono hBZ) (fun _ => ?_)
              clear hK K
              try simp only [Act.put, List.setIfInBounds_toArray, List.set_cons_zero, List.set_cons_succ]
              exact IH _ _ _ _ (by omega) ⟨lq0, cq0, cq1, xq0, xq1, true, v77, v78, v79, v76, v80, v81, v82, p9, p10, _, sq1, sq2, u.heap.size, rfl, (by (try simp only [List.setIfInBounds_toArray, List.set_cons_zero, List.set_cons_succ]); try rfl), (by simp only [cond_true, cond_false] at hn ⊢; omega), hc0, hc1, hS, h77, h78, h80, h81, h82, (fun h => ⟨(ksq1 h).1, (ksq1 h).2.1, blk_below (ksq1 h).2.2 hb (blk_lt (ksq1 h).2.2)⟩), (fun h => ⟨(ksq2 h).1, (ksq2 h).2.1, blk_below (ksq2 h).2.2 hb (blk_lt (ksq2 h).2.2)⟩), (fun _ => ⟨rfl, zs, heap_alloc_new _ _⟩)⟩
          simp only [Bool.and_eq_true] at hall
          obtain ⟨rfl, rfl, rfl, rfl, rfl, rfl⟩ := hall
          obtain rfl := h77 rfl
          obtain rfl := h78 rfl
          obtain rfl := h80 rfl
          obtain rfl := h81 rfl
          obtain rfl := h82 rfl
          obtain ⟨rfl, gsq1, Vsq1⟩ := ksq1 rfl
          obtain ⟨rfl, gsq2, Vsq2⟩ := ksq2 rfl
          obtain ⟨rfl, gsc, Vsc⟩ := ksc rfl
          obtain ⟨fu, rfl⟩ : ∃ m, fu = m + 3 := ⟨fu - 3, by simp only [cond_true] at hn; omega⟩
          clear IH hn hc0 hc1
          have neo_q1 := Nat.ne_of_lt (Nat.lt_of_lt_of_le (blk_lt Vo.out) gsq1)
          have nef_q1 := Nat.ne_of_lt (Nat.lt_of_lt_of_le (blk_lt Vf.out) gsq1)
          have nea_q1 := Nat.ne_of_lt (Nat.lt_of_lt_of_le (blk_lt Va.out) gsq1)
          have neb_q1 := Nat.ne_of_lt (Nat.lt_of_lt_of_le (blk_lt Vb.out) gsq1)
          have neo_q2 := Nat.ne_of_lt (Nat.lt_of_lt_of_le (blk_lt Vo.out) gsq2)
          have nef_q2 := Nat.ne_of_lt (Nat.lt_of_lt_of_le (blk_lt Vf.out) gsq2)
          have nea_q2 := Nat.ne_of_lt (Nat.lt_of_lt_of_le (blk_lt Va.out) gsq2)
          have neb_q2 := Nat.ne_of_lt (Nat.lt_of_lt_of_le (blk_lt Vb.out) gsq2)
          have neo_c := Nat.ne_of_lt (Nat.lt_of_lt_of_le (blk_lt Vo.out) gsc)
          have nef_c := Nat.ne_of_lt (Nat.lt_of_lt_of_le (blk_lt Vf.out) gsc)
          have nea_c := Nat.ne_of_lt (Nat.lt_of_lt_of_le (blk_lt Va.out) gsc)
          have neb_c := Nat.ne_of_lt (Nat.lt_of_lt_of_le (blk_lt Vb.out) gsc)
          have neq1_q2 : sq1 ≠ sq2 := blk_ne Vsq1 Vsq2 (by decide)
          have neq1_c : sq1 ≠ sc := blk_ne Vsq1 Vsc (by decide)
          have neq2_c : sq2 ≠ sc := blk_ne Vsq2 Vsc (by decide)
          have geq1 := Nat.le_trans HB.out.2 gsq1
          have geq2 := Nat.le_trans HB.out.2 gsq2
          have gec := Nat.le_trans HB.out.2 gsc
          replace Vo := Lib.hid (blk_below Vo.out hS (blk_lt Vo.out))
          replace Vf := Lib.hid (blk_below Vf.out hS (blk_lt Vf.out))
          replace Va := Lib.hid (blk_below Va.out hS (blk_lt Va.out))
          replace Vb := Lib.hid (blk_below Vb.out hS (blk_lt Vb.out))
          replace HB := Lib.hid (And.intro (HB.out.1.trans (hS.mono HB.out.2)) (Nat.le_trans HB.out.2 hS.size))
          have Vq1 := Lib.hid Vsq1
          clear Vsq1
          have Vq2 := Lib.hid Vsq2
          clear Vsq2
          have Vc := Lib.hid Vsc
          clear Vsc
          obtain ⟨w14, hw14⟩ : ∃ W, u.setCells (sq1) 0 [.int .i64 4, .int .i64 0, .int .i64 0, .int .i64 1, .int .i64 0, .int .i64 0, .int .i64 0, .int .u32 0, .int .u32 0, .slice none 0 0, .slice none 0 0] = W := ⟨_, rfl⟩
          have thq1 := Lib.hid (there_blk Vq1.out (k := 11) rfl)
          replace Vo := Lib.hid (stayS hw14 neo_q1 Vo.out)
          replace Vf := Lib.hid (stayS hw14 nef_q1 Vf.out)
          replace Va := Lib.hid (stayS hw14 nea_q1 Va.out)
          replace Vb := Lib.hid (stayS hw14 neb_q1 Vb.out)
          replace Vq2 := Lib.hid (stayS hw14 neq1_q2.symm Vq2.out)
          replace Vc := Lib.hid (stayS hw14 neq1_c.symm Vc.out)
          replace Vq1 := Lib.hid (setS hw14 Vq1.out rfl)
          replace HB := Lib.hid (belS hw14 geq1 HB.out)
          replace hS := (hS.mono hBZ)
          refine wpAnyH_ready (rs := [10]) (by kernel_rfl) (by simp) (AllReadyH.cons (o := ⟨none, .store 29 (.tmp 9) (.tmp 80), 0, "law.go:30", #[⟨7, .data⟩, ⟨4, .data⟩, ⟨2, .chain⟩, ⟨0, .phase⟩, ⟨1, .phase⟩, ⟨2, .phase⟩, ⟨3, .phase⟩, ⟨4, .phase⟩, ⟨5, .textOnly .lateStores⟩, ⟨6, .textOnly .lateStores⟩, ⟨7, .phase⟩, ⟨8, .phase⟩, ⟨9, .phase⟩], none⟩) rfl (fun K hK => ?_) AllReadyH.nil)
          refine op_storeS (by rfl) rfl rfl rfl thq1.out (by kernel_rfl) (by simp [Value.oneCell']) hw14 ?_
          replace hS := hw14 ▸ below_setCells geq1 [.int .i64 4, .int .i64 0, .int .i64 0, .int .i64 1, .int .i64 0, .int .i64 0, .int .i64 0, .int .u32 0, .int .u32 0, .slice none 0 0, .slice none 0 0] 0 _ hS
          obtain ⟨w15, hw15⟩ : ∃ W, w14.setCells (sq2) 0 [.int .i64 0, .int .i64 0, .int .i64 0, .int .i64 0, .int .i64 0, .int .i64 0, .bool false, .bool false, .int .i64 0, .bool false] = W := ⟨_, rfl⟩
          have thq2 := Lib.hid (there_blk Vq2.out (k := 10) rfl)
          replace Vo := Lib.hid (stayS hw15 neo_q2 Vo.out)
          replace Vf := Lib.hid (stayS hw15 nef_q2 Vf.out)
          replace Va := Lib.hid (stayS hw15 nea_q2 Va.out)
          replace Vb := Lib.hid (stayS hw15 neb_q2 Vb.out)
          replace Vq1 := Lib.hid (stayS hw15 neq1_q2 Vq1.out)
          replace Vc := Lib.hid (stayS hw15 neq2_c.symm Vc.out)
          replace Vq2 := Lib.hid (setS hw15 Vq2.out rfl)
          replace HB := Lib.hid (belS hw15 geq2 HB.out)
          refine Shut.out hK _ _ hS (fun _ => ?_)
          clear hK K
          try simp only [Act.put, List.setIfInBounds_toArray, List.set_cons_zero, List.set_cons_succ]
          refine wpAnyH_ready (rs := [11]) (by kernel_rfl) (by simp) (AllReadyH.cons (o := ⟨none, .store 31 (.tmp 10) (.tmp 81), 0, "law.go:30", #[⟨8, .data⟩, ⟨5, .data⟩, ⟨10, .chain⟩, ⟨0, .phase⟩, ⟨1, .phase⟩, ⟨2, .phase⟩, ⟨3, .phase⟩, ⟨4, .phase⟩, ⟨5, .phase⟩, ⟨6, .textOnly .lateStores⟩, ⟨7, .phase⟩, ⟨8, .phase⟩, ⟨9, .phase⟩, ⟨10, .phase⟩], none⟩) rfl (fun K hK => ?_) AllReadyH.nil)
          refine op_storeS (by rfl) rfl rfl rfl thq2.out (by kernel_rfl) (by simp [Value.oneCell']) hw15 ?_
          replace hS := hw15 ▸ below_setCells geq2 [.int .i64 0, .int .i64 0, .int .i64 0, .int .i64 0, .int .i64 0, .int .i64 0, .bool false, .bool false, .int .i64 0, .bool false] 0 _ hS
          obtain ⟨w16, hw16⟩ : ∃ W, w15.setCells (sc) 0 [.bool false, .bool false, .bool false, .int .i64 0, .int .i64 1, .int .u64 0, .slice none 0 0] = W := ⟨_, rfl⟩
          have thc := Lib.hid (there_blk Vc.out (k := 7) rfl)
          replace Vo := Lib.hid (stayS hw16 neo_c Vo.out)
          replace Vf := Lib.hid (stayS hw16 nef_c Vf.out)
          replace Va := Lib.hid (stayS hw16 nea_c Va.out)
          replace Vb := Lib.hid (stayS hw16 neb_c Vb.out)
          replace Vq1 := Lib.hid (stayS hw16 neq1_c Vq1.out)
          replace Vq2 := Lib.hid (stayS hw16 neq2_c Vq2.out)
          replace Vc := Lib.hid (setS hw16 Vc.out rfl)
          replace HB := Lib.hid (belS hw16 gec HB.out)
          refine Shut.out hK _ _ hS (fun _ => ?_)
          clear hK K
          try simp only [Act.put, List.setIfInBounds_toArray, List.set_cons_zero, List.set_cons_succ]
          refine wpAnyH_ready (rs := [12]) (by kernel_rfl) (by simp) (AllReadyH.cons (o := ⟨none, .store 39 (.tmp 11) (.tmp 82), 0, "law.go:30", #[⟨9, .data⟩, ⟨6, .data⟩, ⟨11, .chain⟩, ⟨0, .phase⟩, ⟨1, .phase⟩, ⟨2, .phase⟩, ⟨3, .phase⟩, ⟨4, .phase⟩, ⟨5, .phase⟩, ⟨6, .phase⟩, ⟨7, .phase⟩, ⟨8, .phase⟩, ⟨9, .phase⟩, ⟨10, .phase⟩, ⟨11, .phase⟩], none⟩) rfl (fun K hK => ?_) AllReadyH.nil)
          refine op_storeS (by rfl) rfl rfl rfl thc.out (by kernel_rfl) (by simp [Value.oneCell']) hw16 ?_
          replace hS := hw16 ▸ below_setCells gec [.bool false, .bool false, .bool false, .int .i64 0, .int .i64 1, .int .u64 0, .slice none 0 0] 0 _ hS
          refine Shut.out hK _ _ hS (fun _ => ?_)
          clear hK K
          try simp only [Act.put, List.setIfInBounds_toArray, List.set_cons_zero, List.set_cons_succ]
          refine wpAnyH_done (by kernel_rfl) ?_ _
          refine NoPanic.normal ?_
          clear hS hBZ gsq1 gsq2 gsc thq1 thq2 thc
          clear Vq1
          clear Vq2
          have cb := row7 Vb.out
          have cc := row7 Vc.out
          go_wp2
          go_ret
          exact ⟨rfl, HB.out.1⟩
end Go.Proofs.Ytkecmiedeihdgaa
