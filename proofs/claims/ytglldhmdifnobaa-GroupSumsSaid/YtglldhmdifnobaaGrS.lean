/- alive of layer 17: it answers true, over any world; no condition. -/
import Derived.Test.YtglldhmdifnobaaGrO
import Derived.Test.YtglldhmdifnobaaSyB
import Derived.Test.YtglldhmdifnobaaInv
namespace Go.Proofs.Ytglldhmdifnobaa
set_option linter.unusedVariables false
set_option linter.unusedSimpArgs false
open Go.RowKit
set_option maxRecDepth 100000 in
theorem w6_eq (o0 o1 o2 o3 o4 o5 : Int) (W : World) : (binOp .eql 22 (.agg #[.int .i64 o0, .int .i64 o1, .int .i64 o2, .int .i64 o3, .int .i64 o4, .int .i64 o5]) (.agg #[.int .i64 o0, .int .i64 o1, .int .i64 o2, .int .i64 o3, .int .i64 o4, .int .i64 o5])).run Try.prog W = .ok (.bool true) W := by
  have e : ∀ x : Int, (x == x) = true := fun x => by simp
  obtain ⟨i5, hi5, _⟩ := info_of (show (Try.prog.info? 2).map (fun i => (i.zero, i.size, i.bytes)) = some (some (.int .i64 0), 1, 8) by kernel_rfl)
  go_simp
  rw [run_equalIn_array W 9999 _ _ Try.underlying22 hi5]
  rw [show Try.prog.cellsOf 2 = 1 from by kernel_rfl, show List.range 6 = [0,1,2,3,4,5] from rfl]
  simp [Op.eqItems, go_sem, e]
set_option maxRecDepth 100000 in
set_option maxHeartbeats 16000000 in
theorem alive17 (w : World) : Calls Try.prog 6 #[] w fun e w' => e = .returned (.bool true) ∧ Below w.heap.size w w' := by
  have K0 := Lib.hid (show ∀ W : World, Calls Try.prog 8 #[.agg #[.int .i64 3, .int .i64 0, .int .i64 0, .int .i64 0, .int .i64 0, .int .i64 0, .int .i64 0, .int .u32 0, .int .u32 0, .slice none 0 0, .slice none 0 0], .agg #[.int .i64 32, .int .i64 0, .int .i64 0, .int .i64 0, .int .i64 (-1), .int .i64 0, .bool false, .bool false, .int .i64 0, .bool false], .int .i64 2] W (fun e w' => e = .returned (.tuple #[.agg #[.int .i64 3, .int .i64 2, .int .i64 0, .int .i64 0, .int .i64 0, .int .i64 0, .int .i64 0, .int .u32 0, .int .u32 0, .slice none 0 0, .slice none 0 0], .agg #[.int .i64 0, .int .i64 0, .int .i64 0, .int .i64 0, .int .i64 0, .int .i64 0, .bool false, .bool false, .int .i64 0, .bool false], .agg #[.bool true, .bool false, .bool false, .int .i64 0, .int .i64 0, .int .u64 0, .slice none 0 0]]) ∧ Below W.heap.size W w') from fun W => by
    have h := grCount_nil 3 0 0 0 0 0 0 0 0 (⟨32, 0, 0, 0, -1, 0, false, false, 0, false⟩ : MFr) 2 ⟨by kernel_rfl, by kernel_rfl⟩ W
    rw [show countW 0 0 (⟨32, 0, 0, 0, -1, 0, false, false, 0, false⟩ : MFr) 2 = ((2, 0), (⟨0, 0, 0, 0, 0, 0, false, false, 0, false⟩ : MFr), (⟨true, 0, false, 0⟩ : MAct)) from by kernel_rfl] at h
    exact h)
  have K1 := Lib.hid (show ∀ W : World, Calls Try.prog 10 #[.agg #[.int .i64 3, .int .i64 2, .int .i64 0, .int .i64 0, .int .i64 0, .int .i64 0, .int .i64 0, .int .u32 0, .int .u32 0, .slice none 0 0, .slice none 0 0], .agg #[.int .i64 33, .int .i64 0, .int .i64 0, .int .i64 0, .int .i64 (-1), .int .i64 0, .bool false, .bool false, .int .i64 0, .bool false]] W (fun e w' => e = .returned (.tuple #[.agg #[.int .i64 3, .int .i64 2, .int .i64 1, .int .i64 0, .int .i64 0, .int .i64 0, .int .i64 0, .int .u32 0, .int .u32 0, .slice none 0 0, .slice none 0 0], .agg #[.int .i64 33, .int .i64 1, .int .i64 0, .int .i64 0, .int .i64 (-1), .int .i64 0, .bool false, .bool false, .int .i64 3, .bool false], .agg #[.bool false, .bool false, .bool false, .int .i64 0, .int .i64 0, .int .u64 0, .slice none 0 0]]) ∧ Below W.heap.size W w') from fun W => by
    have h := grWait_nil 3 2 0 0 0 0 0 0 0 (⟨33, 0, 0, 0, -1, 0, false, false, 0, false⟩ : MFr) ⟨by kernel_rfl, by kernel_rfl⟩ W
    rw [show waitW 2 0 (⟨33, 0, 0, 0, -1, 0, false, false, 0, false⟩ : MFr) = ((2, 1), (⟨33, 1, 0, 0, -1, 0, false, false, 3, false⟩ : MFr), (⟨false, 0, false, 0⟩ : MAct)) from by kernel_rfl] at h
    exact h)
  have K2 := Lib.hid (show ∀ W : World, Calls Try.prog 8 #[.agg #[.int .i64 3, .int .i64 2, .int .i64 1, .int .i64 0, .int .i64 0, .int .i64 0, .int .i64 0, .int .u32 0, .int .u32 0, .slice none 0 0, .slice none 0 0], .agg #[.int .i64 32, .int .i64 0, .int .i64 0, .int .i64 0, .int .i64 (-1), .int .i64 0, .bool false, .bool false, .int .i64 0, .bool false], .int .i64 (-1)] W (fun e w' => e = .returned (.tuple #[.agg #[.int .i64 3, .int .i64 1, .int .i64 1, .int .i64 0, .int .i64 0, .int .i64 0, .int .i64 0, .int .u32 0, .int .u32 0, .slice none 0 0, .slice none 0 0], .agg #[.int .i64 0, .int .i64 0, .int .i64 0, .int .i64 0, .int .i64 0, .int .i64 0, .bool false, .bool false, .int .i64 0, .bool false], .agg #[.bool true, .bool false, .bool false, .int .i64 0, .int .i64 0, .int .u64 0, .slice none 0 0]]) ∧ Below W.heap.size W w') from fun W => by
    have h := grCount_nil 3 2 1 0 0 0 0 0 0 (⟨32, 0, 0, 0, -1, 0, false, false, 0, false⟩ : MFr) (-1) ⟨by kernel_rfl, by kernel_rfl⟩ W
    rw [show countW 2 1 (⟨32, 0, 0, 0, -1, 0, false, false, 0, false⟩ : MFr) (-1) = ((1, 1), (⟨0, 0, 0, 0, 0, 0, false, false, 0, false⟩ : MFr), (⟨true, 0, false, 0⟩ : MAct)) from by kernel_rfl] at h
    exact h)
  have K3 := Lib.hid (show ∀ W : World, Calls Try.prog 8 #[.agg #[.int .i64 3, .int .i64 1, .int .i64 1, .int .i64 0, .int .i64 0, .int .i64 0, .int .i64 0, .int .u32 0, .int .u32 0, .slice none 0 0, .slice none 0 0], .agg #[.int .i64 32, .int .i64 0, .int .i64 0, .int .i64 0, .int .i64 (-1), .int .i64 0, .bool false, .bool false, .int .i64 0, .bool false], .int .i64 (-1)] W (fun e w' => e = .returned (.tuple #[.agg #[.int .i64 3, .int .i64 0, .int .i64 0, .int .i64 0, .int .i64 0, .int .i64 0, .int .i64 0, .int .u32 0, .int .u32 0, .slice none 0 0, .slice none 0 0], .agg #[.int .i64 32, .int .i64 1, .int .i64 0, .int .i64 0, .int .i64 (-1), .int .i64 1, .bool false, .bool false, .int .i64 0, .bool false], .agg #[.bool false, .bool false, .bool false, .int .i64 0, .int .i64 0, .int .u64 0, .slice none 0 0]]) ∧ Below W.heap.size W w') from fun W => by
    have h := grCount_nil 3 1 1 0 0 0 0 0 0 (⟨32, 0, 0, 0, -1, 0, false, false, 0, false⟩ : MFr) (-1) ⟨by kernel_rfl, by kernel_rfl⟩ W
    rw [show countW 1 1 (⟨32, 0, 0, 0, -1, 0, false, false, 0, false⟩ : MFr) (-1) = ((0, 0), (⟨32, 1, 0, 0, -1, 1, false, false, 0, false⟩ : MFr), (⟨false, 0, false, 0⟩ : MAct)) from by kernel_rfl] at h
    exact h)
  have K4 := Lib.hid (show ∀ W : World, Calls Try.prog 8 #[.agg #[.int .i64 3, .int .i64 0, .int .i64 0, .int .i64 0, .int .i64 0, .int .i64 0, .int .i64 0, .int .u32 0, .int .u32 0, .slice none 0 0, .slice none 0 0], .agg #[.int .i64 32, .int .i64 1, .int .i64 0, .int .i64 0, .int .i64 (-1), .int .i64 1, .bool false, .bool false, .int .i64 0, .bool false], .int .i64 (-1)] W (fun e w' => e = .returned (.tuple #[.agg #[.int .i64 3, .int .i64 0, .int .i64 0, .int .i64 0, .int .i64 0, .int .i64 0, .int .i64 0, .int .u32 0, .int .u32 0, .slice none 0 0, .slice none 0 0], .agg #[.int .i64 0, .int .i64 0, .int .i64 0, .int .i64 0, .int .i64 0, .int .i64 0, .bool false, .bool false, .int .i64 0, .bool false], .agg #[.bool true, .bool false, .bool false, .int .i64 3, .int .i64 0, .int .u64 0, .slice none 0 0]]) ∧ Below W.heap.size W w') from fun W => by
    have h := grCount_nil 3 0 0 0 0 0 0 0 0 (⟨32, 1, 0, 0, -1, 1, false, false, 0, false⟩ : MFr) (-1) ⟨by kernel_rfl, by kernel_rfl⟩ W
    rw [show countW 0 0 (⟨32, 1, 0, 0, -1, 1, false, false, 0, false⟩ : MFr) (-1) = ((0, 0), (⟨0, 0, 0, 0, 0, 0, false, false, 0, false⟩ : MFr), (⟨true, 3, false, 0⟩ : MAct)) from by kernel_rfl] at h
    exact h)
  have K5 := Lib.hid (show ∀ W : World, Calls Try.prog 8 #[.agg #[.int .i64 3, .int .i64 0, .int .i64 0, .int .i64 0, .int .i64 0, .int .i64 0, .int .i64 0, .int .u32 0, .int .u32 0, .slice none 0 0, .slice none 0 0], .agg #[.int .i64 32, .int .i64 0, .int .i64 0, .int .i64 0, .int .i64 (-1), .int .i64 0, .bool false, .bool false, .int .i64 0, .bool false], .int .i64 (-1)] W (fun e w' => e = .returned (.tuple #[.agg #[.int .i64 3, .int .i64 0, .int .i64 0, .int .i64 0, .int .i64 0, .int .i64 0, .int .i64 0, .int .u32 0, .int .u32 0, .slice none 0 0, .slice none 0 0], .agg #[.int .i64 0, .int .i64 0, .int .i64 0, .int .i64 0, .int .i64 0, .int .i64 0, .bool false, .bool false, .int .i64 0, .bool false], .agg #[.bool false, .bool false, .bool false, .int .i64 0, .int .i64 2, .int .u64 0, .slice none 0 0]]) ∧ Below W.heap.size W w') from fun W => by
    have h := grCount_nil 3 0 0 0 0 0 0 0 0 (⟨32, 0, 0, 0, -1, 0, false, false, 0, false⟩ : MFr) (-1) ⟨by kernel_rfl, by kernel_rfl⟩ W
    rw [show countW 0 0 (⟨32, 0, 0, 0, -1, 0, false, false, 0, false⟩ : MFr) (-1) = ((0, 0), (⟨0, 0, 0, 0, 0, 0, false, false, 0, false⟩ : MFr), (⟨false, 0, false, 2⟩ : MAct)) from by kernel_rfl] at h
    exact h)
  have K6 := Lib.hid (show ∀ W : World, Calls Try.prog 10 #[.agg #[.int .i64 3, .int .i64 0, .int .i64 0, .int .i64 0, .int .i64 0, .int .i64 0, .int .i64 0, .int .u32 0, .int .u32 0, .slice none 0 0, .slice none 0 0], .agg #[.int .i64 33, .int .i64 1, .int .i64 0, .int .i64 0, .int .i64 (-1), .int .i64 0, .bool false, .bool false, .int .i64 3, .bool false]] W (fun e w' => e = .returned (.tuple #[.agg #[.int .i64 3, .int .i64 0, .int .i64 0, .int .i64 0, .int .i64 0, .int .i64 0, .int .i64 0, .int .u32 0, .int .u32 0, .slice none 0 0, .slice none 0 0], .agg #[.int .i64 0, .int .i64 0, .int .i64 0, .int .i64 0, .int .i64 0, .int .i64 0, .bool false, .bool false, .int .i64 0, .bool false], .agg #[.bool true, .bool false, .bool false, .int .i64 0, .int .i64 0, .int .u64 0, .slice none 0 0]]) ∧ Below W.heap.size W w') from fun W => by
    have h := grWait_nil 3 0 0 0 0 0 0 0 0 (⟨33, 1, 0, 0, -1, 0, false, false, 3, false⟩ : MFr) ⟨by kernel_rfl, by kernel_rfl⟩ W
    rw [show waitW 0 0 (⟨33, 1, 0, 0, -1, 0, false, false, 3, false⟩ : MFr) = ((0, 0), (⟨0, 0, 0, 0, 0, 0, false, false, 0, false⟩ : MFr), (⟨true, 0, false, 0⟩ : MAct)) from by kernel_rfl] at h
    exact h)
  have N1 := Lib.hid (show ∀ W : World, Calls Try.prog 14 #[.int .i64 32] W (fun e w' => e = .returned (.agg #[.int .i64 32, .int .i64 0, .int .i64 0, .int .i64 0, .int .i64 (-1), .int .i64 0, .bool false, .bool false, .int .i64 0, .bool false]) ∧ Below W.heap.size W w') from fun W => begin17_any 32 W)
  have N2 := Lib.hid (show ∀ W : World, Calls Try.prog 14 #[.int .i64 33] W (fun e w' => e = .returned (.agg #[.int .i64 33, .int .i64 0, .int .i64 0, .int .i64 0, .int .i64 (-1), .int .i64 0, .bool false, .bool false, .int .i64 0, .bool false]) ∧ Below W.heap.size W w') from fun W => begin17_any 33 W)
  have hw2 := w6_eq 0 0 0 0 0 0
  have HB := Lib.hid (And.intro (Below.refl w.heap.size w) (Nat.le_refl w.heap.size))
  go_enter Try.func6, Try.ntmps6
  have gq := HB.out.2
  obtain ⟨w1, hw1⟩ : ∃ W, (w.alloc (.cells #[.int .i64 0, .int .i64 0, .int .i64 0, .int .i64 0, .int .i64 0, .int .i64 0, .int .i64 0, .int .u32 0, .int .u32 0, .slice none 0 0, .slice none 0 0] 29)) = W := ⟨_, rfl⟩
  have hb : Below w.heap.size w w1 := hw1 ▸ ((Below.refl _ _).alloc (Nat.le_refl _) _)
  have hv0 : w1.heap[w.heap.size]? = some (.cells #[.int .i64 0, .int .i64 0, .int .i64 0, .int .i64 0, .int .i64 0, .int .i64 0, .int .i64 0, .int .u32 0, .int .u32 0, .slice none 0 0, .slice none 0 0] 29) := by
    have h0 := heap_alloc_new w (.cells #[.int .i64 0, .int .i64 0, .int .i64 0, .int .i64 0, .int .i64 0, .int .i64 0, .int .i64 0, .int .u32 0, .int .u32 0, .slice none 0 0, .slice none 0 0] 29)
    rw [show w.heap.size = w.heap.size by simp [Nat.add_assoc]] at h0
    rw [← hw1]
    exact h0
  replace HB := Lib.hid (And.intro (HB.out.1.trans (hb.mono HB.out.2)) (Nat.le_trans HB.out.2 hb.size))
  have Vo := Lib.hid hv0
  have geo := gq
  generalize hso : w.heap.size = so at *
  clear hb gq hv0
  subst hso
  obtain ⟨mw2, w2, hw2, hse, VN⟩ := set11 Vo.out (.int .i64 3) (.int .i64 0) (.int .i64 0) (.int .i64 0) (.int .i64 0) (.int .i64 0) (.int .i64 0) (.int .u32 0) (.int .u32 0) (.slice none 0 0) (.slice none 0 0)
  replace Vo := VN
  replace HB := Lib.hid (belS hse geo HB.out)
  clear VN hse
  go_wp2
  clear mw2 hw2
  have hBZ := HB.out.2
  refine wp_region_noPanic ?_
  refine wp_region_held_drew (S := (fun wv => Below w.heap.size w2 wv)) (by kernel_rfl) ((((Below.refl w2.heap.size w2).drew).mono hBZ)) (fun hS => ?_)
  refine inv_region (fun a0 fu listed a u => ∃ (lq0 cq0 cq1 xq0 xq1 : Bool) (v19 v20 v21 v18 v22 v23 v24 p2 p3 : Value) (sf0 sa0 : Nat), listed = #[lq0, cq0, cq1, cq1, cq1, cq1, cq1, xq0, xq1, false, false, false] ∧ a = ⟨(((((((((a0.tmps.setIfInBounds 19 v19).setIfInBounds 20 v20).setIfInBounds 21 v21).setIfInBounds 18 v18).setIfInBounds 22 v22).setIfInBounds 23 v23).setIfInBounds 24 v24).setIfInBounds 2 p2).setIfInBounds 3 p3), a0.defers⟩ ∧ (bif lq0 then 0 else 1) + (bif cq0 then 0 else 1) + (bif cq1 then 0 else 5) + (bif xq0 then 0 else 1) + (bif xq1 then 0 else 1) + 3 ≤ fu ∧ (cq1 = true → lq0 = true) ∧ (cq1 = true → cq0 = true) ∧ Below w2.heap.size w2 u ∧ (lq0 = true → v19 = .agg #[.int .i64 3, .int .i64 0, .int .i64 0, .int .i64 0, .int .i64 0, .int .i64 0, .int .i64 0, .int .u32 0, .int .u32 0, .slice none 0 0, .slice none 0 0]) ∧ (cq0 = true → v20 = .agg #[.int .i64 32, .int .i64 0, .int .i64 0, .int .i64 0, .int .i64 (-1), .int .i64 0, .bool false, .bool false, .int .i64 0, .bool false]) ∧ (cq1 = true → v22 = .agg #[.int .i64 3, .int .i64 2, .int .i64 0, .int .i64 0, .int .i64 0, .int .i64 0, .int .i64 0, .int .u32 0, .int .u32 0, .slice none 0 0, .slice none 0 0]) ∧ (cq1 = true → v23 = .agg #[.int .i64 0, .int .i64 0, .int .i64 0, .int .i64 0, .int .i64 0, .int .i64 0, .bool false, .bool false, .int .i64 0, .bool false]) ∧ (cq1 = true → v24 = .agg #[.bool true, .bool false, .bool false, .int .i64 0, .int .i64 0, .int .u64 0, .slice none 0 0]) ∧ (xq0 = true → p2 = .pointer (some ⟨sf0, 0, none⟩) ∧ w2.heap.size ≤ sf0 ∧ u.heap[sf0]? = some (.cells #[.int .i64 0, .int .i64 0, .int .i64 0, .int .i64 0, .int .i64 0, .int .i64 0, .bool false, .bool false, .int .i64 0, .bool false] 31)) ∧ (xq1 = true → p3 = .pointer (some ⟨sa0, 0, none⟩) ∧ w2.heap.size ≤ sa0 ∧ u.heap[sa0]? = some (.cells #[.bool false, .bool false, .bool false, .int .i64 0, .int .i64 0, .int .u64 0, .slice none 0 0] 38))) ⟨false, false, false, false, false, undef, undef, undef, undef, undef, undef, undef, undef, undef, 0, 0, rfl, (by first | (simp only [List.setIfInBounds_toArray, List.set_cons_zero, List.set_cons_succ]; done) | rfl), (by show _ + _ ≤ _; decide), (fun h => nomatch h), (fun h => nomatch h), ((Below.refl w2.heap.size w2).drew), (fun h => nomatch h), (fun h => nomatch h), (fun h => nomatch h), (fun h => nomatch h), (fun h => nomatch h), (fun h => nomatch h), (fun h => nomatch h)⟩ ?_
  clear hS; rintro fu listed a u ⟨lq0, cq0, cq1, xq0, xq1, v19, v20, v21, v18, v22, v23, v24, p2, p3, sf0, sa0, rfl, rfl, hn, hc0, hc1, hS, h19, h20, h22, h23, h24, ksf0, ksa0⟩ IH
  try simp only [List.setIfInBounds_toArray, List.set_cons_zero, List.set_cons_succ]
  by_cases hall : (lq0 && (cq0 && (cq1 && (xq0 && (xq1))))) = true
  rotate_left
  · have hbad : ((cq1 && !lq0) || ((cq1 && !cq0) || ((lq0 && (cq0 && (cq1 && (xq0 && (xq1)))))))) = false := inv_or (inv_imp hc0) (inv_or (inv_imp hc1) (inv_not hall))
    obtain ⟨fu, rfl⟩ : ∃ m, fu = m + 1 := ⟨fu - 1, by omega⟩
    refine inv_step (bad := ((cq1 && !lq0) || ((cq1 && !cq0) || ((lq0 && (cq0 && (cq1 && (xq0 && (xq1))))))))) (fun i => ((i == 0 && !lq0) || ((i == 1 && !cq0) || ((i == 2 && (lq0 && (cq0 && !cq1))) || ((i == 7 && !xq0) || ((i == 8 && !xq1))))))) ((show ∀ lq0 cq0 cq1 xq0 xq1 : Bool, (((cq1 && !lq0) || ((cq1 && !cq0) || ((lq0 && (cq0 && (cq1 && (xq0 && (xq1)))))))) || (!(Region.ready _ _ #[lq0, cq0, cq1, cq1, cq1, cq1, cq1, xq0, xq1, false, false, false]).isEmpty && (Region.ready _ _ #[lq0, cq0, cq1, cq1, cq1, cq1, cq1, xq0, xq1, false, false, false]).all (fun i => ((i == 0 && !lq0) || ((i == 1 && !cq0) || ((i == 2 && (lq0 && (cq0 && !cq1))) || ((i == 7 && !xq0) || ((i == 8 && !xq1))))))))) = true from by intro lq0 cq0 cq1 xq0 xq1; cases lq0 <;> cases cq0 <;> cases cq1 <;> cases xq0 <;> cases xq1 <;> kernel_rfl) lq0 cq0 cq1 xq0 xq1) hbad (fun i hi => ?_)
    simp only [Bool.or_eq_true, Bool.and_eq_true, beq_iff_eq, Bool.not_eq_true'] at hi
    clear hall hbad
    rcases hi with ⟨rfl, rfl⟩ | ⟨rfl, rfl⟩ | ⟨rfl, rfl, rfl, rfl⟩ | ⟨rfl, rfl⟩ | ⟨rfl, rfl⟩
    · skip
      obtain ⟨lc0, lc1, lc2, lc3, lc4, lc5, lc6, lc7, lc8, lc9, lc10⟩ := row11 (blk_below Vo.out hS (blk_lt Vo.out))
      refine inv_arm (o := ⟨some 19, .load 29 (.tmp 1), 29, "law.go:17", #[], none⟩) rfl (fun K hK => ?_)
      go_simp
      clear lc0 lc1 lc2 lc3 lc4 lc5 lc6 lc7 lc8 lc9 lc10
      refine Shut.out hK _ _ (hS.mono hBZ) (fun _ => ?_)
      clear hK K
      try simp only [Act.put, List.setIfInBounds_toArray, List.set_cons_zero, List.set_cons_succ]
      exact IH _ _ _ _ (by omega) ⟨true, cq0, cq1, xq0, xq1, _, v20, v21, v18, v22, v23, v24, p2, p3, sf0, sa0, rfl, (by (try simp only [List.setIfInBounds_toArray, List.set_cons_zero, List.set_cons_succ]); try rfl), (by simp only [cond_true, cond_false] at hn ⊢; omega), (fun _ => rfl), hc1, hS, (fun _ => rfl), h20, h22, h23, h24, (fun h => ⟨(ksf0 h).1, (ksf0 h).2.1, blk_below (ksf0 h).2.2 (Below.refl _ _) (blk_lt (ksf0 h).2.2)⟩), (fun h => ⟨(ksa0 h).1, (ksa0 h).2.1, blk_below (ksa0 h).2.2 (Below.refl _ _) (blk_lt (ksa0 h).2.2)⟩)⟩
    · skip
      refine inv_arm (o := ⟨some 20, .call { callee := .value (.func 14), args := #[.const (Value.int IntKind.i64 32)], argTypes := #[3] }, 31, "law.go:17", #[], none⟩) rfl (fun K hK => ?_)
      go_simp
      go_wp2_with fail
      refine (N1.out _).mono ?_; rintro e u1 ⟨rfl, hb⟩
      replace hS := hS.trans (hb.mono hS.size)
      refine Shut.out hK _ _ (hS.mono hBZ) (fun _ => ?_)
      clear hK K
      try simp only [Act.put, List.setIfInBounds_toArray, List.set_cons_zero, List.set_cons_succ]
      exact IH _ _ _ _ (by omega) ⟨lq0, true, cq1, xq0, xq1, v19, _, v21, v18, v22, v23, v24, p2, p3, sf0, sa0, rfl, (by (try simp only [List.setIfInBounds_toArray, List.set_cons_zero, List.set_cons_succ]); try rfl), (by simp only [cond_true, cond_false] at hn ⊢; omega), hc0, (fun _ => rfl), hS, h19, (fun _ => rfl), h22, h23, h24, (fun h => ⟨(ksf0 h).1, (ksf0 h).2.1, blk_below (ksf0 h).2.2 hb (blk_lt (ksf0 h).2.2)⟩), (fun h => ⟨(ksa0 h).1, (ksa0 h).2.1, blk_below (ksa0 h).2.2 hb (blk_lt (ksa0 h).2.2)⟩)⟩
    · skip
      obtain rfl := h19 rfl
      obtain rfl := h20 rfl
      refine inv_arm (o := ⟨some 21, .call { callee := .value (.func 8), args := #[.tmp 19, .tmp 20, .const (Value.int IntKind.i64 2)], argTypes := #[29, 31, 2] }, 39, "law.go:17", #[⟨0, .data⟩, ⟨1, .data⟩, ⟨1, .chain⟩], none⟩) rfl (fun K hK => ?_)
      go_simp
      go_wp2_with fail
      refine (K0.out _).mono ?_; rintro e u2 ⟨rfl, hb⟩
      replace hS := hS.trans (hb.mono hS.size)
      obtain ⟨fu, rfl⟩ : ∃ m, fu = m + 4 := ⟨fu - 4, by simp only [cond_true, cond_false] at hn; omega⟩
      refine Shut.out hK _ _ (hS.mono hBZ) (fun _ => ?_)
      clear hK K
      try simp only [Act.put, List.setIfInBounds_toArray, List.set_cons_zero, List.set_cons_succ]
      refine wpAnyH_take (i := 3) (oi := ⟨some 18, .move (.tmp 21), 39, "law.go:17", #[⟨2, .data⟩], none⟩) (v := ?_) rfl (by kernel_rfl) ((show ∀ xq0 xq1 : Bool, Region.free _ _ #[true, true, true, false, false, false, false, xq0, xq1, false, false, false] 3 = true from by intro xq0 xq1; cases xq0 <;> cases xq1 <;> kernel_rfl) xq0 xq1) ((show ∀ xq0 xq1 : Bool, (Region.ready _ _ #[true, true, true, false, false, false, false, xq0, xq1, false, false, false]).contains 3 = true from by intro xq0 xq1; cases xq0 <;> cases xq1 <;> kernel_rfl) xq0 xq1) (fun _ _ _ h => h) (Or.inl ⟨by rfl, ?_⟩) (hS.mono hBZ) ?_
      rotate_left
      · intro wv _; go_simp; try with_reducible rfl
      try simp only [Act.put, List.setIfInBounds_toArray, List.set_cons_zero, List.set_cons_succ]
      refine wpAnyH_take (i := 4) (oi := ⟨some 22, .extract (.tmp 18) 0, 29, "law.go:17", #[⟨3, .data⟩], none⟩) (v := ?_) rfl (by kernel_rfl) ((show ∀ xq0 xq1 : Bool, Region.free _ _ #[true, true, true, true, false, false, false, xq0, xq1, false, false, false] 4 = true from by intro xq0 xq1; cases xq0 <;> cases xq1 <;> kernel_rfl) xq0 xq1) ((show ∀ xq0 xq1 : Bool, (Region.ready _ _ #[true, true, true, true, false, false, false, xq0, xq1, false, false, false]).contains 4 = true from by intro xq0 xq1; cases xq0 <;> cases xq1 <;> kernel_rfl) xq0 xq1) (fun _ _ _ h => h) (Or.inl ⟨by rfl, ?_⟩) (hS.mono hBZ) ?_
      rotate_left
      · intro wv _; go_simp; try with_reducible rfl
      try simp only [Act.put, List.setIfInBounds_toArray, List.set_cons_zero, List.set_cons_succ]
      refine wpAnyH_take (i := 5) (oi := ⟨some 23, .extract (.tmp 18) 1, 31, "law.go:17", #[⟨3, .data⟩, ⟨9, .gcOnly .lateStores⟩], none⟩) (v := ?_) rfl (by kernel_rfl) ((show ∀ xq0 xq1 : Bool, Region.free _ _ #[true, true, true, true, true, false, false, xq0, xq1, false, false, false] 5 = true from by intro xq0 xq1; cases xq0 <;> cases xq1 <;> kernel_rfl) xq0 xq1) ((show ∀ xq0 xq1 : Bool, (Region.ready _ _ #[true, true, true, true, true, false, false, xq0, xq1, false, false, false]).contains 5 = true from by intro xq0 xq1; cases xq0 <;> cases xq1 <;> kernel_rfl) xq0 xq1) (fun _ _ _ h => h) (Or.inl ⟨by rfl, ?_⟩) (hS.mono hBZ) ?_
      rotate_left
      · intro wv _; go_simp; try with_reducible rfl
      try simp only [Act.put, List.setIfInBounds_toArray, List.set_cons_zero, List.set_cons_succ]
      refine wpAnyH_take (i := 6) (oi := ⟨some 24, .extract (.tmp 18) 2, 38, "law.go:17", #[⟨3, .data⟩, ⟨10, .gcOnly .lateStores⟩], none⟩) (v := ?_) rfl (by kernel_rfl) ((show ∀ xq0 xq1 : Bool, Region.free _ _ #[true, true, true, true, true, true, false, xq0, xq1, false, false, false] 6 = true from by intro xq0 xq1; cases xq0 <;> cases xq1 <;> kernel_rfl) xq0 xq1) ((show ∀ xq0 xq1 : Bool, (Region.ready _ _ #[true, true, true, true, true, true, false, xq0, xq1, false, false, false]).contains 6 = true from by intro xq0 xq1; cases xq0 <;> cases xq1 <;> kernel_rfl) xq0 xq1) (fun _ _ _ h => h) (Or.inl ⟨by rfl, ?_⟩) (hS.mono hBZ) ?_
      rotate_left
      · intro wv _; go_simp; try with_reducible rfl
      try simp only [Act.put, List.setIfInBounds_toArray, List.set_cons_zero, List.set_cons_succ]
      exact IH _ _ _ _ (by omega) ⟨true, true, true, xq0, xq1, _, _, _, _, _, _, _, p2, p3, sf0, sa0, rfl, (by (try simp only [List.setIfInBounds_toArray, List.set_cons_zero, List.set_cons_succ]); try rfl), (by simp only [cond_true, cond_false] at hn ⊢; omega), (fun _ => rfl), (fun _ => rfl), hS, (fun _ => rfl), (fun _ => rfl), (fun _ => rfl), (fun _ => rfl), (fun _ => rfl), (fun h => ⟨(ksf0 h).1, (ksf0 h).2.1, blk_below (ksf0 h).2.2 hb (blk_lt (ksf0 h).2.2)⟩), (fun h => ⟨(ksa0 h).1, (ksa0 h).2.1, blk_below (ksa0 h).2.2 hb (blk_lt (ksa0 h).2.2)⟩)⟩
    · skip
      refine inv_arm (o := ⟨some 2, .alloc 31, 0, "law.go:17", #[], none⟩) rfl (fun K hK => ?_)
      go_simp
      have zs := hS.size
      have hb := (Below.refl u.heap.size u).alloc (Nat.le_refl _) (.cells #[.int .i64 0, .int .i64 0, .int .i64 0, .int .i64 0, .int .i64 0, .int .i64 0, .bool false, .bool false, .int .i64 0, .bool false] 31)
      replace hS := hS.trans (hb.mono hS.size)
      refine Shut.out hK _ _ (hS.mono hBZ) (fun _ => ?_)
      clear hK K
      try simp only [Act.put, List.setIfInBounds_toArray, List.set_cons_zero, List.set_cons_succ]
      exact IH _ _ _ _ (by omega) ⟨lq0, cq0, cq1, true, xq1, v19, v20, v21, v18, v22, v23, v24, _, p3, u.heap.size, sa0, rfl, (by (try simp only [List.setIfInBounds_toArray, List.set_cons_zero, List.set_cons_succ]); try rfl), (by simp only [cond_true, cond_false] at hn ⊢; omega), hc0, hc1, hS, h19, h20, h22, h23, h24, (fun _ => ⟨rfl, zs, heap_alloc_new _ _⟩), (fun h => ⟨(ksa0 h).1, (ksa0 h).2.1, blk_below (ksa0 h).2.2 hb (blk_lt (ksa0 h).2.2)⟩)⟩
    · skip
      refine inv_arm (o := ⟨some 3, .alloc 38, 0, "law.go:17", #[], none⟩) rfl (fun K hK => ?_)
      go_simp
      have zs := hS.size
      have hb := (Below.refl u.heap.size u).alloc (Nat.le_refl _) (.cells #[.bool false, .bool false, .bool false, .int .i64 0, .int .i64 0, .int .u64 0, .slice none 0 0] 38)
      replace hS := hS.trans (hb.mono hS.size)
      refine Shut.out hK _ _ (hS.mono hBZ) (fun _ => ?_)
      clear hK K
      try simp only [Act.put, List.setIfInBounds_toArray, List.set_cons_zero, List.set_cons_succ]
      exact IH _ _ _ _ (by omega) ⟨lq0, cq0, cq1, xq0, true, v19, v20, v21, v18, v22, v23, v24, p2, _, sf0, u.heap.size, rfl, (by (try simp only [List.setIfInBounds_toArray, List.set_cons_zero, List.set_cons_succ]); try rfl), (by simp only [cond_true, cond_false] at hn ⊢; omega), hc0, hc1, hS, h19, h20, h22, h23, h24, (fun h => ⟨(ksf0 h).1, (ksf0 h).2.1, blk_below (ksf0 h).2.2 hb (blk_lt (ksf0 h).2.2)⟩), (fun _ => ⟨rfl, zs, heap_alloc_new _ _⟩)⟩
  simp only [Bool.and_eq_true] at hall
  obtain ⟨rfl, rfl, rfl, rfl, rfl⟩ := hall
  obtain rfl := h19 rfl
  obtain rfl := h20 rfl
  obtain rfl := h22 rfl
  obtain rfl := h23 rfl
  obtain rfl := h24 rfl
  obtain ⟨rfl, gsf0, Vsf0⟩ := ksf0 rfl
  obtain ⟨rfl, gsa0, Vsa0⟩ := ksa0 rfl
  obtain ⟨fu, rfl⟩ : ∃ m, fu = m + 3 := ⟨fu - 3, by simp only [cond_true] at hn; omega⟩
  clear IH hn hc0 hc1
  have neo_f0 := Nat.ne_of_lt (Nat.lt_of_lt_of_le (blk_lt Vo.out) gsf0)
  have neo_a0 := Nat.ne_of_lt (Nat.lt_of_lt_of_le (blk_lt Vo.out) gsa0)
  have nef0_a0 : sf0 ≠ sa0 := blk_ne Vsf0 Vsa0 (by decide)
  have gef0 := Nat.le_trans HB.out.2 gsf0
  have gea0 := Nat.le_trans HB.out.2 gsa0
  replace Vo := Lib.hid (blk_below Vo.out hS (blk_lt Vo.out))
  replace HB := Lib.hid (And.intro (HB.out.1.trans (hS.mono HB.out.2)) (Nat.le_trans HB.out.2 hS.size))
  have Vf0 := Lib.hid Vsf0
  clear Vsf0
  have Va0 := Lib.hid Vsa0
  clear Vsa0
  obtain ⟨w3, hw3⟩ : ∃ W, u.setCells (w.heap.size) 0 [.int .i64 3, .int .i64 2, .int .i64 0, .int .i64 0, .int .i64 0, .int .i64 0, .int .i64 0, .int .u32 0, .int .u32 0, .slice none 0 0, .slice none 0 0] = W := ⟨_, rfl⟩
  have tho := Lib.hid (there_blk Vo.out (k := 11) rfl)
  replace Vf0 := Lib.hid (stayS hw3 neo_f0.symm Vf0.out)
  replace Va0 := Lib.hid (stayS hw3 neo_a0.symm Va0.out)
  replace Vo := Lib.hid (setS hw3 Vo.out rfl)
  replace HB := Lib.hid (belS hw3 geo HB.out)
  replace hS := (hS.mono hBZ)
  refine wpAnyH_ready (rs := [9]) (by kernel_rfl) (by simp) (AllReadyH.cons (o := ⟨none, .store 29 (.tmp 1) (.tmp 22), 0, "law.go:17", #[⟨4, .data⟩, ⟨2, .chain⟩, ⟨0, .phase⟩, ⟨1, .phase⟩, ⟨2, .phase⟩, ⟨3, .phase⟩, ⟨4, .phase⟩, ⟨5, .textOnly .lateStores⟩, ⟨6, .textOnly .lateStores⟩, ⟨7, .phase⟩, ⟨8, .phase⟩], none⟩) rfl (fun K hK => ?_) AllReadyH.nil)
  refine op_storeS (by rfl) rfl rfl rfl tho.out (by kernel_rfl) (by simp [Value.oneCell']) hw3 ?_
  replace hS := hw3 ▸ below_setCells geo [.int .i64 3, .int .i64 2, .int .i64 0, .int .i64 0, .int .i64 0, .int .i64 0, .int .i64 0, .int .u32 0, .int .u32 0, .slice none 0 0, .slice none 0 0] 0 _ hS
  obtain ⟨w4, hw4⟩ : ∃ W, w3.setCells (sf0) 0 [.int .i64 0, .int .i64 0, .int .i64 0, .int .i64 0, .int .i64 0, .int .i64 0, .bool false, .bool false, .int .i64 0, .bool false] = W := ⟨_, rfl⟩
  have thf0 := Lib.hid (there_blk Vf0.out (k := 10) rfl)
  replace Vo := Lib.hid (stayS hw4 neo_f0 Vo.out)
  replace Va0 := Lib.hid (stayS hw4 nef0_a0.symm Va0.out)
  replace Vf0 := Lib.hid (setS hw4 Vf0.out rfl)
  replace HB := Lib.hid (belS hw4 gef0 HB.out)
  refine Shut.out hK _ _ hS (fun _ => ?_)
  clear hK K
  try simp only [Act.put, List.setIfInBounds_toArray, List.set_cons_zero, List.set_cons_succ]
  refine wpAnyH_ready (rs := [10]) (by kernel_rfl) (by simp) (AllReadyH.cons (o := ⟨none, .store 31 (.tmp 2) (.tmp 23), 0, "law.go:17", #[⟨7, .data⟩, ⟨5, .data⟩, ⟨9, .chain⟩, ⟨0, .phase⟩, ⟨1, .phase⟩, ⟨2, .phase⟩, ⟨3, .phase⟩, ⟨4, .phase⟩, ⟨5, .phase⟩, ⟨6, .textOnly .lateStores⟩, ⟨7, .phase⟩, ⟨8, .phase⟩, ⟨9, .phase⟩], none⟩) rfl (fun K hK => ?_) AllReadyH.nil)
  refine op_storeS (by rfl) rfl rfl rfl thf0.out (by kernel_rfl) (by simp [Value.oneCell']) hw4 ?_
  replace hS := hw4 ▸ below_setCells gef0 [.int .i64 0, .int .i64 0, .int .i64 0, .int .i64 0, .int .i64 0, .int .i64 0, .bool false, .bool false, .int .i64 0, .bool false] 0 _ hS
  obtain ⟨w5, hw5⟩ : ∃ W, w4.setCells (sa0) 0 [.bool true, .bool false, .bool false, .int .i64 0, .int .i64 0, .int .u64 0, .slice none 0 0] = W := ⟨_, rfl⟩
  have tha0 := Lib.hid (there_blk Va0.out (k := 7) rfl)
  replace Vo := Lib.hid (stayS hw5 neo_a0 Vo.out)
  replace Vf0 := Lib.hid (stayS hw5 nef0_a0 Vf0.out)
  replace Va0 := Lib.hid (setS hw5 Va0.out rfl)
  replace HB := Lib.hid (belS hw5 gea0 HB.out)
  refine Shut.out hK _ _ hS (fun _ => ?_)
  clear hK K
  try simp only [Act.put, List.setIfInBounds_toArray, List.set_cons_zero, List.set_cons_succ]
  refine wpAnyH_ready (rs := [11]) (by kernel_rfl) (by simp) (AllReadyH.cons (o := ⟨none, .store 38 (.tmp 3) (.tmp 24), 0, "law.go:17", #[⟨8, .data⟩, ⟨6, .data⟩, ⟨10, .chain⟩, ⟨0, .phase⟩, ⟨1, .phase⟩, ⟨2, .phase⟩, ⟨3, .phase⟩, ⟨4, .phase⟩, ⟨5, .phase⟩, ⟨6, .phase⟩, ⟨7, .phase⟩, ⟨8, .phase⟩, ⟨9, .phase⟩, ⟨10, .phase⟩], none⟩) rfl (fun K hK => ?_) AllReadyH.nil)
  refine op_storeS (by rfl) rfl rfl rfl tha0.out (by kernel_rfl) (by simp [Value.oneCell']) hw5 ?_
  replace hS := hw5 ▸ below_setCells gea0 [.bool true, .bool false, .bool false, .int .i64 0, .int .i64 0, .int .u64 0, .slice none 0 0] 0 _ hS
  refine Shut.out hK _ _ hS (fun _ => ?_)
  clear hK K
  try simp only [Act.put, List.setIfInBounds_toArray, List.set_cons_zero, List.set_cons_succ]
  refine wpAnyH_done (by kernel_rfl) ?_ _
  refine NoPanic.normal ?_
  clear hS hBZ gsf0 gsa0 tho thf0 tha0
  clear Vf0
  go_wp2
  have hBZ := HB.out.2
  refine wp_region_noPanic ?_
  refine wp_region_held_drew (S := (fun wv => Below w.heap.size w5 wv)) (by kernel_rfl) ((((Below.refl w5.heap.size w5).drew).mono hBZ)) (fun hS => ?_)
  refine inv_region (fun a0 fu listed a u => ∃ (lq0 cq0 cq1 xq0 xq1 : Bool) (v26 v27 v28 v25 v29 v30 v31 p4 p5 : Value) (sfw sb0 : Nat), listed = #[lq0, cq0, cq1, cq1, cq1, cq1, cq1, xq0, xq1, false, false, false] ∧ a = ⟨(((((((((a0.tmps.setIfInBounds 26 v26).setIfInBounds 27 v27).setIfInBounds 28 v28).setIfInBounds 25 v25).setIfInBounds 29 v29).setIfInBounds 30 v30).setIfInBounds 31 v31).setIfInBounds 4 p4).setIfInBounds 5 p5), a0.defers⟩ ∧ (bif lq0 then 0 else 1) + (bif cq0 then 0 else 1) + (bif cq1 then 0 else 5) + (bif xq0 then 0 else 1) + (bif xq1 then 0 else 1) + 3 ≤ fu ∧ (cq1 = true → lq0 = true) ∧ (cq1 = true → cq0 = true) ∧ Below w5.heap.size w5 u ∧ (lq0 = true → v26 = .agg #[.int .i64 3, .int .i64 2, .int .i64 0, .int .i64 0, .int .i64 0, .int .i64 0, .int .i64 0, .int .u32 0, .int .u32 0, .slice none 0 0, .slice none 0 0]) ∧ (cq0 = true → v27 = .agg #[.int .i64 33, .int .i64 0, .int .i64 0, .int .i64 0, .int .i64 (-1), .int .i64 0, .bool false, .bool false, .int .i64 0, .bool false]) ∧ (cq1 = true → v29 = .agg #[.int .i64 3, .int .i64 2, .int .i64 1, .int .i64 0, .int .i64 0, .int .i64 0, .int .i64 0, .int .u32 0, .int .u32 0, .slice none 0 0, .slice none 0 0]) ∧ (cq1 = true → v30 = .agg #[.int .i64 33, .int .i64 1, .int .i64 0, .int .i64 0, .int .i64 (-1), .int .i64 0, .bool false, .bool false, .int .i64 3, .bool false]) ∧ (cq1 = true → v31 = .agg #[.bool false, .bool false, .bool false, .int .i64 0, .int .i64 0, .int .u64 0, .slice none 0 0]) ∧ (xq0 = true → p4 = .pointer (some ⟨sfw, 0, none⟩) ∧ w5.heap.size ≤ sfw ∧ u.heap[sfw]? = some (.cells #[.int .i64 0, .int .i64 0, .int .i64 0, .int .i64 0, .int .i64 0, .int .i64 0, .bool false, .bool false, .int .i64 0, .bool false] 31)) ∧ (xq1 = true → p5 = .pointer (some ⟨sb0, 0, none⟩) ∧ w5.heap.size ≤ sb0 ∧ u.heap[sb0]? = some (.cells #[.bool false, .bool false, .bool false, .int .i64 0, .int .i64 0, .int .u64 0, .slice none 0 0] 38))) ⟨false, false, false, false, false, undef, undef, undef, undef, undef, undef, undef, undef, undef, 0, 0, rfl, (by first | (simp only [List.setIfInBounds_toArray, List.set_cons_zero, List.set_cons_succ]; done) | rfl), (by show _ + _ ≤ _; decide), (fun h => nomatch h), (fun h => nomatch h), ((Below.refl w5.heap.size w5).drew), (fun h => nomatch h), (fun h => nomatch h), (fun h => nomatch h), (fun h => nomatch h), (fun h => nomatch h), (fun h => nomatch h), (fun h => nomatch h)⟩ ?_
  clear hS; rintro fu listed a u ⟨lq0, cq0, cq1, xq0, xq1, v26, v27, v28, v25, v29, v30, v31, p4, p5, sfw, sb0, rfl, rfl, hn, hc0, hc1, hS, h26, h27, h29, h30, h31, ksfw, ksb0⟩ IH
  try simp only [List.setIfInBounds_toArray, List.set_cons_zero, List.set_cons_succ]
  by_cases hall : (lq0 && (cq0 && (cq1 && (xq0 && (xq1))))) = true
  rotate_left
  · have hbad : ((cq1 && !lq0) || ((cq1 && !cq0) || ((lq0 && (cq0 && (cq1 && (xq0 && (xq1)))))))) = false := inv_or (inv_imp hc0) (inv_or (inv_imp hc1) (inv_not hall))
    obtain ⟨fu, rfl⟩ : ∃ m, fu = m + 1 := ⟨fu - 1, by omega⟩
    refine inv_step (bad := ((cq1 && !lq0) || ((cq1 && !cq0) || ((lq0 && (cq0 && (cq1 && (xq0 && (xq1))))))))) (fun i => ((i == 0 && !lq0) || ((i == 1 && !cq0) || ((i == 2 && (lq0 && (cq0 && !cq1))) || ((i == 7 && !xq0) || ((i == 8 && !xq1))))))) ((show ∀ lq0 cq0 cq1 xq0 xq1 : Bool, (((cq1 && !lq0) || ((cq1 && !cq0) || ((lq0 && (cq0 && (cq1 && (xq0 && (xq1)))))))) || (!(Region.ready _ _ #[lq0, cq0, cq1, cq1, cq1, cq1, cq1, xq0, xq1, false, false, false]).isEmpty && (Region.ready _ _ #[lq0, cq0, cq1, cq1, cq1, cq1, cq1, xq0, xq1, false, false, false]).all (fun i => ((i == 0 && !lq0) || ((i == 1 && !cq0) || ((i == 2 && (lq0 && (cq0 && !cq1))) || ((i == 7 && !xq0) || ((i == 8 && !xq1))))))))) = true from by intro lq0 cq0 cq1 xq0 xq1; cases lq0 <;> cases cq0 <;> cases cq1 <;> cases xq0 <;> cases xq1 <;> kernel_rfl) lq0 cq0 cq1 xq0 xq1) hbad (fun i hi => ?_)
    simp only [Bool.or_eq_true, Bool.and_eq_true, beq_iff_eq, Bool.not_eq_true'] at hi
    clear hall hbad
    rcases hi with ⟨rfl, rfl⟩ | ⟨rfl, rfl⟩ | ⟨rfl, rfl, rfl, rfl⟩ | ⟨rfl, rfl⟩ | ⟨rfl, rfl⟩
    · skip
      obtain ⟨lc0, lc1, lc2, lc3, lc4, lc5, lc6, lc7, lc8, lc9, lc10⟩ := row11 (blk_below Vo.out hS (blk_lt Vo.out))
      refine inv_arm (o := ⟨some 26, .load 29 (.tmp 1), 29, "law.go:18", #[], none⟩) rfl (fun K hK => ?_)
      go_simp
      clear lc0 lc1 lc2 lc3 lc4 lc5 lc6 lc7 lc8 lc9 lc10
      refine Shut.out hK _ _ (hS.mono hBZ) (fun _ => ?_)
      clear hK K
      try simp only [Act.put, List.setIfInBounds_toArray, List.set_cons_zero, List.set_cons_succ]
      exact IH _ _ _ _ (by omega) ⟨true, cq0, cq1, xq0, xq1, _, v27, v28, v25, v29, v30, v31, p4, p5, sfw, sb0, rfl, (by (try simp only [List.setIfInBounds_toArray, List.set_cons_zero, List.set_cons_succ]); try rfl), (by simp only [cond_true, cond_false] at hn ⊢; omega), (fun _ => rfl), hc1, hS, (fun _ => rfl), h27, h29, h30, h31, (fun h => ⟨(ksfw h).1, (ksfw h).2.1, blk_below (ksfw h).2.2 (Below.refl _ _) (blk_lt (ksfw h).2.2)⟩), (fun h => ⟨(ksb0 h).1, (ksb0 h).2.1, blk_below (ksb0 h).2.2 (Below.refl _ _) (blk_lt (ksb0 h).2.2)⟩)⟩
    · skip
      refine inv_arm (o := ⟨some 27, .call { callee := .value (.func 14), args := #[.const (Value.int IntKind.i64 33)], argTypes := #[3] }, 31, "law.go:18", #[], none⟩) rfl (fun K hK => ?_)
      go_simp
      go_wp2_with fail
      refine (N2.out _).mono ?_; rintro e u1 ⟨rfl, hb⟩
      replace hS := hS.trans (hb.mono hS.size)
      refine Shut.out hK _ _ (hS.mono hBZ) (fun _ => ?_)
      clear hK K
      try simp only [Act.put, List.setIfInBounds_toArray, List.set_cons_zero, List.set_cons_succ]
      exact IH _ _ _ _ (by omega) ⟨lq0, true, cq1, xq0, xq1, v26, _, v28, v25, v29, v30, v31, p4, p5, sfw, sb0, rfl, (by (try simp only [List.setIfInBounds_toArray, List.set_cons_zero, List.set_cons_succ]); try rfl), (by simp only [cond_true, cond_false] at hn ⊢; omega), hc0, (fun _ => rfl), hS, h26, (fun _ => rfl), h29, h30, h31, (fun h => ⟨(ksfw h).1, (ksfw h).2.1, blk_below (ksfw h).2.2 hb (blk_lt (ksfw h).2.2)⟩), (fun h => ⟨(ksb0 h).1, (ksb0 h).2.1, blk_below (ksb0 h).2.2 hb (blk_lt (ksb0 h).2.2)⟩)⟩
    · skip
      obtain rfl := h26 rfl
      obtain rfl := h27 rfl
      refine inv_arm (o := ⟨some 28, .call { callee := .value (.func 10), args := #[.tmp 26, .tmp 27], argTypes := #[29, 31] }, 39, "law.go:18", #[⟨0, .data⟩, ⟨1, .data⟩, ⟨1, .chain⟩], none⟩) rfl (fun K hK => ?_)
      go_simp
      go_wp2_with fail
      refine (K1.out _).mono ?_; rintro e u2 ⟨rfl, hb⟩
      replace hS := hS.trans (hb.mono hS.size)
      obtain ⟨fu, rfl⟩ : ∃ m, fu = m + 4 := ⟨fu - 4, by simp only [cond_true, cond_false] at hn; omega⟩
      refine Shut.out hK _ _ (hS.mono hBZ) (fun _ => ?_)
      clear hK K
      try simp only [Act.put, List.setIfInBounds_toArray, List.set_cons_zero, List.set_cons_succ]
      refine wpAnyH_take (i := 3) (oi := ⟨some 25, .move (.tmp 28), 39, "law.go:18", #[⟨2, .data⟩], none⟩) (v := ?_) rfl (by kernel_rfl) ((show ∀ xq0 xq1 : Bool, Region.free _ _ #[true, true, true, false, false, false, false, xq0, xq1, false, false, false] 3 = true from by intro xq0 xq1; cases xq0 <;> cases xq1 <;> kernel_rfl) xq0 xq1) ((show ∀ xq0 xq1 : Bool, (Region.ready _ _ #[true, true, true, false, false, false, false, xq0, xq1, false, false, false]).contains 3 = true from by intro xq0 xq1; cases xq0 <;> cases xq1 <;> kernel_rfl) xq0 xq1) (fun _ _ _ h => h) (Or.inl ⟨by rfl, ?_⟩) (hS.mono hBZ) ?_
      rotate_left
      · intro wv _; go_simp; try with_reducible rfl
      try simp only [Act.put, List.setIfInBounds_toArray, List.set_cons_zero, List.set_cons_succ]
      refine wpAnyH_take (i := 4) (oi := ⟨some 29, .extract (.tmp 25) 0, 29, "law.go:18", #[⟨3, .data⟩], none⟩) (v := ?_) rfl (by kernel_rfl) ((show ∀ xq0 xq1 : Bool, Region.free _ _ #[true, true, true, true, false, false, false, xq0, xq1, false, false, false] 4 = true from by intro xq0 xq1; cases xq0 <;> cases xq1 <;> kernel_rfl) xq0 xq1) ((show ∀ xq0 xq1 : Bool, (Region.ready _ _ #[true, true, true, true, false, false, false, xq0, xq1, false, false, false]).contains 4 = true from by intro xq0 xq1; cases xq0 <;> cases xq1 <;> kernel_rfl) xq0 xq1) (fun _ _ _ h => h) (Or.inl ⟨by rfl, ?_⟩) (hS.mono hBZ) ?_
      rotate_left
      · intro wv _; go_simp; try with_reducible rfl
      try simp only [Act.put, List.setIfInBounds_toArray, List.set_cons_zero, List.set_cons_succ]
      refine wpAnyH_take (i := 5) (oi := ⟨some 30, .extract (.tmp 25) 1, 31, "law.go:18", #[⟨3, .data⟩, ⟨9, .gcOnly .lateStores⟩], none⟩) (v := ?_) rfl (by kernel_rfl) ((show ∀ xq0 xq1 : Bool, Region.free _ _ #[true, true, true, true, true, false, false, xq0, xq1, false, false, false] 5 = true from by intro xq0 xq1; cases xq0 <;> cases xq1 <;> kernel_rfl) xq0 xq1) ((show ∀ xq0 xq1 : Bool, (Region.ready _ _ #[true, true, true, true, true, false, false, xq0, xq1, false, false, false]).contains 5 = true from by intro xq0 xq1; cases xq0 <;> cases xq1 <;> kernel_rfl) xq0 xq1) (fun _ _ _ h => h) (Or.inl ⟨by rfl, ?_⟩) (hS.mono hBZ) ?_
      rotate_left
      · intro wv _; go_simp; try with_reducible rfl
      try simp only [Act.put, List.setIfInBounds_toArray, List.set_cons_zero, List.set_cons_succ]
      refine wpAnyH_take (i := 6) (oi := ⟨some 31, .extract (.tmp 25) 2, 38, "law.go:18", #[⟨3, .data⟩, ⟨10, .gcOnly .lateStores⟩], none⟩) (v := ?_) rfl (by kernel_rfl) ((show ∀ xq0 xq1 : Bool, Region.free _ _ #[true, true, true, true, true, true, false, xq0, xq1, false, false, false] 6 = true from by intro xq0 xq1; cases xq0 <;> cases xq1 <;> kernel_rfl) xq0 xq1) ((show ∀ xq0 xq1 : Bool, (Region.ready _ _ #[true, true, true, true, true, true, false, xq0, xq1, false, false, false]).contains 6 = true from by intro xq0 xq1; cases xq0 <;> cases xq1 <;> kernel_rfl) xq0 xq1) (fun _ _ _ h => h) (Or.inl ⟨by rfl, ?_⟩) (hS.mono hBZ) ?_
      rotate_left
      · intro wv _; go_simp; try with_reducible rfl
      try simp only [Act.put, List.setIfInBounds_toArray, List.set_cons_zero, List.set_cons_succ]
      exact IH _ _ _ _ (by omega) ⟨true, true, true, xq0, xq1, _, _, _, _, _, _, _, p4, p5, sfw, sb0, rfl, (by (try simp only [List.setIfInBounds_toArray, List.set_cons_zero, List.set_cons_succ]); try rfl), (by simp only [cond_true, cond_false] at hn ⊢; omega), (fun _ => rfl), (fun _ => rfl), hS, (fun _ => rfl), (fun _ => rfl), (fun _ => rfl), (fun _ => rfl), (fun _ => rfl), (fun h => ⟨(ksfw h).1, (ksfw h).2.1, blk_below (ksfw h).2.2 hb (blk_lt (ksfw h).2.2)⟩), (fun h => ⟨(ksb0 h).1, (ksb0 h).2.1, blk_below (ksb0 h).2.2 hb (blk_lt (ksb0 h).2.2)⟩)⟩
    · skip
      refine inv_arm (o := ⟨some 4, .alloc 31, 0, "law.go:18", #[], none⟩) rfl (fun K hK => ?_)
      go_simp
      have zs := hS.size
      have hb := (Below.refl u.heap.size u).alloc (Nat.le_refl _) (.cells #[.int .i64 0, .int .i64 0, .int .i64 0, .int .i64 0, .int .i64 0, .int .i64 0, .bool false, .bool false, .int .i64 0, .bool false] 31)
      replace hS := hS.trans (hb.mono hS.size)
      refine Shut.out hK _ _ (hS.mono hBZ) (fun _ => ?_)
      clear hK K
      try simp only [Act.put, List.setIfInBounds_toArray, List.set_cons_zero, List.set_cons_succ]
      exact IH _ _ _ _ (by omega) ⟨lq0, cq0, cq1, true, xq1, v26, v27, v28, v25, v29, v30, v31, _, p5, u.heap.size, sb0, rfl, (by (try simp only [List.setIfInBounds_toArray, List.set_cons_zero, List.set_cons_succ]); try rfl), (by simp only [cond_true, cond_false] at hn ⊢; omega), hc0, hc1, hS, h26, h27, h29, h30, h31, (fun _ => ⟨rfl, zs, heap_alloc_new _ _⟩), (fun h => ⟨(ksb0 h).1, (ksb0 h).2.1, blk_below (ksb0 h).2.2 hb (blk_lt (ksb0 h).2.2)⟩)⟩
    · skip
      refine inv_arm (o := ⟨some 5, .alloc 38, 0, "law.go:18", #[], none⟩) rfl (fun K hK => ?_)
      go_simp
      have zs := hS.size
      have hb := (Below.refl u.heap.size u).alloc (Nat.le_refl _) (.cells #[.bool false, .bool false, .bool false, .int .i64 0, .int .i64 0, .int .u64 0, .slice none 0 0] 38)
      replace hS := hS.trans (hb.mono hS.size)
      refine Shut.out hK _ _ (hS.mono hBZ) (fun _ => ?_)
      clear hK K
      try simp only [Act.put, List.setIfInBounds_toArray, List.set_cons_zero, List.set_cons_succ]
      exact IH _ _ _ _ (by omega) ⟨lq0, cq0, cq1, xq0, true, v26, v27, v28, v25, v29, v30, v31, p4, _, sfw, u.heap.size, rfl, (by (try simp only [List.setIfInBounds_toArray, List.set_cons_zero, List.set_cons_succ]); try rfl), (by simp only [cond_true, cond_false] at hn ⊢; omega), hc0, hc1, hS, h26, h27, h29, h30, h31, (fun h => ⟨(ksfw h).1, (ksfw h).2.1, blk_below (ksfw h).2.2 hb (blk_lt (ksfw h).2.2)⟩), (fun _ => ⟨rfl, zs, heap_alloc_new _ _⟩)⟩
  simp only [Bool.and_eq_true] at hall
  obtain ⟨rfl, rfl, rfl, rfl, rfl⟩ := hall
  obtain rfl := h26 rfl
  obtain rfl := h27 rfl
  obtain rfl := h29 rfl
  obtain rfl := h30 rfl
  obtain rfl := h31 rfl
  obtain ⟨rfl, gsfw, Vsfw⟩ := ksfw rfl
  obtain ⟨rfl, gsb0, Vsb0⟩ := ksb0 rfl
  obtain ⟨fu, rfl⟩ : ∃ m, fu = m + 3 := ⟨fu - 3, by simp only [cond_true] at hn; omega⟩
  clear IH hn hc0 hc1
  have neo_fw := Nat.ne_of_lt (Nat.lt_of_lt_of_le (blk_lt Vo.out) gsfw)
  have nea0_fw := Nat.ne_of_lt (Nat.lt_of_lt_of_le (blk_lt Va0.out) gsfw)
  have neo_b0 := Nat.ne_of_lt (Nat.lt_of_lt_of_le (blk_lt Vo.out) gsb0)
  have nea0_b0 := Nat.ne_of_lt (Nat.lt_of_lt_of_le (blk_lt Va0.out) gsb0)
  have nefw_b0 : sfw ≠ sb0 := blk_ne Vsfw Vsb0 (by decide)
  have gefw := Nat.le_trans HB.out.2 gsfw
  have geb0 := Nat.le_trans HB.out.2 gsb0
  replace Vo := Lib.hid (blk_below Vo.out hS (blk_lt Vo.out))
  replace Va0 := Lib.hid (blk_below Va0.out hS (blk_lt Va0.out))
  replace HB := Lib.hid (And.intro (HB.out.1.trans (hS.mono HB.out.2)) (Nat.le_trans HB.out.2 hS.size))
  have Vfw := Lib.hid Vsfw
  clear Vsfw
  have Vb0 := Lib.hid Vsb0
  clear Vsb0
  obtain ⟨w6, hw6⟩ : ∃ W, u.setCells (w.heap.size) 0 [.int .i64 3, .int .i64 2, .int .i64 1, .int .i64 0, .int .i64 0, .int .i64 0, .int .i64 0, .int .u32 0, .int .u32 0, .slice none 0 0, .slice none 0 0] = W := ⟨_, rfl⟩
  have tho := Lib.hid (there_blk Vo.out (k := 11) rfl)
  replace Va0 := Lib.hid (stayS hw6 neo_a0.symm Va0.out)
  replace Vfw := Lib.hid (stayS hw6 neo_fw.symm Vfw.out)
  replace Vb0 := Lib.hid (stayS hw6 neo_b0.symm Vb0.out)
  replace Vo := Lib.hid (setS hw6 Vo.out rfl)
  replace HB := Lib.hid (belS hw6 geo HB.out)
  replace hS := (hS.mono hBZ)
  refine wpAnyH_ready (rs := [9]) (by kernel_rfl) (by simp) (AllReadyH.cons (o := ⟨none, .store 29 (.tmp 1) (.tmp 29), 0, "law.go:18", #[⟨4, .data⟩, ⟨2, .chain⟩, ⟨0, .phase⟩, ⟨1, .phase⟩, ⟨2, .phase⟩, ⟨3, .phase⟩, ⟨4, .phase⟩, ⟨5, .textOnly .lateStores⟩, ⟨6, .textOnly .lateStores⟩, ⟨7, .phase⟩, ⟨8, .phase⟩], none⟩) rfl (fun K hK => ?_) AllReadyH.nil)
  refine op_storeS (by rfl) rfl rfl rfl tho.out (by kernel_rfl) (by simp [Value.oneCell']) hw6 ?_
  replace hS := hw6 ▸ below_setCells geo [.int .i64 3, .int .i64 2, .int .i64 1, .int .i64 0, .int .i64 0, .int .i64 0, .int .i64 0, .int .u32 0, .int .u32 0, .slice none 0 0, .slice none 0 0] 0 _ hS
  obtain ⟨w7, hw7⟩ : ∃ W, w6.setCells (sfw) 0 [.int .i64 33, .int .i64 1, .int .i64 0, .int .i64 0, .int .i64 (-1), .int .i64 0, .bool false, .bool false, .int .i64 3, .bool false] = W := ⟨_, rfl⟩
  have thfw := Lib.hid (there_blk Vfw.out (k := 10) rfl)
  replace Vo := Lib.hid (stayS hw7 neo_fw Vo.out)
  replace Va0 := Lib.hid (stayS hw7 nea0_fw Va0.out)
  replace Vb0 := Lib.hid (stayS hw7 nefw_b0.symm Vb0.out)
  replace Vfw := Lib.hid (setS hw7 Vfw.out rfl)
  replace HB := Lib.hid (belS hw7 gefw HB.out)
  refine Shut.out hK _ _ hS (fun _ => ?_)
  clear hK K
  try simp only [Act.put, List.setIfInBounds_toArray, List.set_cons_zero, List.set_cons_succ]
  refine wpAnyH_ready (rs := [10]) (by kernel_rfl) (by simp) (AllReadyH.cons (o := ⟨none, .store 31 (.tmp 4) (.tmp 30), 0, "law.go:18", #[⟨7, .data⟩, ⟨5, .data⟩, ⟨9, .chain⟩, ⟨0, .phase⟩, ⟨1, .phase⟩, ⟨2, .phase⟩, ⟨3, .phase⟩, ⟨4, .phase⟩, ⟨5, .phase⟩, ⟨6, .textOnly .lateStores⟩, ⟨7, .phase⟩, ⟨8, .phase⟩, ⟨9, .phase⟩], none⟩) rfl (fun K hK => ?_) AllReadyH.nil)
  refine op_storeS (by rfl) rfl rfl rfl thfw.out (by kernel_rfl) (by simp [Value.oneCell']) hw7 ?_
  replace hS := hw7 ▸ below_setCells gefw [.int .i64 33, .int .i64 1, .int .i64 0, .int .i64 0, .int .i64 (-1), .int .i64 0, .bool false, .bool false, .int .i64 3, .bool false] 0 _ hS
  obtain ⟨w8, hw8⟩ : ∃ W, w7.setCells (sb0) 0 [.bool false, .bool false, .bool false, .int .i64 0, .int .i64 0, .int .u64 0, .slice none 0 0] = W := ⟨_, rfl⟩
  have thb0 := Lib.hid (there_blk Vb0.out (k := 7) rfl)
  replace Vo := Lib.hid (stayS hw8 neo_b0 Vo.out)
  replace Va0 := Lib.hid (stayS hw8 nea0_b0 Va0.out)
  replace Vfw := Lib.hid (stayS hw8 nefw_b0 Vfw.out)
  replace Vb0 := Lib.hid (setS hw8 Vb0.out rfl)
  replace HB := Lib.hid (belS hw8 geb0 HB.out)
  refine Shut.out hK _ _ hS (fun _ => ?_)
  clear hK K
  try simp only [Act.put, List.setIfInBounds_toArray, List.set_cons_zero, List.set_cons_succ]
  refine wpAnyH_ready (rs := [11]) (by kernel_rfl) (by simp) (AllReadyH.cons (o := ⟨none, .store 38 (.tmp 5) (.tmp 31), 0, "law.go:18", #[⟨8, .data⟩, ⟨6, .data⟩, ⟨10, .chain⟩, ⟨0, .phase⟩, ⟨1, .phase⟩, ⟨2, .phase⟩, ⟨3, .phase⟩, ⟨4, .phase⟩, ⟨5, .phase⟩, ⟨6, .phase⟩, ⟨7, .phase⟩, ⟨8, .phase⟩, ⟨9, .phase⟩, ⟨10, .phase⟩], none⟩) rfl (fun K hK => ?_) AllReadyH.nil)
  refine op_storeS (by rfl) rfl rfl rfl thb0.out (by kernel_rfl) (by simp [Value.oneCell']) hw8 ?_
  replace hS := hw8 ▸ below_setCells geb0 [.bool false, .bool false, .bool false, .int .i64 0, .int .i64 0, .int .u64 0, .slice none 0 0] 0 _ hS
  refine Shut.out hK _ _ hS (fun _ => ?_)
  clear hK K
  try simp only [Act.put, List.setIfInBounds_toArray, List.set_cons_zero, List.set_cons_succ]
  refine wpAnyH_done (by kernel_rfl) ?_ _
  refine NoPanic.normal ?_
  clear hS hBZ gsfw gsb0 tho thfw thb0
  go_wp2
  have hBZ := HB.out.2
  refine wp_region_noPanic ?_
  refine wp_region_held_drew (S := (fun wv => Below w.heap.size w8 wv)) (by kernel_rfl) ((((Below.refl w8.heap.size w8).drew).mono hBZ)) (fun hS => ?_)
  refine inv_region (fun a0 fu listed a u => ∃ (lq0 cq0 cq1 xq0 xq1 : Bool) (v33 v34 v35 v32 v36 v37 v38 p6 p7 : Value) (sf1 sc0 : Nat), listed = #[lq0, cq0, cq1, cq1, cq1, cq1, cq1, xq0, xq1, false, false, false] ∧ a = ⟨(((((((((a0.tmps.setIfInBounds 33 v33).setIfInBounds 34 v34).setIfInBounds 35 v35).setIfInBounds 32 v32).setIfInBounds 36 v36).setIfInBounds 37 v37).setIfInBounds 38 v38).setIfInBounds 6 p6).setIfInBounds 7 p7), a0.defers⟩ ∧ (bif lq0 then 0 else 1) + (bif cq0 then 0 else 1) + (bif cq1 then 0 else 5) + (bif xq0 then 0 else 1) + (bif xq1 then 0 else 1) + 3 ≤ fu ∧ (cq1 = true → lq0 = true) ∧ (cq1 = true → cq0 = true) ∧ Below w8.heap.size w8 u ∧ (lq0 = true → v33 = .agg #[.int .i64 3, .int .i64 2, .int .i64 1, .int .i64 0, .int .i64 0, .int .i64 0, .int .i64 0, .int .u32 0, .int .u32 0, .slice none 0 0, .slice none 0 0]) ∧ (cq0 = true → v34 = .agg #[.int .i64 32, .int .i64 0, .int .i64 0, .int .i64 0, .int .i64 (-1), .int .i64 0, .bool false, .bool false, .int .i64 0, .bool false]) ∧ (cq1 = true → v36 = .agg #[.int .i64 3, .int .i64 1, .int .i64 1, .int .i64 0, .int .i64 0, .int .i64 0, .int .i64 0, .int .u32 0, .int .u32 0, .slice none 0 0, .slice none 0 0]) ∧ (cq1 = true → v37 = .agg #[.int .i64 0, .int .i64 0, .int .i64 0, .int .i64 0, .int .i64 0, .int .i64 0, .bool false, .bool false, .int .i64 0, .bool false]) ∧ (cq1 = true → v38 = .agg #[.bool true, .bool false, .bool false, .int .i64 0, .int .i64 0, .int .u64 0, .slice none 0 0]) ∧ (xq0 = true → p6 = .pointer (some ⟨sf1, 0, none⟩) ∧ w8.heap.size ≤ sf1 ∧ u.heap[sf1]? = some (.cells #[.int .i64 0, .int .i64 0, .int .i64 0, .int .i64 0, .int .i64 0, .int .i64 0, .bool false, .bool false, .int .i64 0, .bool false] 31)) ∧ (xq1 = true → p7 = .pointer (some ⟨sc0, 0, none⟩) ∧ w8.heap.size ≤ sc0 ∧ u.heap[sc0]? = some (.cells #[.bool false, .bool false, .bool false, .int .i64 0, .int .i64 0, .int .u64 0, .slice none 0 0] 38))) ⟨false, false, false, false, false, undef, undef, undef, undef, undef, undef, undef, undef, undef, 0, 0, rfl, (by first | (simp only [List.setIfInBounds_toArray, List.set_cons_zero, List.set_cons_succ]; done) | rfl), (by show _ + _ ≤ _; decide), (fun h => nomatch h), (fun h => nomatch h), ((Below.refl w8.heap.size w8).drew), (fun h => nomatch h), (fun h => nomatch h), (fun h => nomatch h), (fun h => nomatch h), (fun h => nomatch h), (fun h => nomatch h), (fun h => nomatch h)⟩ ?_
  clear hS; rintro fu listed a u ⟨lq0, cq0, cq1, xq0, xq1, v33, v34, v35, v32, v36, v37, v38, p6, p7, sf1, sc0, rfl, rfl, hn, hc0, hc1, hS, h33, h34, h36, h37, h38, ksf1, ksc0⟩ IH
  try simp only [List.setIfInBounds_toArray, List.set_cons_zero, List.set_cons_succ]
  by_cases hall : (lq0 && (cq0 && (cq1 && (xq0 && (xq1))))) = true
  rotate_left
  · have hbad : ((cq1 && !lq0) || ((cq1 && !cq0) || ((lq0 && (cq0 && (cq1 && (xq0 && (xq1)))))))) = false := inv_or (inv_imp hc0) (inv_or (inv_imp hc1) (inv_not hall))
    obtain ⟨fu, rfl⟩ : ∃ m, fu = m + 1 := ⟨fu - 1, by omega⟩
    refine inv_step (bad := ((cq1 && !lq0) || ((cq1 && !cq0) || ((lq0 && (cq0 && (cq1 && (xq0 && (xq1))))))))) (fun i => ((i == 0 && !lq0) || ((i == 1 && !cq0) || ((i == 2 && (lq0 && (cq0 && !cq1))) || ((i == 7 && !xq0) || ((i == 8 && !xq1))))))) ((show ∀ lq0 cq0 cq1 xq0 xq1 : Bool, (((cq1 && !lq0) || ((cq1 && !cq0) || ((lq0 && (cq0 && (cq1 && (xq0 && (xq1)))))))) || (!(Region.ready _ _ #[lq0, cq0, cq1, cq1, cq1, cq1, cq1, xq0, xq1, false, false, false]).isEmpty && (Region.ready _ _ #[lq0, cq0, cq1, cq1, cq1, cq1, cq1, xq0, xq1, false, false, false]).all (fun i => ((i == 0 && !lq0) || ((i == 1 && !cq0) || ((i == 2 && (lq0 && (cq0 && !cq1))) || ((i == 7 && !xq0) || ((i == 8 && !xq1))))))))) = true from by intro lq0 cq0 cq1 xq0 xq1; cases lq0 <;> cases cq0 <;> cases cq1 <;> cases xq0 <;> cases xq1 <;> kernel_rfl) lq0 cq0 cq1 xq0 xq1) hbad (fun i hi => ?_)
    simp only [Bool.or_eq_true, Bool.and_eq_true, beq_iff_eq, Bool.not_eq_true'] at hi
    clear hall hbad
    rcases hi with ⟨rfl, rfl⟩ | ⟨rfl, rfl⟩ | ⟨rfl, rfl, rfl, rfl⟩ | ⟨rfl, rfl⟩ | ⟨rfl, rfl⟩
    · skip
      obtain ⟨lc0, lc1, lc2, lc3, lc4, lc5, lc6, lc7, lc8, lc9, lc10⟩ := row11 (blk_below Vo.out hS (blk_lt Vo.out))
      refine inv_arm (o := ⟨some 33, .load 29 (.tmp 1), 29, "law.go:19", #[], none⟩) rfl (fun K hK => ?_)
      go_simp
      clear lc0 lc1 lc2 lc3 lc4 lc5 lc6 lc7 lc8 lc9 lc10
      refine Shut.out hK _ _ (hS.mono hBZ) (fun _ => ?_)
      clear hK K
      try simp only [Act.put, List.setIfInBounds_toArray, List.set_cons_zero, List.set_cons_succ]
      exact IH _ _ _ _ (by omega) ⟨true, cq0, cq1, xq0, xq1, _, v34, v35, v32, v36, v37, v38, p6, p7, sf1, sc0, rfl, (by (try simp only [List.setIfInBounds_toArray, List.set_cons_zero, List.set_cons_succ]); try rfl), (by simp only [cond_true, cond_false] at hn ⊢; omega), (fun _ => rfl), hc1, hS, (fun _ => rfl), h34, h36, h37, h38, (fun h => ⟨(ksf1 h).1, (ksf1 h).2.1, blk_below (ksf1 h).2.2 (Below.refl _ _) (blk_lt (ksf1 h).2.2)⟩), (fun h => ⟨(ksc0 h).1, (ksc0 h).2.1, blk_below (ksc0 h).2.2 (Below.refl _ _) (blk_lt (ksc0 h).2.2)⟩)⟩
    · skip
      refine inv_arm (o := ⟨some 34, .call { callee := .value (.func 14), args := #[.const (Value.int IntKind.i64 32)], argTypes := #[3] }, 31, "law.go:19", #[], none⟩) rfl (fun K hK => ?_)
      go_simp
      go_wp2_with fail
      refine (N1.out _).mono ?_; rintro e u1 ⟨rfl, hb⟩
      replace hS := hS.trans (hb.mono hS.size)
      refine Shut.out hK _ _ (hS.mono hBZ) (fun _ => ?_)
      clear hK K
      try simp only [Act.put, List.setIfInBounds_toArray, List.set_cons_zero, List.set_cons_succ]
      exact IH _ _ _ _ (by omega) ⟨lq0, true, cq1, xq0, xq1, v33, _, v35, v32, v36, v37, v38, p6, p7, sf1, sc0, rfl, (by (try simp only [List.setIfInBounds_toArray, List.set_cons_zero, List.set_cons_succ]); try rfl), (by simp only [cond_true, cond_false] at hn ⊢; omega), hc0, (fun _ => rfl), hS, h33, (fun _ => rfl), h36, h37, h38, (fun h => ⟨(ksf1 h).1, (ksf1 h).2.1, blk_below (ksf1 h).2.2 hb (blk_lt (ksf1 h).2.2)⟩), (fun h => ⟨(ksc0 h).1, (ksc0 h).2.1, blk_below (ksc0 h).2.2 hb (blk_lt (ksc0 h).2.2)⟩)⟩
    · skip
      obtain rfl := h33 rfl
      obtain rfl := h34 rfl
      refine inv_arm (o := ⟨some 35, .call { callee := .value (.func 8), args := #[.tmp 33, .tmp 34, .const (Value.int IntKind.i64 (-1))], argTypes := #[29, 31, 2] }, 39, "law.go:19", #[⟨0, .data⟩, ⟨1, .data⟩, ⟨1, .chain⟩], none⟩) rfl (fun K hK => ?_)
      go_simp
      go_wp2_with fail
      refine (K2.out _).mono ?_; rintro e u2 ⟨rfl, hb⟩
      replace hS := hS.trans (hb.mono hS.size)
      obtain ⟨fu, rfl⟩ : ∃ m, fu = m + 4 := ⟨fu - 4, by simp only [cond_true, cond_false] at hn; omega⟩
      refine Shut.out hK _ _ (hS.mono hBZ) (fun _ => ?_)
      clear hK K
      try simp only [Act.put, List.setIfInBounds_toArray, List.set_cons_zero, List.set_cons_succ]
      refine wpAnyH_take (i := 3) (oi := ⟨some 32, .move (.tmp 35), 39, "law.go:19", #[⟨2, .data⟩], none⟩) (v := ?_) rfl (by kernel_rfl) ((show ∀ xq0 xq1 : Bool, Region.free _ _ #[true, true, true, false, false, false, false, xq0, xq1, false, false, false] 3 = true from by intro xq0 xq1; cases xq0 <;> cases xq1 <;> kernel_rfl) xq0 xq1) ((show ∀ xq0 xq1 : Bool, (Region.ready _ _ #[true, true, true, false, false, false, false, xq0, xq1, false, false, false]).contains 3 = true from by intro xq0 xq1; cases xq0 <;> cases xq1 <;> kernel_rfl) xq0 xq1) (fun _ _ _ h => h) (Or.inl ⟨by rfl, ?_⟩) (hS.mono hBZ) ?_
      rotate_left
      · intro wv _; go_simp; try with_reducible rfl
      try simp only [Act.put, List.setIfInBounds_toArray, List.set_cons_zero, List.set_cons_succ]
      refine wpAnyH_take (i := 4) (oi := ⟨some 36, .extract (.tmp 32) 0, 29, "law.go:19", #[⟨3, .data⟩], none⟩) (v := ?_) rfl (by kernel_rfl) ((show ∀ xq0 xq1 : Bool, Region.free _ _ #[true, true, true, true, false, false, false, xq0, xq1, false, false, false] 4 = true from by intro xq0 xq1; cases xq0 <;> cases xq1 <;> kernel_rfl) xq0 xq1) ((show ∀ xq0 xq1 : Bool, (Region.ready _ _ #[true, true, true, true, false, false, false, xq0, xq1, false, false, false]).contains 4 = true from by intro xq0 xq1; cases xq0 <;> cases xq1 <;> kernel_rfl) xq0 xq1) (fun _ _ _ h => h) (Or.inl ⟨by rfl, ?_⟩) (hS.mono hBZ) ?_
      rotate_left
      · intro wv _; go_simp; try with_reducible rfl
      try simp only [Act.put, List.setIfInBounds_toArray, List.set_cons_zero, List.set_cons_succ]
      refine wpAnyH_take (i := 5) (oi := ⟨some 37, .extract (.tmp 32) 1, 31, "law.go:19", #[⟨3, .data⟩, ⟨9, .gcOnly .lateStores⟩], none⟩) (v := ?_) rfl (by kernel_rfl) ((show ∀ xq0 xq1 : Bool, Region.free _ _ #[true, true, true, true, true, false, false, xq0, xq1, false, false, false] 5 = true from by intro xq0 xq1; cases xq0 <;> cases xq1 <;> kernel_rfl) xq0 xq1) ((show ∀ xq0 xq1 : Bool, (Region.ready _ _ #[true, true, true, true, true, false, false, xq0, xq1, false, false, false]).contains 5 = true from by intro xq0 xq1; cases xq0 <;> cases xq1 <;> kernel_rfl) xq0 xq1) (fun _ _ _ h => h) (Or.inl ⟨by rfl, ?_⟩) (hS.mono hBZ) ?_
      rotate_left
      · intro wv _; go_simp; try with_reducible rfl
      try simp only [Act.put, List.setIfInBounds_toArray, List.set_cons_zero, List.set_cons_succ]
      refine wpAnyH_take (i := 6) (oi := ⟨some 38, .extract (.tmp 32) 2, 38, "law.go:19", #[⟨3, .data⟩, ⟨10, .gcOnly .lateStores⟩], none⟩) (v := ?_) rfl (by kernel_rfl) ((show ∀ xq0 xq1 : Bool, Region.free _ _ #[true, true, true, true, true, true, false, xq0, xq1, false, false, false] 6 = true from by intro xq0 xq1; cases xq0 <;> cases xq1 <;> kernel_rfl) xq0 xq1) ((show ∀ xq0 xq1 : Bool, (Region.ready _ _ #[true, true, true, true, true, true, false, xq0, xq1, false, false, false]).contains 6 = true from by intro xq0 xq1; cases xq0 <;> cases xq1 <;> kernel_rfl) xq0 xq1) (fun _ _ _ h => h) (Or.inl ⟨by rfl, ?_⟩) (hS.mono hBZ) ?_
      rotate_left
      · intro wv _; go_simp; try with_reducible rfl
      try simp only [Act.put, List.setIfInBounds_toArray, List.set_cons_zero, List.set_cons_succ]
      exact IH _ _ _ _ (by omega) ⟨true, true, true, xq0, xq1, _, _, _, _, _, _, _, p6, p7, sf1, sc0, rfl, (by (try simp only [List.setIfInBounds_toArray, List.set_cons_zero, List.set_cons_succ]); try rfl), (by simp only [cond_true, cond_false] at hn ⊢; omega), (fun _ => rfl), (fun _ => rfl), hS, (fun _ => rfl), (fun _ => rfl), (fun _ => rfl), (fun _ => rfl), (fun _ => rfl), (fun h => ⟨(ksf1 h).1, (ksf1 h).2.1, blk_below (ksf1 h).2.2 hb (blk_lt (ksf1 h).2.2)⟩), (fun h => ⟨(ksc0 h).1, (ksc0 h).2.1, blk_below (ksc0 h).2.2 hb (blk_lt (ksc0 h).2.2)⟩)⟩
    · skip
      refine inv_arm (o := ⟨some 6, .alloc 31, 0, "law.go:19", #[], none⟩) rfl (fun K hK => ?_)
      go_simp
      have zs := hS.size
      have hb := (Below.refl u.heap.size u).alloc (Nat.le_refl _) (.cells #[.int .i64 0, .int .i64 0, .int .i64 0, .int .i64 0, .int .i64 0, .int .i64 0, .bool false, .bool false, .int .i64 0, .bool false] 31)
      replace hS := hS.trans (hb.mono hS.size)
      refine Shut.out hK _ _ (hS.mono hBZ) (fun _ => ?_)
      clear hK K
      try simp only [Act.put, List.setIfInBounds_toArray, List.set_cons_zero, List.set_cons_succ]
      exact IH _ _ _ _ (by omega) ⟨lq0, cq0, cq1, true, xq1, v33, v34, v35, v32, v36, v37, v38, _, p7, u.heap.size, sc0, rfl, (by (try simp only [List.setIfInBounds_toArray, List.set_cons_zero, List.set_cons_succ]); try rfl), (by simp only [cond_true, cond_false] at hn ⊢; omega), hc0, hc1, hS, h33, h34, h36, h37, h38, (fun _ => ⟨rfl, zs, heap_alloc_new _ _⟩), (fun h => ⟨(ksc0 h).1, (ksc0 h).2.1, blk_below (ksc0 h).2.2 hb (blk_lt (ksc0 h).2.2)⟩)⟩
    · skip
      refine inv_arm (o := ⟨some 7, .alloc 38, 0, "law.go:19", #[], none⟩) rfl (fun K hK => ?_)
      go_simp
      have zs := hS.size
      have hb := (Below.refl u.heap.size u).alloc (Nat.le_refl _) (.cells #[.bool false, .bool false, .bool false, .int .i64 0, .int .i64 0, .int .u64 0, .slice none 0 0] 38)
      replace hS := hS.trans (hb.mono hS.size)
      refine Shut.out hK _ _ (hS.mono hBZ) (fun _ => ?_)
      clear hK K
      try simp only [Act.put, List.setIfInBounds_toArray, List.set_cons_zero, List.set_cons_succ]
      exact IH _ _ _ _ (by omega) ⟨lq0, cq0, cq1, xq0, true, v33, v34, v35, v32, v36, v37, v38, p6, _, sf1, u.heap.size, rfl, (by (try simp only [List.setIfInBounds_toArray, List.set_cons_zero, List.set_cons_succ]); try rfl), (by simp only [cond_true, cond_false] at hn ⊢; omega), hc0, hc1, hS, h33, h34, h36, h37, h38, (fun h => ⟨(ksf1 h).1, (ksf1 h).2.1, blk_below (ksf1 h).2.2 hb (blk_lt (ksf1 h).2.2)⟩), (fun _ => ⟨rfl, zs, heap_alloc_new _ _⟩)⟩
  simp only [Bool.and_eq_true] at hall
  obtain ⟨rfl, rfl, rfl, rfl, rfl⟩ := hall
  obtain rfl := h33 rfl
  obtain rfl := h34 rfl
  obtain rfl := h36 rfl
  obtain rfl := h37 rfl
  obtain rfl := h38 rfl
  obtain ⟨rfl, gsf1, Vsf1⟩ := ksf1 rfl
  obtain ⟨rfl, gsc0, Vsc0⟩ := ksc0 rfl
  obtain ⟨fu, rfl⟩ : ∃ m, fu = m + 3 := ⟨fu - 3, by simp only [cond_true] at hn; omega⟩
  clear IH hn hc0 hc1
  have neo_f1 := Nat.ne_of_lt (Nat.lt_of_lt_of_le (blk_lt Vo.out) gsf1)
  have nea0_f1 := Nat.ne_of_lt (Nat.lt_of_lt_of_le (blk_lt Va0.out) gsf1)
  have nefw_f1 := Nat.ne_of_lt (Nat.lt_of_lt_of_le (blk_lt Vfw.out) gsf1)
  have neb0_f1 := Nat.ne_of_lt (Nat.lt_of_lt_of_le (blk_lt Vb0.out) gsf1)
  have neo_c0 := Nat.ne_of_lt (Nat.lt_of_lt_of_le (blk_lt Vo.out) gsc0)
  have nea0_c0 := Nat.ne_of_lt (Nat.lt_of_lt_of_le (blk_lt Va0.out) gsc0)
  have nefw_c0 := Nat.ne_of_lt (Nat.lt_of_lt_of_le (blk_lt Vfw.out) gsc0)
  have neb0_c0 := Nat.ne_of_lt (Nat.lt_of_lt_of_le (blk_lt Vb0.out) gsc0)
  have nef1_c0 : sf1 ≠ sc0 := blk_ne Vsf1 Vsc0 (by decide)
  have gef1 := Nat.le_trans HB.out.2 gsf1
  have gec0 := Nat.le_trans HB.out.2 gsc0
  replace Vo := Lib.hid (blk_below Vo.out hS (blk_lt Vo.out))
  replace Va0 := Lib.hid (blk_below Va0.out hS (blk_lt Va0.out))
  replace Vfw := Lib.hid (blk_below Vfw.out hS (blk_lt Vfw.out))
  replace Vb0 := Lib.hid (blk_below Vb0.out hS (blk_lt Vb0.out))
  replace HB := Lib.hid (And.intro (HB.out.1.trans (hS.mono HB.out.2)) (Nat.le_trans HB.out.2 hS.size))
  have Vf1 := Lib.hid Vsf1
  clear Vsf1
  have Vc0 := Lib.hid Vsc0
  clear Vsc0
  obtain ⟨w9, hw9⟩ : ∃ W, u.setCells (w.heap.size) 0 [.int .i64 3, .int .i64 1, .int .i64 1, .int .i64 0, .int .i64 0, .int .i64 0, .int .i64 0, .int .u32 0, .int .u32 0, .slice none 0 0, .slice none 0 0] = W := ⟨_, rfl⟩
  have tho := Lib.hid (there_blk Vo.out (k := 11) rfl)
  replace Va0 := Lib.hid (stayS hw9 neo_a0.symm Va0.out)
  replace Vfw := Lib.hid (stayS hw9 neo_fw.symm Vfw.out)
  replace Vb0 := Lib.hid (stayS hw9 neo_b0.symm Vb0.out)
  replace Vf1 := Lib.hid (stayS hw9 neo_f1.symm Vf1.out)
  replace Vc0 := Lib.hid (stayS hw9 neo_c0.symm Vc0.out)
  replace Vo := Lib.hid (setS hw9 Vo.out rfl)
  replace HB := Lib.hid (belS hw9 geo HB.out)
  replace hS := (hS.mono hBZ)
  refine wpAnyH_ready (rs := [9]) (by kernel_rfl) (by simp) (AllReadyH.cons (o := ⟨none, .store 29 (.tmp 1) (.tmp 36), 0, "law.go:19", #[⟨4, .data⟩, ⟨2, .chain⟩, ⟨0, .phase⟩, ⟨1, .phase⟩, ⟨2, .phase⟩, ⟨3, .phase⟩, ⟨4, .phase⟩, ⟨5, .textOnly .lateStores⟩, ⟨6, .textOnly .lateStores⟩, ⟨7, .phase⟩, ⟨8, .phase⟩], none⟩) rfl (fun K hK => ?_) AllReadyH.nil)
  refine op_storeS (by rfl) rfl rfl rfl tho.out (by kernel_rfl) (by simp [Value.oneCell']) hw9 ?_
  replace hS := hw9 ▸ below_setCells geo [.int .i64 3, .int .i64 1, .int .i64 1, .int .i64 0, .int .i64 0, .int .i64 0, .int .i64 0, .int .u32 0, .int .u32 0, .slice none 0 0, .slice none 0 0] 0 _ hS
  obtain ⟨w10, hw10⟩ : ∃ W, w9.setCells (sf1) 0 [.int .i64 0, .int .i64 0, .int .i64 0, .int .i64 0, .int .i64 0, .int .i64 0, .bool false, .bool false, .int .i64 0, .bool false] = W := ⟨_, rfl⟩
  have thf1 := Lib.hid (there_blk Vf1.out (k := 10) rfl)
  replace Vo := Lib.hid (stayS hw10 neo_f1 Vo.out)
  replace Va0 := Lib.hid (stayS hw10 nea0_f1 Va0.out)
  replace Vfw := Lib.hid (stayS hw10 nefw_f1 Vfw.out)
  replace Vb0 := Lib.hid (stayS hw10 neb0_f1 Vb0.out)
  replace Vc0 := Lib.hid (stayS hw10 nef1_c0.symm Vc0.out)
  replace Vf1 := Lib.hid (setS hw10 Vf1.out rfl)
  replace HB := Lib.hid (belS hw10 gef1 HB.out)
  refine Shut.out hK _ _ hS (fun _ => ?_)
  clear hK K
  try simp only [Act.put, List.setIfInBounds_toArray, List.set_cons_zero, List.set_cons_succ]
  refine wpAnyH_ready (rs := [10]) (by kernel_rfl) (by simp) (AllReadyH.cons (o := ⟨none, .store 31 (.tmp 6) (.tmp 37), 0, "law.go:19", #[⟨7, .data⟩, ⟨5, .data⟩, ⟨9, .chain⟩, ⟨0, .phase⟩, ⟨1, .phase⟩, ⟨2, .phase⟩, ⟨3, .phase⟩, ⟨4, .phase⟩, ⟨5, .phase⟩, ⟨6, .textOnly .lateStores⟩, ⟨7, .phase⟩, ⟨8, .phase⟩, ⟨9, .phase⟩], none⟩) rfl (fun K hK => ?_) AllReadyH.nil)
  refine op_storeS (by rfl) rfl rfl rfl thf1.out (by kernel_rfl) (by simp [Value.oneCell']) hw10 ?_
  replace hS := hw10 ▸ below_setCells gef1 [.int .i64 0, .int .i64 0, .int .i64 0, .int .i64 0, .int .i64 0, .int .i64 0, .bool false, .bool false, .int .i64 0, .bool false] 0 _ hS
  obtain ⟨w11, hw11⟩ : ∃ W, w10.setCells (sc0) 0 [.bool true, .bool false, .bool false, .int .i64 0, .int .i64 0, .int .u64 0, .slice none 0 0] = W := ⟨_, rfl⟩
  have thc0 := Lib.hid (there_blk Vc0.out (k := 7) rfl)
  replace Vo := Lib.hid (stayS hw11 neo_c0 Vo.out)
  replace Va0 := Lib.hid (stayS hw11 nea0_c0 Va0.out)
  replace Vfw := Lib.hid (stayS hw11 nefw_c0 Vfw.out)
  replace Vb0 := Lib.hid (stayS hw11 neb0_c0 Vb0.out)
  replace Vf1 := Lib.hid (stayS hw11 nef1_c0 Vf1.out)
  replace Vc0 := Lib.hid (setS hw11 Vc0.out rfl)
  replace HB := Lib.hid (belS hw11 gec0 HB.out)
  refine Shut.out hK _ _ hS (fun _ => ?_)
  clear hK K
  try simp only [Act.put, List.setIfInBounds_toArray, List.set_cons_zero, List.set_cons_succ]
  refine wpAnyH_ready (rs := [11]) (by kernel_rfl) (by simp) (AllReadyH.cons (o := ⟨none, .store 38 (.tmp 7) (.tmp 38), 0, "law.go:19", #[⟨8, .data⟩, ⟨6, .data⟩, ⟨10, .chain⟩, ⟨0, .phase⟩, ⟨1, .phase⟩, ⟨2, .phase⟩, ⟨3, .phase⟩, ⟨4, .phase⟩, ⟨5, .phase⟩, ⟨6, .phase⟩, ⟨7, .phase⟩, ⟨8, .phase⟩, ⟨9, .phase⟩, ⟨10, .phase⟩], none⟩) rfl (fun K hK => ?_) AllReadyH.nil)
  refine op_storeS (by rfl) rfl rfl rfl thc0.out (by kernel_rfl) (by simp [Value.oneCell']) hw11 ?_
  replace hS := hw11 ▸ below_setCells gec0 [.bool true, .bool false, .bool false, .int .i64 0, .int .i64 0, .int .u64 0, .slice none 0 0] 0 _ hS
  refine Shut.out hK _ _ hS (fun _ => ?_)
  clear hK K
  try simp only [Act.put, List.setIfInBounds_toArray, List.set_cons_zero, List.set_cons_succ]
  refine wpAnyH_done (by kernel_rfl) ?_ _
  refine NoPanic.normal ?_
  clear hS hBZ gsf1 gsc0 tho thf1 thc0
  clear Vf1
  go_wp2
  have hBZ := HB.out.2
  refine wp_region_noPanic ?_
  refine wp_region_held_drew (S := (fun wv => Below w.heap.size w11 wv)) (by kernel_rfl) ((((Below.refl w11.heap.size w11).drew).mono hBZ)) (fun hS => ?_)
  refine inv_region (fun a0 fu listed a u => ∃ (lq0 cq0 cq1 xq0 xq1 : Bool) (v40 v41 v42 v39 v43 v44 v45 p8 p9 : Value) (sg0 sd0 : Nat), listed = #[lq0, cq0, cq1, cq1, cq1, cq1, cq1, xq0, xq1, false, false, false] ∧ a = ⟨(((((((((a0.tmps.setIfInBounds 40 v40).setIfInBounds 41 v41).setIfInBounds 42 v42).setIfInBounds 39 v39).setIfInBounds 43 v43).setIfInBounds 44 v44).setIfInBounds 45 v45).setIfInBounds 8 p8).setIfInBounds 9 p9), a0.defers⟩ ∧ (bif lq0 then 0 else 1) + (bif cq0 then 0 else 1) + (bif cq1 then 0 else 5) + (bif xq0 then 0 else 1) + (bif xq1 then 0 else 1) + 3 ≤ fu ∧ (cq1 = true → lq0 = true) ∧ (cq1 = true → cq0 = true) ∧ Below w11.heap.size w11 u ∧ (lq0 = true → v40 = .agg #[.int .i64 3, .int .i64 1, .int .i64 1, .int .i64 0, .int .i64 0, .int .i64 0, .int .i64 0, .int .u32 0, .int .u32 0, .slice none 0 0, .slice none 0 0]) ∧ (cq0 = true → v41 = .agg #[.int .i64 32, .int .i64 0, .int .i64 0, .int .i64 0, .int .i64 (-1), .int .i64 0, .bool false, .bool false, .int .i64 0, .bool false]) ∧ (cq1 = true → v43 = .agg #[.int .i64 3, .int .i64 0, .int .i64 0, .int .i64 0, .int .i64 0, .int .i64 0, .int .i64 0, .int .u32 0, .int .u32 0, .slice none 0 0, .slice none 0 0]) ∧ (cq1 = true → v44 = .agg #[.int .i64 32, .int .i64 1, .int .i64 0, .int .i64 0, .int .i64 (-1), .int .i64 1, .bool false, .bool false, .int .i64 0, .bool false]) ∧ (cq1 = true → v45 = .agg #[.bool false, .bool false, .bool false, .int .i64 0, .int .i64 0, .int .u64 0, .slice none 0 0]) ∧ (xq0 = true → p8 = .pointer (some ⟨sg0, 0, none⟩) ∧ w11.heap.size ≤ sg0 ∧ u.heap[sg0]? = some (.cells #[.int .i64 0, .int .i64 0, .int .i64 0, .int .i64 0, .int .i64 0, .int .i64 0, .bool false, .bool false, .int .i64 0, .bool false] 31)) ∧ (xq1 = true → p9 = .pointer (some ⟨sd0, 0, none⟩) ∧ w11.heap.size ≤ sd0 ∧ u.heap[sd0]? = some (.cells #[.bool false, .bool false, .bool false, .int .i64 0, .int .i64 0, .int .u64 0, .slice none 0 0] 38))) ⟨false, false, false, false, false, undef, undef, undef, undef, undef, undef, undef, undef, undef, 0, 0, rfl, (by first | (simp only [List.setIfInBounds_toArray, List.set_cons_zero, List.set_cons_succ]; done) | rfl), (by show _ + _ ≤ _; decide), (fun h => nomatch h), (fun h => nomatch h), ((Below.refl w11.heap.size w11).drew), (fun h => nomatch h), (fun h => nomatch h), (fun h => nomatch h), (fun h => nomatch h), (fun h => nomatch h), (fun h => nomatch h), (fun h => nomatch h)⟩ ?_
  clear hS; rintro fu listed a u ⟨lq0, cq0, cq1, xq0, xq1, v40, v41, v42, v39, v43, v44, v45, p8, p9, sg0, sd0, rfl, rfl, hn, hc0, hc1, hS, h40, h41, h43, h44, h45, ksg0, ksd0⟩ IH
  try simp only [List.setIfInBounds_toArray, List.set_cons_zero, List.set_cons_succ]
  by_cases hall : (lq0 && (cq0 && (cq1 && (xq0 && (xq1))))) = true
  rotate_left
  · have hbad : ((cq1 && !lq0) || ((cq1 && !cq0) || ((lq0 && (cq0 && (cq1 && (xq0 && (xq1)))))))) = false := inv_or (inv_imp hc0) (inv_or (inv_imp hc1) (inv_not hall))
    obtain ⟨fu, rfl⟩ : ∃ m, fu = m + 1 := ⟨fu - 1, by omega⟩
    refine inv_step (bad := ((cq1 && !lq0) || ((cq1 && !cq0) || ((lq0 && (cq0 && (cq1 && (xq0 && (xq1))))))))) (fun i => ((i == 0 && !lq0) || ((i == 1 && !cq0) || ((i == 2 && (lq0 && (cq0 && !cq1))) || ((i == 7 && !xq0) || ((i == 8 && !xq1))))))) ((show ∀ lq0 cq0 cq1 xq0 xq1 : Bool, (((cq1 && !lq0) || ((cq1 && !cq0) || ((lq0 && (cq0 && (cq1 && (xq0 && (xq1)))))))) || (!(Region.ready _ _ #[lq0, cq0, cq1, cq1, cq1, cq1, cq1, xq0, xq1, false, false, false]).isEmpty && (Region.ready _ _ #[lq0, cq0, cq1, cq1, cq1, cq1, cq1, xq0, xq1, false, false, false]).all (fun i => ((i == 0 && !lq0) || ((i == 1 && !cq0) || ((i == 2 && (lq0 && (cq0 && !cq1))) || ((i == 7 && !xq0) || ((i == 8 && !xq1))))))))) = true from by intro lq0 cq0 cq1 xq0 xq1; cases lq0 <;> cases cq0 <;> cases cq1 <;> cases xq0 <;> cases xq1 <;> kernel_rfl) lq0 cq0 cq1 xq0 xq1) hbad (fun i hi => ?_)
    simp only [Bool.or_eq_true, Bool.and_eq_true, beq_iff_eq, Bool.not_eq_true'] at hi
    clear hall hbad
    rcases hi with ⟨rfl, rfl⟩ | ⟨rfl, rfl⟩ | ⟨rfl, rfl, rfl, rfl⟩ | ⟨rfl, rfl⟩ | ⟨rfl, rfl⟩
    · skip
      obtain ⟨lc0, lc1, lc2, lc3, lc4, lc5, lc6, lc7, lc8, lc9, lc10⟩ := row11 (blk_below Vo.out hS (blk_lt Vo.out))
      refine inv_arm (o := ⟨some 40, .load 29 (.tmp 1), 29, "law.go:20", #[], none⟩) rfl (fun K hK => ?_)
      go_simp
      clear lc0 lc1 lc2 lc3 lc4 lc5 lc6 lc7 lc8 lc9 lc10
      refine Shut.out hK _ _ (hS.mono hBZ) (fun _ => ?_)
      clear hK K
      try simp only [Act.put, List.setIfInBounds_toArray, List.set_cons_zero, List.set_cons_succ]
      exact IH _ _ _ _ (by omega) ⟨true, cq0, cq1, xq0, xq1, _, v41, v42, v39, v43, v44, v45, p8, p9, sg0, sd0, rfl, (by (try simp only [List.setIfInBounds_toArray, List.set_cons_zero, List.set_cons_succ]); try rfl), (by simp only [cond_true, cond_false] at hn ⊢; omega), (fun _ => rfl), hc1, hS, (fun _ => rfl), h41, h43, h44, h45, (fun h => ⟨(ksg0 h).1, (ksg0 h).2.1, blk_below (ksg0 h).2.2 (Below.refl _ _) (blk_lt (ksg0 h).2.2)⟩), (fun h => ⟨(ksd0 h).1, (ksd0 h).2.1, blk_below (ksd0 h).2.2 (Below.refl _ _) (blk_lt (ksd0 h).2.2)⟩)⟩
    · skip
      refine inv_arm (o := ⟨some 41, .call { callee := .value (.func 14), args := #[.const (Value.int IntKind.i64 32)], argTypes := #[3] }, 31, "law.go:20", #[], none⟩) rfl (fun K hK => ?_)
      go_simp
      go_wp2_with fail
      refine (N1.out _).mono ?_; rintro e u1 ⟨rfl, hb⟩
      replace hS := hS.trans (hb.mono hS.size)
      refine Shut.out hK _ _ (hS.mono hBZ) (fun _ => ?_)
      clear hK K
      try simp only [Act.put, List.setIfInBounds_toArray, List.set_cons_zero, List.set_cons_succ]
      exact IH _ _ _ _ (by omega) ⟨lq0, true, cq1, xq0, xq1, v40, _, v42, v39, v43, v44, v45, p8, p9, sg0, sd0, rfl, (by (try simp only [List.setIfInBounds_toArray, List.set_cons_zero, List.set_cons_succ]); try rfl), (by simp only [cond_true, cond_false] at hn ⊢; omega), hc0, (fun _ => rfl), hS, h40, (fun _ => rfl), h43, h44, h45, (fun h => ⟨(ksg0 h).1, (ksg0 h).2.1, blk_below (ksg0 h).2.2 hb (blk_lt (ksg0 h).2.2)⟩), (fun h => ⟨(ksd0 h).1, (ksd0 h).2.1, blk_below (ksd0 h).2.2 hb (blk_lt (ksd0 h).2.2)⟩)⟩
    · skip
      obtain rfl := h40 rfl
      obtain rfl := h41 rfl
      refine inv_arm (o := ⟨some 42, .call { callee := .value (.func 8), args := #[.tmp 40, .tmp 41, .const (Value.int IntKind.i64 (-1))], argTypes := #[29, 31, 2] }, 39, "law.go:20", #[⟨0, .data⟩, ⟨1, .data⟩, ⟨1, .chain⟩], none⟩) rfl (fun K hK => ?_)
      go_simp
      go_wp2_with fail
      refine (K3.out _).mono ?_; rintro e u2 ⟨rfl, hb⟩
      replace hS := hS.trans (hb.mono hS.size)
      obtain ⟨fu, rfl⟩ : ∃ m, fu = m + 4 := ⟨fu - 4, by simp only [cond_true, cond_false] at hn; omega⟩
      refine Shut.out hK _ _ (hS.mono hBZ) (fun _ => ?_)
      clear hK K
      try simp only [Act.put, List.setIfInBounds_toArray, List.set_cons_zero, List.set_cons_succ]
      refine wpAnyH_take (i := 3) (oi := ⟨some 39, .move (.tmp 42), 39, "law.go:20", #[⟨2, .data⟩], none⟩) (v := ?_) rfl (by kernel_rfl) ((show ∀ xq0 xq1 : Bool, Region.free _ _ #[true, true, true, false, false, false, false, xq0, xq1, false, false, false] 3 = true from by intro xq0 xq1; cases xq0 <;> cases xq1 <;> kernel_rfl) xq0 xq1) ((show ∀ xq0 xq1 : Bool, (Region.ready _ _ #[true, true, true, false, false, false, false, xq0, xq1, false, false, false]).contains 3 = true from by intro xq0 xq1; cases xq0 <;> cases xq1 <;> kernel_rfl) xq0 xq1) (fun _ _ _ h => h) (Or.inl ⟨by rfl, ?_⟩) (hS.mono hBZ) ?_
      rotate_left
      · intro wv _; go_simp; try with_reducible rfl
      try simp only [Act.put, List.setIfInBounds_toArray, List.set_cons_zero, List.set_cons_succ]
      refine wpAnyH_take (i := 4) (oi := ⟨some 43, .extract (.tmp 39) 0, 29, "law.go:20", #[⟨3, .data⟩], none⟩) (v := ?_) rfl (by kernel_rfl) ((show ∀ xq0 xq1 : Bool, Region.free _ _ #[true, true, true, true, false, false, false, xq0, xq1, false, false, false] 4 = true from by intro xq0 xq1; cases xq0 <;> cases xq1 <;> kernel_rfl) xq0 xq1) ((show ∀ xq0 xq1 : Bool, (Region.ready _ _ #[true, true, true, true, false, false, false, xq0, xq1, false, false, false]).contains 4 = true from by intro xq0 xq1; cases xq0 <;> cases xq1 <;> kernel_rfl) xq0 xq1) (fun _ _ _ h => h) (Or.inl ⟨by rfl, ?_⟩) (hS.mono hBZ) ?_
      rotate_left
      · intro wv _; go_simp; try with_reducible rfl
      try simp only [Act.put, List.setIfInBounds_toArray, List.set_cons_zero, List.set_cons_succ]
      refine wpAnyH_take (i := 5) (oi := ⟨some 44, .extract (.tmp 39) 1, 31, "law.go:20", #[⟨3, .data⟩, ⟨9, .gcOnly .lateStores⟩], none⟩) (v := ?_) rfl (by kernel_rfl) ((show ∀ xq0 xq1 : Bool, Region.free _ _ #[true, true, true, true, true, false, false, xq0, xq1, false, false, false] 5 = true from by intro xq0 xq1; cases xq0 <;> cases xq1 <;> kernel_rfl) xq0 xq1) ((show ∀ xq0 xq1 : Bool, (Region.ready _ _ #[true, true, true, true, true, false, false, xq0, xq1, false, false, false]).contains 5 = true from by intro xq0 xq1; cases xq0 <;> cases xq1 <;> kernel_rfl) xq0 xq1) (fun _ _ _ h => h) (Or.inl ⟨by rfl, ?_⟩) (hS.mono hBZ) ?_
      rotate_left
      · intro wv _; go_simp; try with_reducible rfl
      try simp only [Act.put, List.setIfInBounds_toArray, List.set_cons_zero, List.set_cons_succ]
      refine wpAnyH_take (i := 6) (oi := ⟨some 45, .extract (.tmp 39) 2, 38, "law.go:20", #[⟨3, .data⟩, ⟨10, .gcOnly .lateStores⟩], none⟩) (v := ?_) rfl (by kernel_rfl) ((show ∀ xq0 xq1 : Bool, Region.free _ _ #[true, true, true, true, true, true, false, xq0, xq1, false, false, false] 6 = true from by intro xq0 xq1; cases xq0 <;> cases xq1 <;> kernel_rfl) xq0 xq1) ((show ∀ xq0 xq1 : Bool, (Region.ready _ _ #[true, true, true, true, true, true, false, xq0, xq1, false, false, false]).contains 6 = true from by intro xq0 xq1; cases xq0 <;> cases xq1 <;> kernel_rfl) xq0 xq1) (fun _ _ _ h => h) (Or.inl ⟨by rfl, ?_⟩) (hS.mono hBZ) ?_
      rotate_left
      · intro wv _; go_simp; try with_reducible rfl
      try simp only [Act.put, List.setIfInBounds_toArray, List.set_cons_zero, List.set_cons_succ]
      exact IH _ _ _ _ (by omega) ⟨true, true, true, xq0, xq1, _, _, _, _, _, _, _, p8, p9, sg0, sd0, rfl, (by (try simp only [List.setIfInBounds_toArray, List.set_cons_zero, List.set_cons_succ]); try rfl), (by simp only [cond_true, cond_false] at hn ⊢; omega), (fun _ => rfl), (fun _ => rfl), hS, (fun _ => rfl), (fun _ => rfl), (fun _ => rfl), (fun _ => rfl), (fun _ => rfl), (fun h => ⟨(ksg0 h).1, (ksg0 h).2.1, blk_below (ksg0 h).2.2 hb (blk_lt (ksg0 h).2.2)⟩), (fun h => ⟨(ksd0 h).1, (ksd0 h).2.1, blk_below (ksd0 h).2.2 hb (blk_lt (ksd0 h).2.2)⟩)⟩
    · skip
      refine inv_arm (o := ⟨some 8, .alloc 31, 0, "law.go:20", #[], none⟩) rfl (fun K hK => ?_)
      go_simp
      have zs := hS.size
      have hb := (Below.refl u.heap.size u).alloc (Nat.le_refl _) (.cells #[.int .i64 0, .int .i64 0, .int .i64 0, .int .i64 0, .int .i64 0, .int .i64 0, .bool false, .bool false, .int .i64 0, .bool false] 31)
      replace hS := hS.trans (hb.mono hS.size)
      refine Shut.out hK _ _ (hS.mono hBZ) (fun _ => ?_)
      clear hK K
      try simp only [Act.put, List.setIfInBounds_toArray, List.set_cons_zero, List.set_cons_succ]
      exact IH _ _ _ _ (by omega) ⟨lq0, cq0, cq1, true, xq1, v40, v41, v42, v39, v43, v44, v45, _, p9, u.heap.size, sd0, rfl, (by (try simp only [List.setIfInBounds_toArray, List.set_cons_zero, List.set_cons_succ]); try rfl), (by simp only [cond_true, cond_false] at hn ⊢; omega), hc0, hc1, hS, h40, h41, h43, h44, h45, (fun _ => ⟨rfl, zs, heap_alloc_new _ _⟩), (fun h => ⟨(ksd0 h).1, (ksd0 h).2.1, blk_below (ksd0 h).2.2 hb (blk_lt (ksd0 h).2.2)⟩)⟩
    · skip
      refine inv_arm (o := ⟨some 9, .alloc 38, 0, "law.go:20", #[], none⟩) rfl (fun K hK => ?_)
      go_simp
      have zs := hS.size
      have hb := (Below.refl u.heap.size u).alloc (Nat.le_refl _) (.cells #[.bool false, .bool false, .bool false, .int .i64 0, .int .i64 0, .int .u64 0, .slice none 0 0] 38)
      replace hS := hS.trans (hb.mono hS.size)
      refine Shut.out hK _ _ (hS.mono hBZ) (fun _ => ?_)
      clear hK K
      try simp only [Act.put, List.setIfInBounds_toArray, List.set_cons_zero, List.set_cons_succ]
      exact IH _ _ _ _ (by omega) ⟨lq0, cq0, cq1, xq0, true, v40, v41, v42, v39, v43, v44, v45, p8, _, sg0, u.heap.size, rfl, (by (try simp only [List.setIfInBounds_toArray, List.set_cons_zero, List.set_cons_succ]); try rfl), (by simp only [cond_true, cond_false] at hn ⊢; omega), hc0, hc1, hS, h40, h41, h43, h44, h45, (fun h => ⟨(ksg0 h).1, (ksg0 h).2.1, blk_below (ksg0 h).2.2 hb (blk_lt (ksg0 h).2.2)⟩), (fun _ => ⟨rfl, zs, heap_alloc_new _ _⟩)⟩
  simp only [Bool.and_eq_true] at hall
  obtain ⟨rfl, rfl, rfl, rfl, rfl⟩ := hall
  obtain rfl := h40 rfl
  obtain rfl := h41 rfl
  obtain rfl := h43 rfl
  obtain rfl := h44 rfl
  obtain rfl := h45 rfl
  obtain ⟨rfl, gsg0, Vsg0⟩ := ksg0 rfl
  obtain ⟨rfl, gsd0, Vsd0⟩ := ksd0 rfl
  obtain ⟨fu, rfl⟩ : ∃ m, fu = m + 3 := ⟨fu - 3, by simp only [cond_true] at hn; omega⟩
  clear IH hn hc0 hc1
  have neo_g0 := Nat.ne_of_lt (Nat.lt_of_lt_of_le (blk_lt Vo.out) gsg0)
  have nea0_g0 := Nat.ne_of_lt (Nat.lt_of_lt_of_le (blk_lt Va0.out) gsg0)
  have nefw_g0 := Nat.ne_of_lt (Nat.lt_of_lt_of_le (blk_lt Vfw.out) gsg0)
  have neb0_g0 := Nat.ne_of_lt (Nat.lt_of_lt_of_le (blk_lt Vb0.out) gsg0)
  have nec0_g0 := Nat.ne_of_lt (Nat.lt_of_lt_of_le (blk_lt Vc0.out) gsg0)
  have neo_d0 := Nat.ne_of_lt (Nat.lt_of_lt_of_le (blk_lt Vo.out) gsd0)
  have nea0_d0 := Nat.ne_of_lt (Nat.lt_of_lt_of_le (blk_lt Va0.out) gsd0)
  have nefw_d0 := Nat.ne_of_lt (Nat.lt_of_lt_of_le (blk_lt Vfw.out) gsd0)
  have neb0_d0 := Nat.ne_of_lt (Nat.lt_of_lt_of_le (blk_lt Vb0.out) gsd0)
  have nec0_d0 := Nat.ne_of_lt (Nat.lt_of_lt_of_le (blk_lt Vc0.out) gsd0)
  have neg0_d0 : sg0 ≠ sd0 := blk_ne Vsg0 Vsd0 (by decide)
  have geg0 := Nat.le_trans HB.out.2 gsg0
  have ged0 := Nat.le_trans HB.out.2 gsd0
  replace Vo := Lib.hid (blk_below Vo.out hS (blk_lt Vo.out))
  replace Va0 := Lib.hid (blk_below Va0.out hS (blk_lt Va0.out))
  replace Vfw := Lib.hid (blk_below Vfw.out hS (blk_lt Vfw.out))
  replace Vb0 := Lib.hid (blk_below Vb0.out hS (blk_lt Vb0.out))
  replace Vc0 := Lib.hid (blk_below Vc0.out hS (blk_lt Vc0.out))
  replace HB := Lib.hid (And.intro (HB.out.1.trans (hS.mono HB.out.2)) (Nat.le_trans HB.out.2 hS.size))
  have Vg0 := Lib.hid Vsg0
  clear Vsg0
  have Vd0 := Lib.hid Vsd0
  clear Vsd0
  obtain ⟨w12, hw12⟩ : ∃ W, u.setCells (w.heap.size) 0 [.int .i64 3, .int .i64 0, .int .i64 0, .int .i64 0, .int .i64 0, .int .i64 0, .int .i64 0, .int .u32 0, .int .u32 0, .slice none 0 0, .slice none 0 0] = W := ⟨_, rfl⟩
  have tho := Lib.hid (there_blk Vo.out (k := 11) rfl)
  replace Va0 := Lib.hid (stayS hw12 neo_a0.symm Va0.out)
  replace Vfw := Lib.hid (stayS hw12 neo_fw.symm Vfw.out)
  replace Vb0 := Lib.hid (stayS hw12 neo_b0.symm Vb0.out)
  replace Vc0 := Lib.hid (stayS hw12 neo_c0.symm Vc0.out)
  replace Vg0 := Lib.hid (stayS hw12 neo_g0.symm Vg0.out)
  replace Vd0 := Lib.hid (stayS hw12 neo_d0.symm Vd0.out)
  replace Vo := Lib.hid (setS hw12 Vo.out rfl)
  replace HB := Lib.hid (belS hw12 geo HB.out)
  replace hS := (hS.mono hBZ)
  refine wpAnyH_ready (rs := [9]) (by kernel_rfl) (by simp) (AllReadyH.cons (o := ⟨none, .store 29 (.tmp 1) (.tmp 43), 0, "law.go:20", #[⟨4, .data⟩, ⟨2, .chain⟩, ⟨0, .phase⟩, ⟨1, .phase⟩, ⟨2, .phase⟩, ⟨3, .phase⟩, ⟨4, .phase⟩, ⟨5, .textOnly .lateStores⟩, ⟨6, .textOnly .lateStores⟩, ⟨7, .phase⟩, ⟨8, .phase⟩], none⟩) rfl (fun K hK => ?_) AllReadyH.nil)
  refine op_storeS (by rfl) rfl rfl rfl tho.out (by kernel_rfl) (by simp [Value.oneCell']) hw12 ?_
  replace hS := hw12 ▸ below_setCells geo [.int .i64 3, .int .i64 0, .int .i64 0, .int .i64 0, .int .i64 0, .int .i64 0, .int .i64 0, .int .u32 0, .int .u32 0, .slice none 0 0, .slice none 0 0] 0 _ hS
  obtain ⟨w13, hw13⟩ : ∃ W, w12.setCells (sg0) 0 [.int .i64 32, .int .i64 1, .int .i64 0, .int .i64 0, .int .i64 (-1), .int .i64 1, .bool false, .bool false, .int .i64 0, .bool false] = W := ⟨_, rfl⟩
  have thg0 := Lib.hid (there_blk Vg0.out (k := 10) rfl)
  replace Vo := Lib.hid (stayS hw13 neo_g0 Vo.out)
  replace Va0 := Lib.hid (stayS hw13 nea0_g0 Va0.out)
  replace Vfw := Lib.hid (stayS hw13 nefw_g0 Vfw.out)
  replace Vb0 := Lib.hid (stayS hw13 neb0_g0 Vb0.out)
  replace Vc0 := Lib.hid (stayS hw13 nec0_g0 Vc0.out)
  replace Vd0 := Lib.hid (stayS hw13 neg0_d0.symm Vd0.out)
  replace Vg0 := Lib.hid (setS hw13 Vg0.out rfl)
  replace HB := Lib.hid (belS hw13 geg0 HB.out)
  refine Shut.out hK _ _ hS (fun _ => ?_)
  clear hK K
  try simp only [Act.put, List.setIfInBounds_toArray, List.set_cons_zero, List.set_cons_succ]
  refine wpAnyH_ready (rs := [10]) (by kernel_rfl) (by simp) (AllReadyH.cons (o := ⟨none, .store 31 (.tmp 8) (.tmp 44), 0, "law.go:20", #[⟨7, .data⟩, ⟨5, .data⟩, ⟨9, .chain⟩, ⟨0, .phase⟩, ⟨1, .phase⟩, ⟨2, .phase⟩, ⟨3, .phase⟩, ⟨4, .phase⟩, ⟨5, .phase⟩, ⟨6, .textOnly .lateStores⟩, ⟨7, .phase⟩, ⟨8, .phase⟩, ⟨9, .phase⟩], none⟩) rfl (fun K hK => ?_) AllReadyH.nil)
  refine op_storeS (by rfl) rfl rfl rfl thg0.out (by kernel_rfl) (by simp [Value.oneCell']) hw13 ?_
  replace hS := hw13 ▸ below_setCells geg0 [.int .i64 32, .int .i64 1, .int .i64 0, .int .i64 0, .int .i64 (-1), .int .i64 1, .bool false, .bool false, .int .i64 0, .bool false] 0 _ hS
  obtain ⟨w14, hw14⟩ : ∃ W, w13.setCells (sd0) 0 [.bool false, .bool false, .bool false, .int .i64 0, .int .i64 0, .int .u64 0, .slice none 0 0] = W := ⟨_, rfl⟩
  have thd0 := Lib.hid (there_blk Vd0.out (k := 7) rfl)
  replace Vo := Lib.hid (stayS hw14 neo_d0 Vo.out)
  replace Va0 := Lib.hid (stayS hw14 nea0_d0 Va0.out)
  replace Vfw := Lib.hid (stayS hw14 nefw_d0 Vfw.out)
  replace Vb0 := Lib.hid (stayS hw14 neb0_d0 Vb0.out)
  replace Vc0 := Lib.hid (stayS hw14 nec0_d0 Vc0.out)
  replace Vg0 := Lib.hid (stayS hw14 neg0_d0 Vg0.out)
  replace Vd0 := Lib.hid (setS hw14 Vd0.out rfl)
  replace HB := Lib.hid (belS hw14 ged0 HB.out)
  refine Shut.out hK _ _ hS (fun _ => ?_)
  clear hK K
  try simp only [Act.put, List.setIfInBounds_toArray, List.set_cons_zero, List.set_cons_succ]
  refine wpAnyH_ready (rs := [11]) (by kernel_rfl) (by simp) (AllReadyH.cons (o := ⟨none, .store 38 (.tmp 9) (.tmp 45), 0, "law.go:20", #[⟨8, .data⟩, ⟨6, .data⟩, ⟨10, .chain⟩, ⟨0, .phase⟩, ⟨1, .phase⟩, ⟨2, .phase⟩, ⟨3, .phase⟩, ⟨4, .phase⟩, ⟨5, .phase⟩, ⟨6, .phase⟩, ⟨7, .phase⟩, ⟨8, .phase⟩, ⟨9, .phase⟩, ⟨10, .phase⟩], none⟩) rfl (fun K hK => ?_) AllReadyH.nil)
  refine op_storeS (by rfl) rfl rfl rfl thd0.out (by kernel_rfl) (by simp [Value.oneCell']) hw14 ?_
  replace hS := hw14 ▸ below_setCells ged0 [.bool false, .bool false, .bool false, .int .i64 0, .int .i64 0, .int .u64 0, .slice none 0 0] 0 _ hS
  refine Shut.out hK _ _ hS (fun _ => ?_)
  clear hK K
  try simp only [Act.put, List.setIfInBounds_toArray, List.set_cons_zero, List.set_cons_succ]
  refine wpAnyH_done (by kernel_rfl) ?_ _
  refine NoPanic.normal ?_
  clear hS hBZ gsg0 gsd0 tho thg0 thd0
  have co := row11 Vo.out
  have cg0 := row10 Vg0.out
  go_wp2_with fail
  refine (K4.out _).mono ?_
  rintro e w15 ⟨rfl, hb⟩
  clear co cg0
  replace Vo := Lib.hid (blk_below Vo.out hb (blk_lt Vo.out))
  replace Va0 := Lib.hid (blk_below Va0.out hb (blk_lt Va0.out))
  replace Vfw := Lib.hid (blk_below Vfw.out hb (blk_lt Vfw.out))
  replace Vb0 := Lib.hid (blk_below Vb0.out hb (blk_lt Vb0.out))
  replace Vc0 := Lib.hid (blk_below Vc0.out hb (blk_lt Vc0.out))
  replace Vg0 := Lib.hid (blk_below Vg0.out hb (blk_lt Vg0.out))
  replace Vd0 := Lib.hid (blk_below Vd0.out hb (blk_lt Vd0.out))
  replace HB := Lib.hid (And.intro (HB.out.1.trans (hb.mono HB.out.2)) (Nat.le_trans HB.out.2 hb.size))
  clear hb
  have lto := blk_lt Vo.out
  have lta0 := blk_lt Va0.out
  have ltfw := blk_lt Vfw.out
  have ltb0 := blk_lt Vb0.out
  have ltc0 := blk_lt Vc0.out
  have ltg0 := blk_lt Vg0.out
  have ltd0 := blk_lt Vd0.out
  have gq := HB.out.2
  obtain ⟨w16, hw16⟩ : ∃ W, (w15.alloc (.cells #[.bool false, .bool false, .bool false, .int .i64 0, .int .i64 0, .int .u64 0, .slice none 0 0] 38)) = W := ⟨_, rfl⟩
  have hb : Below w15.heap.size w15 w16 := hw16 ▸ ((Below.refl _ _).alloc (Nat.le_refl _) _)
  have hv0 : w16.heap[w15.heap.size]? = some (.cells #[.bool false, .bool false, .bool false, .int .i64 0, .int .i64 0, .int .u64 0, .slice none 0 0] 38) := by
    have h0 := heap_alloc_new w15 (.cells #[.bool false, .bool false, .bool false, .int .i64 0, .int .i64 0, .int .u64 0, .slice none 0 0] 38)
    rw [show w15.heap.size = w15.heap.size by simp [Nat.add_assoc]] at h0
    rw [← hw16]
    exact h0
  replace Vo := Lib.hid (blk_below Vo.out hb (blk_lt Vo.out))
  replace Va0 := Lib.hid (blk_below Va0.out hb (blk_lt Va0.out))
  replace Vfw := Lib.hid (blk_below Vfw.out hb (blk_lt Vfw.out))
  replace Vb0 := Lib.hid (blk_below Vb0.out hb (blk_lt Vb0.out))
  replace Vc0 := Lib.hid (blk_below Vc0.out hb (blk_lt Vc0.out))
  replace Vg0 := Lib.hid (blk_below Vg0.out hb (blk_lt Vg0.out))
  replace Vd0 := Lib.hid (blk_below Vd0.out hb (blk_lt Vd0.out))
  replace HB := Lib.hid (And.intro (HB.out.1.trans (hb.mono HB.out.2)) (Nat.le_trans HB.out.2 hb.size))
  have Ve0 := Lib.hid hv0
  have neo_e0 := Nat.ne_of_lt lto
  have nea0_e0 := Nat.ne_of_lt lta0
  have nefw_e0 := Nat.ne_of_lt ltfw
  have neb0_e0 := Nat.ne_of_lt ltb0
  have nec0_e0 := Nat.ne_of_lt ltc0
  have neg0_e0 := Nat.ne_of_lt ltg0
  have ned0_e0 := Nat.ne_of_lt ltd0
  have gee0 := gq
  generalize hse0 : w15.heap.size = se0 at *
  clear hb gq hv0 lto lta0 ltfw ltb0 ltc0 ltg0 ltd0
  obtain ⟨mw17, w17, hw17, hse, VN⟩ := set11 Vo.out (.int .i64 3) (.int .i64 0) (.int .i64 0) (.int .i64 0) (.int .i64 0) (.int .i64 0) (.int .i64 0) (.int .u32 0) (.int .u32 0) (.slice none 0 0) (.slice none 0 0)
  replace Va0 := Lib.hid (stayS hse neo_a0.symm Va0.out)
  replace Vfw := Lib.hid (stayS hse neo_fw.symm Vfw.out)
  replace Vb0 := Lib.hid (stayS hse neo_b0.symm Vb0.out)
  replace Vc0 := Lib.hid (stayS hse neo_c0.symm Vc0.out)
  replace Vg0 := Lib.hid (stayS hse neo_g0.symm Vg0.out)
  replace Vd0 := Lib.hid (stayS hse neo_d0.symm Vd0.out)
  replace Ve0 := Lib.hid (stayS hse neo_e0.symm Ve0.out)
  replace Vo := VN
  replace HB := Lib.hid (belS hse geo HB.out)
  clear VN hse
  obtain ⟨mw18, w18, hw18, hse, VN⟩ := set10 Vg0.out (.int .i64 0) (.int .i64 0) (.int .i64 0) (.int .i64 0) (.int .i64 0) (.int .i64 0) (.bool false) (.bool false) (.int .i64 0) (.bool false)
  replace Vo := Lib.hid (stayS hse neo_g0 Vo.out)
  replace Va0 := Lib.hid (stayS hse nea0_g0 Va0.out)
  replace Vfw := Lib.hid (stayS hse nefw_g0 Vfw.out)
  replace Vb0 := Lib.hid (stayS hse neb0_g0 Vb0.out)
  replace Vc0 := Lib.hid (stayS hse nec0_g0 Vc0.out)
  replace Vd0 := Lib.hid (stayS hse neg0_d0.symm Vd0.out)
  replace Ve0 := Lib.hid (stayS hse neg0_e0.symm Ve0.out)
  replace Vg0 := VN
  replace HB := Lib.hid (belS hse geg0 HB.out)
  clear VN hse
  obtain ⟨mw19, w19, hw19, hse, VN⟩ := set7 Ve0.out (.bool true) (.bool false) (.bool false) (.int .i64 3) (.int .i64 0) (.int .u64 0) (.slice none 0 0)
  replace Vo := Lib.hid (stayS hse neo_e0 Vo.out)
  replace Va0 := Lib.hid (stayS hse nea0_e0 Va0.out)
  replace Vfw := Lib.hid (stayS hse nefw_e0 Vfw.out)
  replace Vb0 := Lib.hid (stayS hse neb0_e0 Vb0.out)
  replace Vc0 := Lib.hid (stayS hse nec0_e0 Vc0.out)
  replace Vg0 := Lib.hid (stayS hse neg0_e0 Vg0.out)
  replace Vd0 := Lib.hid (stayS hse ned0_e0 Vd0.out)
  replace Ve0 := VN
  replace HB := Lib.hid (belS hse gee0 HB.out)
  clear VN hse
  go_wp2
  clear mw17 hw17 mw18 hw18 mw19 hw19
  have hBZ := HB.out.2
  refine wp_region_noPanic ?_
  refine wp_region_held_drew (S := (fun wv => Below w.heap.size w19 wv)) (by kernel_rfl) ((((Below.refl w19.heap.size w19).drew).mono hBZ)) (fun hS => ?_)
  refine inv_region (fun a0 fu listed a u => ∃ (lq0 cq0 cq1 xq0 xq1 xq2 : Bool) (v54 v55 v56 v53 v57 v58 v59 p11 p12 p13 : Value) (sp1 sp2 sh0 : Nat), listed = #[lq0, cq0, cq1, cq1, cq1, cq1, cq1, xq0, xq1, xq2, false, false, false] ∧ a = ⟨((((((((((a0.tmps.setIfInBounds 54 v54).setIfInBounds 55 v55).setIfInBounds 56 v56).setIfInBounds 53 v53).setIfInBounds 57 v57).setIfInBounds 58 v58).setIfInBounds 59 v59).setIfInBounds 11 p11).setIfInBounds 12 p12).setIfInBounds 13 p13), a0.defers⟩ ∧ (bif lq0 then 0 else 1) + (bif cq0 then 0 else 1) + (bif cq1 then 0 else 5) + (bif xq0 then 0 else 1) + (bif xq1 then 0 else 1) + (bif xq2 then 0 else 1) + 3 ≤ fu ∧ (cq1 = true → lq0 = true) ∧ (cq1 = true → cq0 = true) ∧ Below w19.heap.size w19 u ∧ (lq0 = true → v54 = .agg #[.int .i64 3, .int .i64 0, .int .i64 0, .int .i64 0, .int .i64 0, .int .i64 0, .int .i64 0, .int .u32 0, .int .u32 0, .slice none 0 0, .slice none 0 0]) ∧ (cq0 = true → v55 = .agg #[.int .i64 32, .int .i64 0, .int .i64 0, .int .i64 0, .int .i64 (-1), .int .i64 0, .bool false, .bool false, .int .i64 0, .bool false]) ∧ (cq1 = true → v57 = .agg #[.int .i64 3, .int .i64 0, .int .i64 0, .int .i64 0, .int .i64 0, .int .i64 0, .int .i64 0, .int .u32 0, .int .u32 0, .slice none 0 0, .slice none 0 0]) ∧ (cq1 = true → v58 = .agg #[.int .i64 0, .int .i64 0, .int .i64 0, .int .i64 0, .int .i64 0, .int .i64 0, .bool false, .bool false, .int .i64 0, .bool false]) ∧ (cq1 = true → v59 = .agg #[.bool false, .bool false, .bool false, .int .i64 0, .int .i64 2, .int .u64 0, .slice none 0 0]) ∧ (xq0 = true → p11 = .pointer (some ⟨sp1, 0, none⟩) ∧ w19.heap.size ≤ sp1 ∧ u.heap[sp1]? = some (.cells #[.int .i64 0, .int .i64 0, .int .i64 0, .int .i64 0, .int .i64 0, .int .i64 0, .int .i64 0, .int .u32 0, .int .u32 0, .slice none 0 0, .slice none 0 0] 29)) ∧ (xq1 = true → p12 = .pointer (some ⟨sp2, 0, none⟩) ∧ w19.heap.size ≤ sp2 ∧ u.heap[sp2]? = some (.cells #[.int .i64 0, .int .i64 0, .int .i64 0, .int .i64 0, .int .i64 0, .int .i64 0, .bool false, .bool false, .int .i64 0, .bool false] 31)) ∧ (xq2 = true → p13 = .pointer (some ⟨sh0, 0, none⟩) ∧ w19.heap.size ≤ sh0 ∧ u.heap[sh0]? = some (.cells #[.bool false, .bool false, .bool false, .int .i64 0, .int .i64 0, .int .u64 0, .slice none 0 0] 38))) ⟨false, false, false, false, false, false, undef, undef, undef, undef, undef, undef, undef, undef, undef, undef, 0, 0, 0, rfl, (by first | (simp only [List.setIfInBounds_toArray, List.set_cons_zero, List.set_cons_succ]; done) | rfl), (by show _ + _ ≤ _; decide), (fun h => nomatch h), (fun h => nomatch h), ((Below.refl w19.heap.size w19).drew), (fun h => nomatch h), (fun h => nomatch h), (fun h => nomatch h), (fun h => nomatch h), (fun h => nomatch h), (fun h => nomatch h), (fun h => nomatch h), (fun h => nomatch h)⟩ ?_
  clear hS; rintro fu listed a u ⟨lq0, cq0, cq1, xq0, xq1, xq2, v54, v55, v56, v53, v57, v58, v59, p11, p12, p13, sp1, sp2, sh0, rfl, rfl, hn, hc0, hc1, hS, h54, h55, h57, h58, h59, ksp1, ksp2, ksh0⟩ IH
  try simp only [List.setIfInBounds_toArray, List.set_cons_zero, List.set_cons_succ]
  by_cases hall : (lq0 && (cq0 && (cq1 && (xq0 && (xq1 && (xq2)))))) = true
  rotate_left
  · have hbad : ((cq1 && !lq0) || ((cq1 && !cq0) || ((lq0 && (cq0 && (cq1 && (xq0 && (xq1 && (xq2))))))))) = false := inv_or (inv_imp hc0) (inv_or (inv_imp hc1) (inv_not hall))
    obtain ⟨fu, rfl⟩ : ∃ m, fu = m + 1 := ⟨fu - 1, by omega⟩
    refine inv_step (bad := ((cq1 && !lq0) || ((cq1 && !cq0) || ((lq0 && (cq0 && (cq1 && (xq0 && (xq1 && (xq2)))))))))) (fun i => ((i == 0 && !lq0) || ((i == 1 && !cq0) || ((i == 2 && (lq0 && (cq0 && !cq1))) || ((i == 7 && !xq0) || ((i == 8 && !xq1) || ((i == 9 && !xq2)))))))) ((show ∀ lq0 cq0 cq1 xq0 xq1 xq2 : Bool, (((cq1 && !lq0) || ((cq1 && !cq0) || ((lq0 && (cq0 && (cq1 && (xq0 && (xq1 && (xq2))))))))) || (!(Region.ready _ _ #[lq0, cq0, cq1, cq1, cq1, cq1, cq1, xq0, xq1, xq2, false, false, false]).isEmpty && (Region.ready _ _ #[lq0, cq0, cq1, cq1, cq1, cq1, cq1, xq0, xq1, xq2, false, false, false]).all (fun i => ((i == 0 && !lq0) || ((i == 1 && !cq0) || ((i == 2 && (lq0 && (cq0 && !cq1))) || ((i == 7 && !xq0) || ((i == 8 && !xq1) || ((i == 9 && !xq2)))))))))) = true from by intro lq0 cq0 cq1 xq0 xq1 xq2; cases lq0 <;> cases cq0 <;> cases cq1 <;> cases xq0 <;> cases xq1 <;> cases xq2 <;> kernel_rfl) lq0 cq0 cq1 xq0 xq1 xq2) hbad (fun i hi => ?_)
    simp only [Bool.or_eq_true, Bool.and_eq_true, beq_iff_eq, Bool.not_eq_true'] at hi
    clear hall hbad
    rcases hi with ⟨rfl, rfl⟩ | ⟨rfl, rfl⟩ | ⟨rfl, rfl, rfl, rfl⟩ | ⟨rfl, rfl⟩ | ⟨rfl, rfl⟩ | ⟨rfl, rfl⟩
    · skip
      obtain ⟨lc0, lc1, lc2, lc3, lc4, lc5, lc6, lc7, lc8, lc9, lc10⟩ := row11 (blk_below Vo.out hS (blk_lt Vo.out))
      refine inv_arm (o := ⟨some 54, .load 29 (.tmp 1), 29, "law.go:22", #[], none⟩) rfl (fun K hK => ?_)
      go_simp
      clear lc0 lc1 lc2 lc3 lc4 lc5 lc6 lc7 lc8 lc9 lc10
      refine Shut.out hK _ _ (hS.mono hBZ) (fun _ => ?_)
      clear hK K
      try simp only [Act.put, List.setIfInBounds_toArray, List.set_cons_zero, List.set_cons_succ]
      exact IH _ _ _ _ (by omega) ⟨true, cq0, cq1, xq0, xq1, xq2, _, v55, v56, v53, v57, v58, v59, p11, p12, p13, sp1, sp2, sh0, rfl, (by (try simp only [List.setIfInBounds_toArray, List.set_cons_zero, List.set_cons_succ]); try rfl), (by simp only [cond_true, cond_false] at hn ⊢; omega), (fun _ => rfl), hc1, hS, (fun _ => rfl), h55, h57, h58, h59, (fun h => ⟨(ksp1 h).1, (ksp1 h).2.1, blk_below (ksp1 h).2.2 (Below.refl _ _) (blk_lt (ksp1 h).2.2)⟩), (fun h => ⟨(ksp2 h).1, (ksp2 h).2.1, blk_below (ksp2 h).2.2 (Below.refl _ _) (blk_lt (ksp2 h).2.2)⟩), (fun h => ⟨(ksh0 h).1, (ksh0 h).2.1, blk_below (ksh0 h).2.2 (Below.refl _ _) (blk_lt (ksh0 h).2.2)⟩)⟩
    · skip
      refine inv_arm (o := ⟨some 55, .call { callee := .value (.func 14), args := #[.const (Value.int IntKind.i64 32)], argTypes := #[3] }, 31, "law.go:22", #[], none⟩) rfl (fun K hK => ?_)
      go_simp
      go_wp2_with fail
      refine (N1.out _).mono ?_; rintro e u1 ⟨rfl, hb⟩
      replace hS := hS.trans (hb.mono hS.size)
      refine Shut.out hK _ _ (hS.mono hBZ) (fun _ => ?_)
      clear hK K
      try simp only [Act.put, List.setIfInBounds_toArray, List.set_cons_zero, List.set_cons_succ]
      exact IH _ _ _ _ (by omega) ⟨lq0, true, cq1, xq0, xq1, xq2, v54, _, v56, v53, v57, v58, v59, p11, p12, p13, sp1, sp2, sh0, rfl, (by (try simp only [List.setIfInBounds_toArray, List.set_cons_zero, List.set_cons_succ]); try rfl), (by simp only [cond_true, cond_false] at hn ⊢; omega), hc0, (fun _ => rfl), hS, h54, (fun _ => rfl), h57, h58, h59, (fun h => ⟨(ksp1 h).1, (ksp1 h).2.1, blk_below (ksp1 h).2.2 hb (blk_lt (ksp1 h).2.2)⟩), (fun h => ⟨(ksp2 h).1, (ksp2 h).2.1, blk_below (ksp2 h).2.2 hb (blk_lt (ksp2 h).2.2)⟩), (fun h => ⟨(ksh0 h).1, (ksh0 h).2.1, blk_below (ksh0 h).2.2 hb (blk_lt (ksh0 h).2.2)⟩)⟩
    · skip
      obtain rfl := h54 rfl
      obtain rfl := h55 rfl
      refine inv_arm (o := ⟨some 56, .call { callee := .value (.func 8), args := #[.tmp 54, .tmp 55, .const (Value.int IntKind.i64 (-1))], argTypes := #[29, 31, 2] }, 39, "law.go:22", #[⟨0, .data⟩, ⟨1, .data⟩, ⟨1, .chain⟩], none⟩) rfl (fun K hK => ?_)
      go_simp
      go_wp2_with fail
      refine (K5.out _).mono ?_; rintro e u2 ⟨rfl, hb⟩
      replace hS := hS.trans (hb.mono hS.size)
      obtain ⟨fu, rfl⟩ : ∃ m, fu = m + 4 := ⟨fu - 4, by simp only [cond_true, cond_false] at hn; omega⟩
      refine Shut.out hK _ _ (hS.mono hBZ) (fun _ => ?_)
      clear hK K
      try simp only [Act.put, List.setIfInBounds_toArray, List.set_cons_zero, List.set_cons_succ]
      refine wpAnyH_take (i := 3) (oi := ⟨some 53, .move (.tmp 56), 39, "law.go:22", #[⟨2, .data⟩], none⟩) (v := ?_) rfl (by kernel_rfl) ((show ∀ xq0 xq1 xq2 : Bool, Region.free _ _ #[true, true, true, false, false, false, false, xq0, xq1, xq2, false, false, false] 3 = true from by intro xq0 xq1 xq2; cases xq0 <;> cases xq1 <;> cases xq2 <;> kernel_rfl) xq0 xq1 xq2) ((show ∀ xq0 xq1 xq2 : Bool, (Region.ready _ _ #[true, true, true, false, false, false, false, xq0, xq1, xq2, false, false, false]).contains 3 = true from by intro xq0 xq1 xq2; cases xq0 <;> cases xq1 <;> cases xq2 <;> kernel_rfl) xq0 xq1 xq2) (fun _ _ _ h => h) (Or.inl ⟨by rfl, ?_⟩) (hS.mono hBZ) ?_
      rotate_left
      · intro wv _; go_simp; try with_reducible rfl
      try simp only [Act.put, List.setIfInBounds_toArray, List.set_cons_zero, List.set_cons_succ]
      refine wpAnyH_take (i := 4) (oi := ⟨some 57, .extract (.tmp 53) 0, 29, "law.go:22", #[⟨3, .data⟩], none⟩) (v := ?_) rfl (by kernel_rfl) ((show ∀ xq0 xq1 xq2 : Bool, Region.free _ _ #[true, true, true, true, false, false, false, xq0, xq1, xq2, false, false, false] 4 = true from by intro xq0 xq1 xq2; cases xq0 <;> cases xq1 <;> cases xq2 <;> kernel_rfl) xq0 xq1 xq2) ((show ∀ xq0 xq1 xq2 : Bool, (Region.ready _ _ #[true, true, true, true, false, false, false, xq0, xq1, xq2, false, false, false]).contains 4 = true from by intro xq0 xq1 xq2; cases xq0 <;> cases xq1 <;> cases xq2 <;> kernel_rfl) xq0 xq1 xq2) (fun _ _ _ h => h) (Or.inl ⟨by rfl, ?_⟩) (hS.mono hBZ) ?_
      rotate_left
      · intro wv _; go_simp; try with_reducible rfl
      try simp only [Act.put, List.setIfInBounds_toArray, List.set_cons_zero, List.set_cons_succ]
      refine wpAnyH_take (i := 5) (oi := ⟨some 58, .extract (.tmp 53) 1, 31, "law.go:22", #[⟨3, .data⟩, ⟨10, .gcOnly .lateStores⟩], none⟩) (v := ?_) rfl (by kernel_rfl) ((show ∀ xq0 xq1 xq2 : Bool, Region.free _ _ #[true, true, true, true, true, false, false, xq0, xq1, xq2, false, false, false] 5 = true from by intro xq0 xq1 xq2; cases xq0 <;> cases xq1 <;> cases xq2 <;> kernel_rfl) xq0 xq1 xq2) ((show ∀ xq0 xq1 xq2 : Bool, (Region.ready _ _ #[true, true, true, true, true, false, false, xq0, xq1, xq2, false, false, false]).contains 5 = true from by intro xq0 xq1 xq2; cases xq0 <;> cases xq1 <;> cases xq2 <;> kernel_rfl) xq0 xq1 xq2) (fun _ _ _ h => h) (Or.inl ⟨by rfl, ?_⟩) (hS.mono hBZ) ?_
      rotate_left
      · intro wv _; go_simp; try with_reducible rfl
      try simp only [Act.put, List.setIfInBounds_toArray, List.set_cons_zero, List.set_cons_succ]
      refine wpAnyH_take (i := 6) (oi := ⟨some 59, .extract (.tmp 53) 2, 38, "law.go:22", #[⟨3, .data⟩, ⟨11, .gcOnly .lateStores⟩], none⟩) (v := ?_) rfl (by kernel_rfl) ((show ∀ xq0 xq1 xq2 : Bool, Region.free _ _ #[true, true, true, true, true, true, false, xq0, xq1, xq2, false, false, false] 6 = true from by intro xq0 xq1 xq2; cases xq0 <;> cases xq1 <;> cases xq2 <;> kernel_rfl) xq0 xq1 xq2) ((show ∀ xq0 xq1 xq2 : Bool, (Region.ready _ _ #[true, true, true, true, true, true, false, xq0, xq1, xq2, false, false, false]).contains 6 = true from by intro xq0 xq1 xq2; cases xq0 <;> cases xq1 <;> cases xq2 <;> kernel_rfl) xq0 xq1 xq2) (fun _ _ _ h => h) (Or.inl ⟨by rfl, ?_⟩) (hS.mono hBZ) ?_
      rotate_left
      · intro wv _; go_simp; try with_reducible rfl
      try simp only [Act.put, List.setIfInBounds_toArray, List.set_cons_zero, List.set_cons_succ]
      exact IH _ _ _ _ (by omega) ⟨true, true, true, xq0, xq1, xq2, _, _, _, _, _, _, _, p11, p12, p13, sp1, sp2, sh0, rfl, (by (try simp only [List.setIfInBounds_toArray, List.set_cons_zero, List.set_cons_succ]); try rfl), (by simp only [cond_true, cond_false] at hn ⊢; omega), (fun _ => rfl), (fun _ => rfl), hS, (fun _ => rfl), (fun _ => rfl), (fun _ => rfl), (fun _ => rfl), (fun _ => rfl), (fun h => ⟨(ksp1 h).1, (ksp1 h).2.1, blk_below (ksp1 h).2.2 hb (blk_lt (ksp1 h).2.2)⟩), (fun h => ⟨(ksp2 h).1, (ksp2 h).2.1, blk_below (ksp2 h).2.2 hb (blk_lt (ksp2 h).2.2)⟩), (fun h => ⟨(ksh0 h).1, (ksh0 h).2.1, blk_below (ksh0 h).2.2 hb (blk_lt (ksh0 h).2.2)⟩)⟩
    · skip
      refine inv_arm (o := ⟨some 11, .alloc 29, 0, "law.go:22", #[], none⟩) rfl (fun K hK => ?_)
      go_simp
      have zs := hS.size
      have hb := (Below.refl u.heap.size u).alloc (Nat.le_refl _) (.cells #[.int .i64 0, .int .i64 0, .int .i64 0, .int .i64 0, .int .i64 0, .int .i64 0, .int .i64 0, .int .u32 0, .int .u32 0, .slice none 0 0, .slice none 0 0] 29)
      replace hS := hS.trans (hb.mono hS.size)
      refine Shut.out hK _ _ (hS.mono hBZ) (fun _ => ?_)
      clear hK K
      try simp only [Act.put, List.setIfInBounds_toArray, List.set_cons_zero, List.set_cons_succ]
      exact IH _ _ _ _ (by omega) ⟨lq0, cq0, cq1, true, xq1, xq2, v54, v55, v56, v53, v57, v58, v59, _, p12, p13, u.heap.size, sp2, sh0, rfl, (by (try simp only [List.setIfInBounds_toArray, List.set_cons_zero, List.set_cons_succ]); try rfl), (by simp only [cond_true, cond_false] at hn ⊢; omega), hc0, hc1, hS, h54, h55, h57, h58, h59, (fun _ => ⟨rfl, zs, heap_alloc_new _ _⟩), (fun h => ⟨(ksp2 h).1, (ksp2 h).2.1, blk_below (ksp2 h).2.2 hb (blk_lt (ksp2 h).2.2)⟩), (fun h => ⟨(ksh0 h).1, (ksh0 h).2.1, blk_below (ksh0 h).2.2 hb (blk_lt (ksh0 h).2.2)⟩)⟩
    · skip
      refine inv_arm (o := ⟨some 12, .alloc 31, 0, "law.go:22", #[], none⟩) rfl (fun K hK => ?_)
      go_simp
      have zs := hS.size
      have hb := (Below.refl u.heap.size u).alloc (Nat.le_refl _) (.cells #[.int .i64 0, .int .i64 0, .int .i64 0, .int .i64 0, .int .i64 0, .int .i64 0, .bool false, .bool false, .int .i64 0, .bool false] 31)
      replace hS := hS.trans (hb.mono hS.size)
      refine Shut.out hK _ _ (hS.mono hBZ) (fun _ => ?_)
      clear hK K
      try simp only [Act.put, List.setIfInBounds_toArray, List.set_cons_zero, List.set_cons_succ]
      exact IH _ _ _ _ (by omega) ⟨lq0, cq0, cq1, xq0, true, xq2, v54, v55, v56, v53, v57, v58, v59, p11, _, p13, sp1, u.heap.size, sh0, rfl, (by (try simp only [List.setIfInBounds_toArray, List.set_cons_zero, List.set_cons_succ]); try rfl), (by simp only [cond_true, cond_false] at hn ⊢; omega), hc0, hc1, hS, h54, h55, h57, h58, h59, (fun h => ⟨(ksp1 h).1, (ksp1 h).2.1, blk_below (ksp1 h).2.2 hb (blk_lt (ksp1 h).2.2)⟩), (fun _ => ⟨rfl, zs, heap_alloc_new _ _⟩), (fun h => ⟨(ksh0 h).1, (ksh0 h).2.1, blk_below (ksh0 h).2.2 hb (blk_lt (ksh0 h).2.2)⟩)⟩
    · skip
      refine inv_arm (o := ⟨some 13, .alloc 38, 0, "law.go:22", #[], none⟩) rfl (fun K hK => ?_)
      go_simp
      have zs := hS.size
      have hb := (Below.refl u.heap.size u).alloc (Nat.le_refl _) (.cells #[.bool false, .bool false, .bool false, .int .i64 0, .int .i64 0, .int .u64 0, .slice none 0 0] 38)
      replace hS := hS.trans (hb.mono hS.size)
      refine Shut.out hK _ _ (hS.mono hBZ) (fun _ => ?_)
      clear hK K
      try simp only [Act.put, List.setIfInBounds_toArray, List.set_cons_zero, List.set_cons_succ]
      exact IH _ _ _ _ (by omega) ⟨lq0, cq0, cq1, xq0, xq1, true, v54, v55, v56, v53, v57, v58, v59, p11, p12, _, sp1, sp2, u.heap.size, rfl, (by (try simp only [List.setIfInBounds_toArray, List.set_cons_zero, List.set_cons_succ]); try rfl), (by simp only [cond_true, cond_false] at hn ⊢; omega), hc0, hc1, hS, h54, h55, h57, h58, h59, (fun h => ⟨(ksp1 h).1, (ksp1 h).2.1, blk_below (ksp1 h).2.2 hb (blk_lt (ksp1 h).2.2)⟩), (fun h => ⟨(ksp2 h).1, (ksp2 h).2.1, blk_below (ksp2 h).2.2 hb (blk_lt (ksp2 h).2.2)⟩), (fun _ => ⟨rfl, zs, heap_alloc_new _ _⟩)⟩
  simp only [Bool.and_eq_true] at hall
  obtain ⟨rfl, rfl, rfl, rfl, rfl, rfl⟩ := hall
  obtain rfl := h54 rfl
  obtain rfl := h55 rfl
  obtain rfl := h57 rfl
  obtain rfl := h58 rfl
  obtain rfl := h59 rfl
  obtain ⟨rfl, gsp1, Vsp1⟩ := ksp1 rfl
  obtain ⟨rfl, gsp2, Vsp2⟩ := ksp2 rfl
  obtain ⟨rfl, gsh0, Vsh0⟩ := ksh0 rfl
  obtain ⟨fu, rfl⟩ : ∃ m, fu = m + 3 := ⟨fu - 3, by simp only [cond_true] at hn; omega⟩
  clear IH hn hc0 hc1
  have neo_p1 := Nat.ne_of_lt (Nat.lt_of_lt_of_le (blk_lt Vo.out) gsp1)
  have nea0_p1 := Nat.ne_of_lt (Nat.lt_of_lt_of_le (blk_lt Va0.out) gsp1)
  have nefw_p1 := Nat.ne_of_lt (Nat.lt_of_lt_of_le (blk_lt Vfw.out) gsp1)
  have neb0_p1 := Nat.ne_of_lt (Nat.lt_of_lt_of_le (blk_lt Vb0.out) gsp1)
  have nec0_p1 := Nat.ne_of_lt (Nat.lt_of_lt_of_le (blk_lt Vc0.out) gsp1)
  have neg0_p1 := Nat.ne_of_lt (Nat.lt_of_lt_of_le (blk_lt Vg0.out) gsp1)
  have ned0_p1 := Nat.ne_of_lt (Nat.lt_of_lt_of_le (blk_lt Vd0.out) gsp1)
  have nee0_p1 := Nat.ne_of_lt (Nat.lt_of_lt_of_le (blk_lt Ve0.out) gsp1)
  have neo_p2 := Nat.ne_of_lt (Nat.lt_of_lt_of_le (blk_lt Vo.out) gsp2)
  have nea0_p2 := Nat.ne_of_lt (Nat.lt_of_lt_of_le (blk_lt Va0.out) gsp2)
  have nefw_p2 := Nat.ne_of_lt (Nat.lt_of_lt_of_le (blk_lt Vfw.out) gsp2)
  have neb0_p2 := Nat.ne_of_lt (Nat.lt_of_lt_of_le (blk_lt Vb0.out) gsp2)
  have nec0_p2 := Nat.ne_of_lt (Nat.lt_of_lt_of_le (blk_lt Vc0.out) gsp2)
  have neg0_p2 := Nat.ne_of_lt (Nat.lt_of_lt_of_le (blk_lt Vg0.out) gsp2)
  have ned0_p2 := Nat.ne_of_lt (Nat.lt_of_lt_of_le (blk_lt Vd0.out) gsp2)
  have nee0_p2 := Nat.ne_of_lt (Nat.lt_of_lt_of_le (blk_lt Ve0.out) gsp2)
  have neo_h0 := Nat.ne_of_lt (Nat.lt_of_lt_of_le (blk_lt Vo.out) gsh0)
  have nea0_h0 := Nat.ne_of_lt (Nat.lt_of_lt_of_le (blk_lt Va0.out) gsh0)
  have nefw_h0 := Nat.ne_of_lt (Nat.lt_of_lt_of_le (blk_lt Vfw.out) gsh0)
  have neb0_h0 := Nat.ne_of_lt (Nat.lt_of_lt_of_le (blk_lt Vb0.out) gsh0)
  have nec0_h0 := Nat.ne_of_lt (Nat.lt_of_lt_of_le (blk_lt Vc0.out) gsh0)
  have neg0_h0 := Nat.ne_of_lt (Nat.lt_of_lt_of_le (blk_lt Vg0.out) gsh0)
  have ned0_h0 := Nat.ne_of_lt (Nat.lt_of_lt_of_le (blk_lt Vd0.out) gsh0)
  have nee0_h0 := Nat.ne_of_lt (Nat.lt_of_lt_of_le (blk_lt Ve0.out) gsh0)
  have nep1_p2 : sp1 ≠ sp2 := blk_ne Vsp1 Vsp2 (by decide)
  have nep1_h0 : sp1 ≠ sh0 := blk_ne Vsp1 Vsh0 (by decide)
  have nep2_h0 : sp2 ≠ sh0 := blk_ne Vsp2 Vsh0 (by decide)
  have gep1 := Nat.le_trans HB.out.2 gsp1
  have gep2 := Nat.le_trans HB.out.2 gsp2
  have geh0 := Nat.le_trans HB.out.2 gsh0
  replace Vo := Lib.hid (blk_below Vo.out hS (blk_lt Vo.out))
  replace Va0 := Lib.hid (blk_below Va0.out hS (blk_lt Va0.out))
  replace Vfw := Lib.hid (blk_below Vfw.out hS (blk_lt Vfw.out))
  replace Vb0 := Lib.hid (blk_below Vb0.out hS (blk_lt Vb0.out))
  replace Vc0 := Lib.hid (blk_below Vc0.out hS (blk_lt Vc0.out))
  replace Vg0 := Lib.hid (blk_below Vg0.out hS (blk_lt Vg0.out))
  replace Vd0 := Lib.hid (blk_below Vd0.out hS (blk_lt Vd0.out))
  replace Ve0 := Lib.hid (blk_below Ve0.out hS (blk_lt Ve0.out))
  replace HB := Lib.hid (And.intro (HB.out.1.trans (hS.mono HB.out.2)) (Nat.le_trans HB.out.2 hS.size))
  have Vp1 := Lib.hid Vsp1
  clear Vsp1
  have Vp2 := Lib.hid Vsp2
  clear Vsp2
  have Vh0 := Lib.hid Vsh0
  clear Vsh0
  obtain ⟨w20, hw20⟩ : ∃ W, u.setCells (sp1) 0 [.int .i64 3, .int .i64 0, .int .i64 0, .int .i64 0, .int .i64 0, .int .i64 0, .int .i64 0, .int .u32 0, .int .u32 0, .slice none 0 0, .slice none 0 0] = W := ⟨_, rfl⟩
  have thp1 := Lib.hid (there_blk Vp1.out (k := 11) rfl)
  replace Vo := Lib.hid (stayS hw20 neo_p1 Vo.out)
  replace Va0 := Lib.hid (stayS hw20 nea0_p1 Va0.out)
  replace Vfw := Lib.hid (stayS hw20 nefw_p1 Vfw.out)
  replace Vb0 := Lib.hid (stayS hw20 neb0_p1 Vb0.out)
  replace Vc0 := Lib.hid (stayS hw20 nec0_p1 Vc0.out)
  replace Vg0 := Lib.hid (stayS hw20 neg0_p1 Vg0.out)
  replace Vd0 := Lib.hid (stayS hw20 ned0_p1 Vd0.out)
  replace Ve0 := Lib.hid (stayS hw20 nee0_p1 Ve0.out)
  replace Vp2 := Lib.hid (stayS hw20 nep1_p2.symm Vp2.out)
  replace Vh0 := Lib.hid (stayS hw20 nep1_h0.symm Vh0.out)
  replace Vp1 := Lib.hid (setS hw20 Vp1.out rfl)
  replace HB := Lib.hid (belS hw20 gep1 HB.out)
  replace hS := (hS.mono hBZ)
  refine wpAnyH_ready (rs := [10]) (by kernel_rfl) (by simp) (AllReadyH.cons (o := ⟨none, .store 29 (.tmp 11) (.tmp 57), 0, "law.go:22", #[⟨7, .data⟩, ⟨4, .data⟩, ⟨2, .chain⟩, ⟨0, .phase⟩, ⟨1, .phase⟩, ⟨2, .phase⟩, ⟨3, .phase⟩, ⟨4, .phase⟩, ⟨5, .textOnly .lateStores⟩, ⟨6, .textOnly .lateStores⟩, ⟨7, .phase⟩, ⟨8, .phase⟩, ⟨9, .phase⟩], none⟩) rfl (fun K hK => ?_) AllReadyH.nil)
  refine op_storeS (by rfl) rfl rfl rfl thp1.out (by kernel_rfl) (by simp [Value.oneCell']) hw20 ?_
  replace hS := hw20 ▸ below_setCells gep1 [.int .i64 3, .int .i64 0, .int .i64 0, .int .i64 0, .int .i64 0, .int .i64 0, .int .i64 0, .int .u32 0, .int .u32 0, .slice none 0 0, .slice none 0 0] 0 _ hS
  obtain ⟨w21, hw21⟩ : ∃ W, w20.setCells (sp2) 0 [.int .i64 0, .int .i64 0, .int .i64 0, .int .i64 0, .int .i64 0, .int .i64 0, .bool false, .bool false, .int .i64 0, .bool false] = W := ⟨_, rfl⟩
  have thp2 := Lib.hid (there_blk Vp2.out (k := 10) rfl)
  replace Vo := Lib.hid (stayS hw21 neo_p2 Vo.out)
  replace Va0 := Lib.hid (stayS hw21 nea0_p2 Va0.out)
  replace Vfw := Lib.hid (stayS hw21 nefw_p2 Vfw.out)
  replace Vb0 := Lib.hid (stayS hw21 neb0_p2 Vb0.out)
  replace Vc0 := Lib.hid (stayS hw21 nec0_p2 Vc0.out)
  replace Vg0 := Lib.hid (stayS hw21 neg0_p2 Vg0.out)
  replace Vd0 := Lib.hid (stayS hw21 ned0_p2 Vd0.out)
  replace Ve0 := Lib.hid (stayS hw21 nee0_p2 Ve0.out)
  replace Vp1 := Lib.hid (stayS hw21 nep1_p2 Vp1.out)
  replace Vh0 := Lib.hid (stayS hw21 nep2_h0.symm Vh0.out)
  replace Vp2 := Lib.hid (setS hw21 Vp2.out rfl)
  replace HB := Lib.hid (belS hw21 gep2 HB.out)
  refine Shut.out hK _ _ hS (fun _ => ?_)
  clear hK K
  try simp only [Act.put, List.setIfInBounds_toArray, List.set_cons_zero, List.set_cons_succ]
  refine wpAnyH_ready (rs := [11]) (by kernel_rfl) (by simp) (AllReadyH.cons (o := ⟨none, .store 31 (.tmp 12) (.tmp 58), 0, "law.go:22", #[⟨8, .data⟩, ⟨5, .data⟩, ⟨10, .chain⟩, ⟨0, .phase⟩, ⟨1, .phase⟩, ⟨2, .phase⟩, ⟨3, .phase⟩, ⟨4, .phase⟩, ⟨5, .phase⟩, ⟨6, .textOnly .lateStores⟩, ⟨7, .phase⟩, ⟨8, .phase⟩, ⟨9, .phase⟩, ⟨10, .phase⟩], none⟩) rfl (fun K hK => ?_) AllReadyH.nil)
  refine op_storeS (by rfl) rfl rfl rfl thp2.out (by kernel_rfl) (by simp [Value.oneCell']) hw21 ?_
  replace hS := hw21 ▸ below_setCells gep2 [.int .i64 0, .int .i64 0, .int .i64 0, .int .i64 0, .int .i64 0, .int .i64 0, .bool false, .bool false, .int .i64 0, .bool false] 0 _ hS
  obtain ⟨w22, hw22⟩ : ∃ W, w21.setCells (sh0) 0 [.bool false, .bool false, .bool false, .int .i64 0, .int .i64 2, .int .u64 0, .slice none 0 0] = W := ⟨_, rfl⟩
  have thh0 := Lib.hid (there_blk Vh0.out (k := 7) rfl)
  replace Vo := Lib.hid (stayS hw22 neo_h0 Vo.out)
  replace Va0 := Lib.hid (stayS hw22 nea0_h0 Va0.out)
  replace Vfw := Lib.hid (stayS hw22 nefw_h0 Vfw.out)
  replace Vb0 := Lib.hid (stayS hw22 neb0_h0 Vb0.out)
  replace Vc0 := Lib.hid (stayS hw22 nec0_h0 Vc0.out)
  replace Vg0 := Lib.hid (stayS hw22 neg0_h0 Vg0.out)
  replace Vd0 := Lib.hid (stayS hw22 ned0_h0 Vd0.out)
  replace Ve0 := Lib.hid (stayS hw22 nee0_h0 Ve0.out)
  replace Vp1 := Lib.hid (stayS hw22 nep1_h0 Vp1.out)
  replace Vp2 := Lib.hid (stayS hw22 nep2_h0 Vp2.out)
  replace Vh0 := Lib.hid (setS hw22 Vh0.out rfl)
  replace HB := Lib.hid (belS hw22 geh0 HB.out)
  refine Shut.out hK _ _ hS (fun _ => ?_)
  clear hK K
  try simp only [Act.put, List.setIfInBounds_toArray, List.set_cons_zero, List.set_cons_succ]
  refine wpAnyH_ready (rs := [12]) (by kernel_rfl) (by simp) (AllReadyH.cons (o := ⟨none, .store 38 (.tmp 13) (.tmp 59), 0, "law.go:22", #[⟨9, .data⟩, ⟨6, .data⟩, ⟨11, .chain⟩, ⟨0, .phase⟩, ⟨1, .phase⟩, ⟨2, .phase⟩, ⟨3, .phase⟩, ⟨4, .phase⟩, ⟨5, .phase⟩, ⟨6, .phase⟩, ⟨7, .phase⟩, ⟨8, .phase⟩, ⟨9, .phase⟩, ⟨10, .phase⟩, ⟨11, .phase⟩], none⟩) rfl (fun K hK => ?_) AllReadyH.nil)
  refine op_storeS (by rfl) rfl rfl rfl thh0.out (by kernel_rfl) (by simp [Value.oneCell']) hw22 ?_
  replace hS := hw22 ▸ below_setCells geh0 [.bool false, .bool false, .bool false, .int .i64 0, .int .i64 2, .int .u64 0, .slice none 0 0] 0 _ hS
  refine Shut.out hK _ _ hS (fun _ => ?_)
  clear hK K
  try simp only [Act.put, List.setIfInBounds_toArray, List.set_cons_zero, List.set_cons_succ]
  refine wpAnyH_done (by kernel_rfl) ?_ _
  refine NoPanic.normal ?_
  clear hS hBZ gsp1 gsp2 gsh0 thp1 thp2 thh0
  clear Vp1
  clear Vp2
  have co := row11 Vo.out
  have cfw := row10 Vfw.out
  go_wp2_with fail
  refine (K6.out _).mono ?_
  rintro e w23 ⟨rfl, hb⟩
  clear co cfw
  replace Vo := Lib.hid (blk_below Vo.out hb (blk_lt Vo.out))
  replace Va0 := Lib.hid (blk_below Va0.out hb (blk_lt Va0.out))
  replace Vfw := Lib.hid (blk_below Vfw.out hb (blk_lt Vfw.out))
  replace Vb0 := Lib.hid (blk_below Vb0.out hb (blk_lt Vb0.out))
  replace Vc0 := Lib.hid (blk_below Vc0.out hb (blk_lt Vc0.out))
  replace Vg0 := Lib.hid (blk_below Vg0.out hb (blk_lt Vg0.out))
  replace Vd0 := Lib.hid (blk_below Vd0.out hb (blk_lt Vd0.out))
  replace Ve0 := Lib.hid (blk_below Ve0.out hb (blk_lt Ve0.out))
  replace Vh0 := Lib.hid (blk_below Vh0.out hb (blk_lt Vh0.out))
  replace HB := Lib.hid (And.intro (HB.out.1.trans (hb.mono HB.out.2)) (Nat.le_trans HB.out.2 hb.size))
  clear hb
  have lto := blk_lt Vo.out
  have lta0 := blk_lt Va0.out
  have ltfw := blk_lt Vfw.out
  have ltb0 := blk_lt Vb0.out
  have ltc0 := blk_lt Vc0.out
  have ltg0 := blk_lt Vg0.out
  have ltd0 := blk_lt Vd0.out
  have lte0 := blk_lt Ve0.out
  have lth0 := blk_lt Vh0.out
  have gq := HB.out.2
  obtain ⟨w24, hw24⟩ : ∃ W, (((w23.alloc (.cells #[.int .i64 0, .int .i64 0, .int .i64 0, .int .i64 0, .int .i64 0, .int .i64 0, .int .i64 0, .int .u32 0, .int .u32 0, .slice none 0 0, .slice none 0 0] 29)).alloc (.cells #[.int .i64 0, .int .i64 0, .int .i64 0, .int .i64 0, .int .i64 0, .int .i64 0, .bool false, .bool false, .int .i64 0, .bool false] 31)).alloc (.cells #[.bool false, .bool false, .bool false, .int .i64 0, .int .i64 0, .int .u64 0, .slice none 0 0] 38)) = W := ⟨_, rfl⟩
  have hb : Below w23.heap.size w23 w24 := hw24 ▸ ((((Below.refl _ _).alloc (Nat.le_refl _) _).alloc (by first | (simp; done) | (simp; omega)) _).alloc (by first | (simp; done) | (simp; omega)) _)
  have hv0 : w24.heap[w23.heap.size]? = some (.cells #[.int .i64 0, .int .i64 0, .int .i64 0, .int .i64 0, .int .i64 0, .int .i64 0, .int .i64 0, .int .u32 0, .int .u32 0, .slice none 0 0, .slice none 0 0] 29) := by
    have h0 := heap_alloc_new w23 (.cells #[.int .i64 0, .int .i64 0, .int .i64 0, .int .i64 0, .int .i64 0, .int .i64 0, .int .i64 0, .int .u32 0, .int .u32 0, .slice none 0 0, .slice none 0 0] 29)
    rw [show w23.heap.size = w23.heap.size by simp [Nat.add_assoc]] at h0
    rw [← hw24]
    rw [heap_alloc_old _ _ (by simp <;> omega), heap_alloc_old _ _ (by simp <;> omega)]; exact h0
  have hv1 : w24.heap[w23.heap.size + 1]? = some (.cells #[.int .i64 0, .int .i64 0, .int .i64 0, .int .i64 0, .int .i64 0, .int .i64 0, .bool false, .bool false, .int .i64 0, .bool false] 31) := by
    have h0 := heap_alloc_new (w23.alloc (.cells #[.int .i64 0, .int .i64 0, .int .i64 0, .int .i64 0, .int .i64 0, .int .i64 0, .int .i64 0, .int .u32 0, .int .u32 0, .slice none 0 0, .slice none 0 0] 29)) (.cells #[.int .i64 0, .int .i64 0, .int .i64 0, .int .i64 0, .int .i64 0, .int .i64 0, .bool false, .bool false, .int .i64 0, .bool false] 31)
    rw [show (w23.alloc (.cells #[.int .i64 0, .int .i64 0, .int .i64 0, .int .i64 0, .int .i64 0, .int .i64 0, .int .i64 0, .int .u32 0, .int .u32 0, .slice none 0 0, .slice none 0 0] 29)).heap.size = w23.heap.size + 1 by simp [Nat.add_assoc]] at h0
    rw [← hw24]
    rw [heap_alloc_old _ _ (by simp <;> omega)]; exact h0
  have hv2 : w24.heap[w23.heap.size + 2]? = some (.cells #[.bool false, .bool false, .bool false, .int .i64 0, .int .i64 0, .int .u64 0, .slice none 0 0] 38) := by
    have h0 := heap_alloc_new ((w23.alloc (.cells #[.int .i64 0, .int .i64 0, .int .i64 0, .int .i64 0, .int .i64 0, .int .i64 0, .int .i64 0, .int .u32 0, .int .u32 0, .slice none 0 0, .slice none 0 0] 29)).alloc (.cells #[.int .i64 0, .int .i64 0, .int .i64 0, .int .i64 0, .int .i64 0, .int .i64 0, .bool false, .bool false, .int .i64 0, .bool false] 31)) (.cells #[.bool false, .bool false, .bool false, .int .i64 0, .int .i64 0, .int .u64 0, .slice none 0 0] 38)
    rw [show ((w23.alloc (.cells #[.int .i64 0, .int .i64 0, .int .i64 0, .int .i64 0, .int .i64 0, .int .i64 0, .int .i64 0, .int .u32 0, .int .u32 0, .slice none 0 0, .slice none 0 0] 29)).alloc (.cells #[.int .i64 0, .int .i64 0, .int .i64 0, .int .i64 0, .int .i64 0, .int .i64 0, .bool false, .bool false, .int .i64 0, .bool false] 31)).heap.size = w23.heap.size + 2 by simp [Nat.add_assoc]] at h0
    rw [← hw24]
    exact h0
  replace Vo := Lib.hid (blk_below Vo.out hb (blk_lt Vo.out))
  replace Va0 := Lib.hid (blk_below Va0.out hb (blk_lt Va0.out))
  replace Vfw := Lib.hid (blk_below Vfw.out hb (blk_lt Vfw.out))
  replace Vb0 := Lib.hid (blk_below Vb0.out hb (blk_lt Vb0.out))
  replace Vc0 := Lib.hid (blk_below Vc0.out hb (blk_lt Vc0.out))
  replace Vg0 := Lib.hid (blk_below Vg0.out hb (blk_lt Vg0.out))
  replace Vd0 := Lib.hid (blk_below Vd0.out hb (blk_lt Vd0.out))
  replace Ve0 := Lib.hid (blk_below Ve0.out hb (blk_lt Ve0.out))
  replace Vh0 := Lib.hid (blk_below Vh0.out hb (blk_lt Vh0.out))
  replace HB := Lib.hid (And.intro (HB.out.1.trans (hb.mono HB.out.2)) (Nat.le_trans HB.out.2 hb.size))
  have Vq1 := Lib.hid hv0
  have neo_q1 := Nat.ne_of_lt lto
  have nea0_q1 := Nat.ne_of_lt lta0
  have nefw_q1 := Nat.ne_of_lt ltfw
  have neb0_q1 := Nat.ne_of_lt ltb0
  have nec0_q1 := Nat.ne_of_lt ltc0
  have neg0_q1 := Nat.ne_of_lt ltg0
  have ned0_q1 := Nat.ne_of_lt ltd0
  have nee0_q1 := Nat.ne_of_lt lte0
  have neh0_q1 := Nat.ne_of_lt lth0
  have geq1 := gq
  have Vq2 := Lib.hid hv1
  have neo_q2 := Nat.ne_of_lt (Nat.lt_of_lt_of_le lto (Nat.le_add_right w23.heap.size 1))
  have nea0_q2 := Nat.ne_of_lt (Nat.lt_of_lt_of_le lta0 (Nat.le_add_right w23.heap.size 1))
  have nefw_q2 := Nat.ne_of_lt (Nat.lt_of_lt_of_le ltfw (Nat.le_add_right w23.heap.size 1))
  have neb0_q2 := Nat.ne_of_lt (Nat.lt_of_lt_of_le ltb0 (Nat.le_add_right w23.heap.size 1))
  have nec0_q2 := Nat.ne_of_lt (Nat.lt_of_lt_of_le ltc0 (Nat.le_add_right w23.heap.size 1))
  have neg0_q2 := Nat.ne_of_lt (Nat.lt_of_lt_of_le ltg0 (Nat.le_add_right w23.heap.size 1))
  have ned0_q2 := Nat.ne_of_lt (Nat.lt_of_lt_of_le ltd0 (Nat.le_add_right w23.heap.size 1))
  have nee0_q2 := Nat.ne_of_lt (Nat.lt_of_lt_of_le lte0 (Nat.le_add_right w23.heap.size 1))
  have neh0_q2 := Nat.ne_of_lt (Nat.lt_of_lt_of_le lth0 (Nat.le_add_right w23.heap.size 1))
  have neq1_q2 : w23.heap.size ≠ w23.heap.size + 1 := by omega
  have geq2 : _ ≤ w23.heap.size + 1 := Nat.le_trans gq (Nat.le_add_right _ 1)
  have Vi0 := Lib.hid hv2
  have neo_i0 := Nat.ne_of_lt (Nat.lt_of_lt_of_le lto (Nat.le_add_right w23.heap.size 2))
  have nea0_i0 := Nat.ne_of_lt (Nat.lt_of_lt_of_le lta0 (Nat.le_add_right w23.heap.size 2))
  have nefw_i0 := Nat.ne_of_lt (Nat.lt_of_lt_of_le ltfw (Nat.le_add_right w23.heap.size 2))
  have neb0_i0 := Nat.ne_of_lt (Nat.lt_of_lt_of_le ltb0 (Nat.le_add_right w23.heap.size 2))
  have nec0_i0 := Nat.ne_of_lt (Nat.lt_of_lt_of_le ltc0 (Nat.le_add_right w23.heap.size 2))
  have neg0_i0 := Nat.ne_of_lt (Nat.lt_of_lt_of_le ltg0 (Nat.le_add_right w23.heap.size 2))
  have ned0_i0 := Nat.ne_of_lt (Nat.lt_of_lt_of_le ltd0 (Nat.le_add_right w23.heap.size 2))
  have nee0_i0 := Nat.ne_of_lt (Nat.lt_of_lt_of_le lte0 (Nat.le_add_right w23.heap.size 2))
  have neh0_i0 := Nat.ne_of_lt (Nat.lt_of_lt_of_le lth0 (Nat.le_add_right w23.heap.size 2))
  have neq1_i0 : w23.heap.size ≠ w23.heap.size + 2 := by omega
  have neq2_i0 : w23.heap.size + 1 ≠ w23.heap.size + 2 := by omega
  have gei0 : _ ≤ w23.heap.size + 2 := Nat.le_trans gq (Nat.le_add_right _ 2)
  generalize hsq1 : w23.heap.size = sq1 at *
  clear hb gq hv0 hv1 hv2 lto lta0 ltfw ltb0 ltc0 ltg0 ltd0 lte0 lth0
  obtain ⟨mw25, w25, hw25, hse, VN⟩ := set11 Vq1.out (.int .i64 3) (.int .i64 0) (.int .i64 0) (.int .i64 0) (.int .i64 0) (.int .i64 0) (.int .i64 0) (.int .u32 0) (.int .u32 0) (.slice none 0 0) (.slice none 0 0)
  replace Vo := Lib.hid (stayS hse neo_q1 Vo.out)
  replace Va0 := Lib.hid (stayS hse nea0_q1 Va0.out)
  replace Vfw := Lib.hid (stayS hse nefw_q1 Vfw.out)
  replace Vb0 := Lib.hid (stayS hse neb0_q1 Vb0.out)
  replace Vc0 := Lib.hid (stayS hse nec0_q1 Vc0.out)
  replace Vg0 := Lib.hid (stayS hse neg0_q1 Vg0.out)
  replace Vd0 := Lib.hid (stayS hse ned0_q1 Vd0.out)
  replace Ve0 := Lib.hid (stayS hse nee0_q1 Ve0.out)
  replace Vh0 := Lib.hid (stayS hse neh0_q1 Vh0.out)
  replace Vq2 := Lib.hid (stayS hse neq1_q2.symm Vq2.out)
  replace Vi0 := Lib.hid (stayS hse neq1_i0.symm Vi0.out)
  replace Vq1 := VN
  replace HB := Lib.hid (belS hse geq1 HB.out)
  clear VN hse
  obtain ⟨mw26, w26, hw26, hse, VN⟩ := set10 Vq2.out (.int .i64 0) (.int .i64 0) (.int .i64 0) (.int .i64 0) (.int .i64 0) (.int .i64 0) (.bool false) (.bool false) (.int .i64 0) (.bool false)
  replace Vo := Lib.hid (stayS hse neo_q2 Vo.out)
  replace Va0 := Lib.hid (stayS hse nea0_q2 Va0.out)
  replace Vfw := Lib.hid (stayS hse nefw_q2 Vfw.out)
  replace Vb0 := Lib.hid (stayS hse neb0_q2 Vb0.out)
  replace Vc0 := Lib.hid (stayS hse nec0_q2 Vc0.out)
  replace Vg0 := Lib.hid (stayS hse neg0_q2 Vg0.out)
  replace Vd0 := Lib.hid (stayS hse ned0_q2 Vd0.out)
  replace Ve0 := Lib.hid (stayS hse nee0_q2 Ve0.out)
  replace Vh0 := Lib.hid (stayS hse neh0_q2 Vh0.out)
  replace Vq1 := Lib.hid (stayS hse neq1_q2 Vq1.out)
  replace Vi0 := Lib.hid (stayS hse neq2_i0.symm Vi0.out)
  replace Vq2 := VN
  replace HB := Lib.hid (belS hse geq2 HB.out)
  clear VN hse
  obtain ⟨mw27, w27, hw27, hse, VN⟩ := set7 Vi0.out (.bool true) (.bool false) (.bool false) (.int .i64 0) (.int .i64 0) (.int .u64 0) (.slice none 0 0)
  replace Vo := Lib.hid (stayS hse neo_i0 Vo.out)
  replace Va0 := Lib.hid (stayS hse nea0_i0 Va0.out)
  replace Vfw := Lib.hid (stayS hse nefw_i0 Vfw.out)
  replace Vb0 := Lib.hid (stayS hse neb0_i0 Vb0.out)
  replace Vc0 := Lib.hid (stayS hse nec0_i0 Vc0.out)
  replace Vg0 := Lib.hid (stayS hse neg0_i0 Vg0.out)
  replace Vd0 := Lib.hid (stayS hse ned0_i0 Vd0.out)
  replace Ve0 := Lib.hid (stayS hse nee0_i0 Ve0.out)
  replace Vh0 := Lib.hid (stayS hse neh0_i0 Vh0.out)
  replace Vq1 := Lib.hid (stayS hse neq1_i0 Vq1.out)
  replace Vq2 := Lib.hid (stayS hse neq2_i0 Vq2.out)
  replace Vi0 := VN
  replace HB := Lib.hid (belS hse gei0 HB.out)
  clear VN hse
  clear Vq1
  clear Vq2
  have ca0 := row7 Va0.out
  have cb0 := row7 Vb0.out
  have cfw := row10 Vfw.out
  have cc0 := row7 Vc0.out
  have cd0 := row7 Vd0.out
  have ce0 := row7 Ve0.out
  have cg0 := row10 Vg0.out
  have co := row11 Vo.out
  have ch0 := row7 Vh0.out
  have ci0 := row7 Vi0.out
  go_wp2
  go_ret
  exact ⟨rfl, HB.out.1⟩
end Go.Proofs.Ytglldhmdifnobaa
