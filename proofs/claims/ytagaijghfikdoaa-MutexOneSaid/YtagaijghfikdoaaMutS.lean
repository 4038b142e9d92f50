/- alive of layer 15: it answers true, over any world; no condition. -/
import Derived.Test.YtagaijghfikdoaaMutO
import Derived.Test.YtagaijghfikdoaaSyB
namespace Go.Proofs.Ytagaijghfikdoaa
set_option linter.unusedVariables false
set_option linter.unusedSimpArgs false
open Go.RowKit
theorem own_es {w : World} {base k n c : Nat} {T : TypeId} {A : Option Addr} {cs : List Value} (h : w.ownsRow base T k (.slice A n c) n cs) (h1 : ∀ u ∈ cs, u.oneCell' = true) : Es w A n c k cs := by
  obtain ⟨A2, c2, e, h2⟩ := Es.of_own h h1
  injection e with e1 _ e3
  subst e1 e3
  exact h2
theorem own_wts {w : World} {base n c : Nat} {T : TypeId} {A : Option Addr} {l : List Wt} (h : w.ownsRow base T 2 (.slice A n c) n (wtC l)) : Wts w A n c l := own_es h (wtC_one l)
theorem own_cls {w : World} {base n c : Nat} {T : TypeId} {A : Option Addr} {l : List Cl} (h : w.ownsRow base T 2 (.slice A n c) n (clC l)) : Cls w A n c l := own_es h (clC_one l)
theorem wf_wrap {x : Int} (h : (Lit.int .i64 x).wf = true) : IntKind.i64.wrap x = x := by
  have h1 : IntKind.i64.min = -9223372036854775808 := rfl
  have h2 : IntKind.i64.max = 9223372036854775807 := rfl
  simp only [Lit.wf, h1, h2, Bool.and_eq_true, decide_eq_true_eq] at h
  rw [IntKind.wrap_i64]; omega
set_option maxRecDepth 100000 in
set_option maxHeartbeats 16000000 in
theorem alive15 (w : World) : Calls Try.prog 8 #[] w fun e w' => e = .returned (.bool true) ∧ Below w.heap.size w w' := by
  have K0 := Lib.hid (show ∀ W : World, Calls Try.prog 10 #[.agg #[.int .i64 1, .int .i64 0, .int .i64 0, .int .i64 0, .int .i64 0, .int .i64 0, .int .i64 0, .int .u32 0, .int .u32 0, .slice none 0 0, .slice none 0 0], .agg #[.int .i64 26, .int .i64 0, .int .i64 0, .int .i64 0, .int .i64 (-1), .int .i64 0, .bool false, .bool false, .int .i64 0, .bool false], .int .i64 5, .int .i64 9] W (fun e w' => e = .returned (.tuple #[.agg #[.int .i64 1, .int .i64 1, .int .i64 0, .int .i64 0, .int .i64 0, .int .i64 0, .int .i64 0, .int .u32 0, .int .u32 0, .slice none 0 0, .slice none 0 0], .agg #[.int .i64 0, .int .i64 0, .int .i64 0, .int .i64 0, .int .i64 0, .int .i64 0, .bool false, .bool false, .int .i64 0, .bool false], .agg #[.bool true, .bool false, .bool false, .int .i64 0, .int .i64 0, .int .u64 0, .slice none 0 0]]) ∧ Below W.heap.size W w') from fun W => by
    have h := muLock_nil 1 0 0 0 0 0 0 0 0 (⟨26, 0, 0, 0, -1, 0, false, false, 0, false⟩ : MFr) 5 9 W
    rw [show lockM 0 (⟨26, 0, 0, 0, -1, 0, false, false, 0, false⟩ : MFr) 5 9 = (1, (⟨0, 0, 0, 0, 0, 0, false, false, 0, false⟩ : MFr), (⟨true, 0, false, 0⟩ : MAct)) from by kernel_rfl] at h
    exact h)
  have K1 := Lib.hid (show ∀ W : World, Calls Try.prog 10 #[.agg #[.int .i64 1, .int .i64 1, .int .i64 0, .int .i64 0, .int .i64 0, .int .i64 0, .int .i64 0, .int .u32 0, .int .u32 0, .slice none 0 0, .slice none 0 0], .agg #[.int .i64 26, .int .i64 0, .int .i64 0, .int .i64 0, .int .i64 (-1), .int .i64 0, .bool false, .bool false, .int .i64 0, .bool false], .int .i64 5, .int .i64 9] W (fun e w' => e = .returned (.tuple #[.agg #[.int .i64 1, .int .i64 1, .int .i64 0, .int .i64 0, .int .i64 0, .int .i64 0, .int .i64 0, .int .u32 0, .int .u32 0, .slice none 0 0, .slice none 0 0], .agg #[.int .i64 26, .int .i64 0, .int .i64 1, .int .i64 0, .int .i64 (-1), .int .i64 0, .bool false, .bool false, .int .i64 0, .bool false], .agg #[.bool false, .bool false, .bool false, .int .i64 0, .int .i64 0, .int .u64 0, .slice none 0 0]]) ∧ Below W.heap.size W w') from fun W => by
    have h := muLock_nil 1 1 0 0 0 0 0 0 0 (⟨26, 0, 0, 0, -1, 0, false, false, 0, false⟩ : MFr) 5 9 W
    rw [show lockM 1 (⟨26, 0, 0, 0, -1, 0, false, false, 0, false⟩ : MFr) 5 9 = (1, (⟨26, 0, 1, 0, -1, 0, false, false, 0, false⟩ : MFr), (⟨false, 0, false, 0⟩ : MAct)) from by kernel_rfl] at h
    exact h)
  have K2 := Lib.hid (show ∀ W : World, Calls Try.prog 10 #[.agg #[.int .i64 1, .int .i64 1, .int .i64 0, .int .i64 0, .int .i64 0, .int .i64 0, .int .i64 0, .int .u32 0, .int .u32 0, .slice none 0 0, .slice none 0 0], .agg #[.int .i64 26, .int .i64 0, .int .i64 1, .int .i64 0, .int .i64 (-1), .int .i64 0, .bool false, .bool false, .int .i64 0, .bool false], .int .i64 5, .int .i64 9] W (fun e w' => e = .returned (.tuple #[.agg #[.int .i64 1, .int .i64 1, .int .i64 0, .int .i64 0, .int .i64 0, .int .i64 0, .int .i64 0, .int .u32 0, .int .u32 0, .slice none 0 0, .slice none 0 0], .agg #[.int .i64 26, .int .i64 0, .int .i64 2, .int .i64 1, .int .i64 (-1), .int .i64 0, .bool false, .bool false, .int .i64 0, .bool false], .agg #[.bool false, .bool false, .bool false, .int .i64 0, .int .i64 0, .int .u64 0, .slice none 0 0]]) ∧ Below W.heap.size W w') from fun W => by
    have h := muLock_nil 1 1 0 0 0 0 0 0 0 (⟨26, 0, 1, 0, -1, 0, false, false, 0, false⟩ : MFr) 5 9 W
    rw [show lockM 1 (⟨26, 0, 1, 0, -1, 0, false, false, 0, false⟩ : MFr) 5 9 = (1, (⟨26, 0, 2, 1, -1, 0, false, false, 0, false⟩ : MFr), (⟨false, 0, false, 0⟩ : MAct)) from by kernel_rfl] at h
    exact h)
  have K3 := Lib.hid (show ∀ W : World, Calls Try.prog 10 #[.agg #[.int .i64 1, .int .i64 1, .int .i64 0, .int .i64 0, .int .i64 0, .int .i64 0, .int .i64 0, .int .u32 0, .int .u32 0, .slice none 0 0, .slice none 0 0], .agg #[.int .i64 26, .int .i64 0, .int .i64 2, .int .i64 1, .int .i64 (-1), .int .i64 0, .bool false, .bool false, .int .i64 0, .bool false], .int .i64 5, .int .i64 9] W (fun e w' => e = .returned (.tuple #[.agg #[.int .i64 1, .int .i64 9, .int .i64 0, .int .i64 0, .int .i64 0, .int .i64 0, .int .i64 0, .int .u32 0, .int .u32 0, .slice none 0 0, .slice none 0 0], .agg #[.int .i64 26, .int .i64 0, .int .i64 3, .int .i64 1, .int .i64 5, .int .i64 0, .bool false, .bool false, .int .i64 2, .bool false], .agg #[.bool false, .bool false, .bool false, .int .i64 0, .int .i64 0, .int .u64 0, .slice none 0 0]]) ∧ Below W.heap.size W w') from fun W => by
    have h := muLock_nil 1 1 0 0 0 0 0 0 0 (⟨26, 0, 2, 1, -1, 0, false, false, 0, false⟩ : MFr) 5 9 W
    rw [show lockM 1 (⟨26, 0, 2, 1, -1, 0, false, false, 0, false⟩ : MFr) 5 9 = (9, (⟨26, 0, 3, 1, 5, 0, false, false, 2, false⟩ : MFr), (⟨false, 0, false, 0⟩ : MAct)) from by kernel_rfl] at h
    exact h)
  have K4 := Lib.hid (show ∀ W : World, Calls Try.prog 16 #[.agg #[.int .i64 1, .int .i64 9, .int .i64 0, .int .i64 0, .int .i64 0, .int .i64 0, .int .i64 0, .int .u32 0, .int .u32 0, .slice none 0 0, .slice none 0 0], .agg #[.int .i64 27, .int .i64 0, .int .i64 0, .int .i64 0, .int .i64 (-1), .int .i64 0, .bool false, .bool false, .int .i64 0, .bool false]] W (fun e w' => e = .returned (.tuple #[.agg #[.int .i64 1, .int .i64 8, .int .i64 0, .int .i64 0, .int .i64 0, .int .i64 0, .int .i64 0, .int .u32 0, .int .u32 0, .slice none 0 0, .slice none 0 0], .agg #[.int .i64 27, .int .i64 0, .int .i64 1, .int .i64 8, .int .i64 (-1), .int .i64 0, .bool false, .bool false, .int .i64 0, .bool false], .agg #[.bool false, .bool false, .bool false, .int .i64 0, .int .i64 0, .int .u64 0, .slice none 0 0]]) ∧ Below W.heap.size W w') from fun W => by
    have h := muUnlock_nil 1 9 0 0 0 0 0 0 0 (⟨27, 0, 0, 0, -1, 0, false, false, 0, false⟩ : MFr) (by kernel_rfl) W
    rw [show unlockM 9 (⟨27, 0, 0, 0, -1, 0, false, false, 0, false⟩ : MFr) = (8, (⟨27, 0, 1, 8, -1, 0, false, false, 0, false⟩ : MFr), (⟨false, 0, false, 0⟩ : MAct)) from by kernel_rfl] at h
    exact h)
  have K5 := Lib.hid (show ∀ W : World, Calls Try.prog 16 #[.agg #[.int .i64 1, .int .i64 8, .int .i64 0, .int .i64 0, .int .i64 0, .int .i64 0, .int .i64 0, .int .u32 0, .int .u32 0, .slice none 0 0, .slice none 0 0], .agg #[.int .i64 27, .int .i64 0, .int .i64 1, .int .i64 8, .int .i64 (-1), .int .i64 0, .bool false, .bool false, .int .i64 0, .bool false]] W (fun e w' => e = .returned (.tuple #[.agg #[.int .i64 1, .int .i64 2, .int .i64 0, .int .i64 0, .int .i64 0, .int .i64 0, .int .i64 0, .int .u32 0, .int .u32 0, .slice none 0 0, .slice none 0 0], .agg #[.int .i64 27, .int .i64 0, .int .i64 3, .int .i64 8, .int .i64 (-1), .int .i64 0, .bool false, .bool false, .int .i64 0, .bool false], .agg #[.bool false, .bool false, .bool false, .int .i64 0, .int .i64 0, .int .u64 0, .slice none 0 0]]) ∧ Below W.heap.size W w') from fun W => by
    have h := muUnlock_nil 1 8 0 0 0 0 0 0 0 (⟨27, 0, 1, 8, -1, 0, false, false, 0, false⟩ : MFr) (by kernel_rfl) W
    rw [show unlockM 8 (⟨27, 0, 1, 8, -1, 0, false, false, 0, false⟩ : MFr) = (2, (⟨27, 0, 3, 8, -1, 0, false, false, 0, false⟩ : MFr), (⟨false, 0, false, 0⟩ : MAct)) from by kernel_rfl] at h
    exact h)
  have K6 := Lib.hid (show ∀ W : World, Calls Try.prog 16 #[.agg #[.int .i64 1, .int .i64 2, .int .i64 0, .int .i64 0, .int .i64 0, .int .i64 0, .int .i64 0, .int .u32 0, .int .u32 0, .slice none 0 0, .slice none 0 0], .agg #[.int .i64 27, .int .i64 0, .int .i64 3, .int .i64 8, .int .i64 (-1), .int .i64 0, .bool false, .bool false, .int .i64 0, .bool false]] W (fun e w' => e = .returned (.tuple #[.agg #[.int .i64 1, .int .i64 2, .int .i64 0, .int .i64 0, .int .i64 0, .int .i64 0, .int .i64 0, .int .u32 0, .int .u32 0, .slice none 0 0, .slice none 0 0], .agg #[.int .i64 0, .int .i64 0, .int .i64 0, .int .i64 0, .int .i64 0, .int .i64 0, .bool false, .bool false, .int .i64 0, .bool false], .agg #[.bool true, .bool false, .bool false, .int .i64 2, .int .i64 0, .int .u64 0, .slice none 0 0]]) ∧ Below W.heap.size W w') from fun W => by
    have h := muUnlock_nil 1 2 0 0 0 0 0 0 0 (⟨27, 0, 3, 8, -1, 0, false, false, 0, false⟩ : MFr) (by kernel_rfl) W
    rw [show unlockM 2 (⟨27, 0, 3, 8, -1, 0, false, false, 0, false⟩ : MFr) = (2, (⟨0, 0, 0, 0, 0, 0, false, false, 0, false⟩ : MFr), (⟨true, 2, false, 0⟩ : MAct)) from by kernel_rfl] at h
    exact h)
  have K7 := Lib.hid (show ∀ W : World, Calls Try.prog 10 #[.agg #[.int .i64 1, .int .i64 2, .int .i64 0, .int .i64 0, .int .i64 0, .int .i64 0, .int .i64 0, .int .u32 0, .int .u32 0, .slice none 0 0, .slice none 0 0], .agg #[.int .i64 26, .int .i64 0, .int .i64 3, .int .i64 1, .int .i64 5, .int .i64 0, .bool false, .bool false, .int .i64 0, .bool false], .int .i64 5, .int .i64 9] W (fun e w' => e = .returned (.tuple #[.agg #[.int .i64 1, .int .i64 2, .int .i64 0, .int .i64 0, .int .i64 0, .int .i64 0, .int .i64 0, .int .u32 0, .int .u32 0, .slice none 0 0, .slice none 0 0], .agg #[.int .i64 26, .int .i64 0, .int .i64 2, .int .i64 2, .int .i64 5, .int .i64 0, .bool true, .bool false, .int .i64 0, .bool false], .agg #[.bool false, .bool false, .bool false, .int .i64 0, .int .i64 0, .int .u64 0, .slice none 0 0]]) ∧ Below W.heap.size W w') from fun W => by
    have h := muLock_nil 1 2 0 0 0 0 0 0 0 (⟨26, 0, 3, 1, 5, 0, false, false, 0, false⟩ : MFr) 5 9 W
    rw [show lockM 2 (⟨26, 0, 3, 1, 5, 0, false, false, 0, false⟩ : MFr) 5 9 = (2, (⟨26, 0, 2, 2, 5, 0, true, false, 0, false⟩ : MFr), (⟨false, 0, false, 0⟩ : MAct)) from by kernel_rfl] at h
    exact h)
  have K8 := Lib.hid (show ∀ W : World, Calls Try.prog 10 #[.agg #[.int .i64 1, .int .i64 2, .int .i64 0, .int .i64 0, .int .i64 0, .int .i64 0, .int .i64 0, .int .u32 0, .int .u32 0, .slice none 0 0, .slice none 0 0], .agg #[.int .i64 26, .int .i64 0, .int .i64 2, .int .i64 2, .int .i64 5, .int .i64 0, .bool true, .bool false, .int .i64 0, .bool false], .int .i64 5, .int .i64 9] W (fun e w' => e = .returned (.tuple #[.agg #[.int .i64 1, .int .i64 1, .int .i64 0, .int .i64 0, .int .i64 0, .int .i64 0, .int .i64 0, .int .u32 0, .int .u32 0, .slice none 0 0, .slice none 0 0], .agg #[.int .i64 0, .int .i64 0, .int .i64 0, .int .i64 0, .int .i64 0, .int .i64 0, .bool false, .bool false, .int .i64 0, .bool false], .agg #[.bool true, .bool false, .bool false, .int .i64 0, .int .i64 0, .int .u64 0, .slice none 0 0]]) ∧ Below W.heap.size W w') from fun W => by
    have h := muLock_nil 1 2 0 0 0 0 0 0 0 (⟨26, 0, 2, 2, 5, 0, true, false, 0, false⟩ : MFr) 5 9 W
    rw [show lockM 2 (⟨26, 0, 2, 2, 5, 0, true, false, 0, false⟩ : MFr) 5 9 = (1, (⟨0, 0, 0, 0, 0, 0, false, false, 0, false⟩ : MFr), (⟨true, 0, false, 0⟩ : MAct)) from by kernel_rfl] at h
    exact h)
  have K9 := Lib.hid (show ∀ W : World, Calls Try.prog 16 #[.agg #[.int .i64 0, .int .i64 0, .int .i64 0, .int .i64 0, .int .i64 0, .int .i64 0, .int .i64 0, .int .u32 0, .int .u32 0, .slice none 0 0, .slice none 0 0], .agg #[.int .i64 27, .int .i64 0, .int .i64 0, .int .i64 0, .int .i64 (-1), .int .i64 0, .bool false, .bool false, .int .i64 0, .bool false]] W (fun e w' => e = .returned (.tuple #[.agg #[.int .i64 0, .int .i64 0, .int .i64 0, .int .i64 0, .int .i64 0, .int .i64 0, .int .i64 0, .int .u32 0, .int .u32 0, .slice none 0 0, .slice none 0 0], .agg #[.int .i64 0, .int .i64 0, .int .i64 0, .int .i64 0, .int .i64 0, .int .i64 0, .bool false, .bool false, .int .i64 0, .bool false], .agg #[.bool false, .bool false, .bool false, .int .i64 0, .int .i64 1, .int .u64 0, .slice none 0 0]]) ∧ Below W.heap.size W w') from fun W => by
    have h := muUnlock_nil 0 0 0 0 0 0 0 0 0 (⟨27, 0, 0, 0, -1, 0, false, false, 0, false⟩ : MFr) (by kernel_rfl) W
    rw [show unlockM 0 (⟨27, 0, 0, 0, -1, 0, false, false, 0, false⟩ : MFr) = (0, (⟨0, 0, 0, 0, 0, 0, false, false, 0, false⟩ : MFr), (⟨false, 0, false, 1⟩ : MAct)) from by kernel_rfl] at h
    exact h)
  have N1 := Lib.hid (show ∀ W : World, Calls Try.prog 18 #[.int .i64 26] W (fun e w' => e = .returned (.agg #[.int .i64 26, .int .i64 0, .int .i64 0, .int .i64 0, .int .i64 (-1), .int .i64 0, .bool false, .bool false, .int .i64 0, .bool false]) ∧ Below W.heap.size W w') from fun W => muBegin_any 26 W)
  have N2 := Lib.hid (show ∀ W : World, Calls Try.prog 18 #[.int .i64 27] W (fun e w' => e = .returned (.agg #[.int .i64 27, .int .i64 0, .int .i64 0, .int .i64 0, .int .i64 (-1), .int .i64 0, .bool false, .bool false, .int .i64 0, .bool false]) ∧ Below W.heap.size W w') from fun W => muBegin_any 27 W)
  have LK := Lib.hid (show ∀ W : World, Calls Try.prog 14 #[.agg #[.int .i64 1, .int .i64 1, .int .i64 0, .int .i64 0, .int .i64 0, .int .i64 0, .int .i64 0, .int .u32 0, .int .u32 0, .slice none 0 0, .slice none 0 0]] W (fun e w' => e = .returned (.bool true) ∧ Below W.heap.size W w') from fun W => by
    have h := muLocked_any 1 1 0 0 0 0 0 0 0 none 0 0 none 0 0 W
    rw [show decide (hasBit 1 0) = true from by kernel_rfl] at h
    exact h)
  have HB := Lib.hid (And.intro (Below.refl w.heap.size w) (Nat.le_refl w.heap.size))
  go_enter Try.func8, Try.ntmps8
  have gq := HB.out.2
  obtain ⟨w1, hw1⟩ : ∃ W, (w.alloc (.cells #[.int .i64 0, .int .i64 0, .int .i64 0, .int .i64 0, .int .i64 0, .int .i64 0, .int .i64 0, .int .u32 0, .int .u32 0, .slice none 0 0, .slice none 0 0] 29)) = W := ⟨_, rfl⟩
  have hb : Below w.heap.size w w1 := hw1 ▸ ((Below.refl _ _).alloc (Nat.le_refl _) _)
  have hv0 : w1.heap[w.heap.size]? = some (.cells #[.int .i64 0, .int .i64 0, .int .i64 0, .int .i64 0, .int .i64 0, .int .i64 0, .int .i64 0, .int .u32 0, .int .u32 0, .slice none 0 0, .slice none 0 0] 29) := by
    have h0 := heap_alloc_new w (.cells #[.int .i64 0, .int .i64 0, .int .i64 0, .int .i64 0, .int .i64 0, .int .i64 0, .int .i64 0, .int .u32 0, .int .u32 0, .slice none 0 0, .slice none 0 0] 29)
    rw [show w.heap.size = w.heap.size by simp [Nat.add_assoc]] at h0
    rw [← hw1]
    exact h0
  replace HB := Lib.hid (And.intro (HB.out.1.trans (hb.mono HB.out.2)) (Nat.le_trans HB.out.2 hb.size))
  have Vo := Lib.hid hv0
  have geo := gq
  generalize hso : w.heap.size = so at *
  clear hb gq hv0
  subst hso
  obtain ⟨pco0, pco1, pco2, pco3, pco4, pco5, pco6, pco7, pco8, pco9, pco10⟩ := row11 Vo.out
  obtain ⟨pfo0, pfo1, pfo2, pfo3, pfo4, pfo5, pfo6, pfo7, pfo8, pfo9, pfo10⟩ := frz11 Vo.out
  obtain ⟨w2, hw2⟩ : ∃ W, (((((((((((w1.setCell ⟨w.heap.size, 0, none⟩ (.int .i64 1)).setCell ⟨w.heap.size, 1, none⟩ (.int .i64 0)).setCell ⟨w.heap.size, 2, none⟩ (.int .i64 0)).setCell ⟨w.heap.size, 3, none⟩ (.int .i64 0)).setCell ⟨w.heap.size, 4, none⟩ (.int .i64 0)).setCell ⟨w.heap.size, 5, none⟩ (.int .i64 0)).setCell ⟨w.heap.size, 6, none⟩ (.int .i64 0)).setCell ⟨w.heap.size, 7, none⟩ (.int .u32 0)).setCell ⟨w.heap.size, 8, none⟩ (.int .u32 0)).setCell ⟨w.heap.size, 9, none⟩ (.slice none 0 0)).setCell ⟨w.heap.size, 10, none⟩ (.slice none 0 0)) = W := ⟨_, rfl⟩
  have hse : w1.setCells (w.heap.size) 0 [.int .i64 1, .int .i64 0, .int .i64 0, .int .i64 0, .int .i64 0, .int .i64 0, .int .i64 0, .int .u32 0, .int .u32 0, .slice none 0 0, .slice none 0 0] = w2 := hw2
  have Vo2 : w2.heap[w.heap.size]? = some (.cells #[.int .i64 1, .int .i64 0, .int .i64 0, .int .i64 0, .int .i64 0, .int .i64 0, .int .i64 0, .int .u32 0, .int .u32 0, .slice none 0 0, .slice none 0 0] 29) := hse ▸ heap_setCells [.int .i64 1, .int .i64 0, .int .i64 0, .int .i64 0, .int .i64 0, .int .i64 0, .int .i64 0, .int .u32 0, .int .u32 0, .slice none 0 0, .slice none 0 0] w1 [] [.int .i64 0, .int .i64 0, .int .i64 0, .int .i64 0, .int .i64 0, .int .i64 0, .int .i64 0, .int .u32 0, .int .u32 0, .slice none 0 0, .slice none 0 0] rfl Vo.out
  have hbb : Below _ _ w2 := hse ▸ below_setCells geo [.int .i64 1, .int .i64 0, .int .i64 0, .int .i64 0, .int .i64 0, .int .i64 0, .int .i64 0, .int .u32 0, .int .u32 0, .slice none 0 0, .slice none 0 0] 0 w1 HB.out.1
  have hbs : w2.heap.size = w1.heap.size := by rw [← hse, size_setCells]
  replace Vo := Lib.hid Vo2
  clear Vo2
  replace HB := Lib.hid (And.intro hbb (show _ ≤ w2.heap.size by rw [hbs]; exact HB.out.2))
  clear hbb hbs hse
  go_wp2_with fail
  refine (N1.out _).mono ?_
  rintro e w3 ⟨rfl, hb⟩
  clear pco0 pco1 pco2 pco3 pco4 pco5 pco6 pco7 pco8 pco9 pco10 pfo0 pfo1 pfo2 pfo3 pfo4 pfo5 pfo6 pfo7 pfo8 pfo9 pfo10 hw2
  replace Vo := Lib.hid (blk_below Vo.out hb (blk_lt Vo.out))
  replace HB := Lib.hid (And.intro (HB.out.1.trans (hb.mono HB.out.2)) (Nat.le_trans HB.out.2 hb.size))
  clear hb
  have lto := blk_lt Vo.out
  have gq := HB.out.2
  obtain ⟨w4, hw4⟩ : ∃ W, (w3.alloc (.cells #[.int .i64 0, .int .i64 0, .int .i64 0, .int .i64 0, .int .i64 0, .int .i64 0, .bool false, .bool false, .int .i64 0, .bool false] 31)) = W := ⟨_, rfl⟩
  have hb : Below w3.heap.size w3 w4 := hw4 ▸ ((Below.refl _ _).alloc (Nat.le_refl _) _)
  have hv0 : w4.heap[w3.heap.size]? = some (.cells #[.int .i64 0, .int .i64 0, .int .i64 0, .int .i64 0, .int .i64 0, .int .i64 0, .bool false, .bool false, .int .i64 0, .bool false] 31) := by
    have h0 := heap_alloc_new w3 (.cells #[.int .i64 0, .int .i64 0, .int .i64 0, .int .i64 0, .int .i64 0, .int .i64 0, .bool false, .bool false, .int .i64 0, .bool false] 31)
    rw [show w3.heap.size = w3.heap.size by simp [Nat.add_assoc]] at h0
    rw [← hw4]
    exact h0
  replace Vo := Lib.hid (blk_below Vo.out hb (blk_lt Vo.out))
  replace HB := Lib.hid (And.intro (HB.out.1.trans (hb.mono HB.out.2)) (Nat.le_trans HB.out.2 hb.size))
  have Vf := Lib.hid hv0
  have neo_f := Nat.ne_of_lt lto
  have gef := gq
  generalize hsf : w3.heap.size = sf at *
  clear hb gq hv0 lto
  obtain ⟨pcf0, pcf1, pcf2, pcf3, pcf4, pcf5, pcf6, pcf7, pcf8, pcf9⟩ := row10 Vf.out
  obtain ⟨pff0, pff1, pff2, pff3, pff4, pff5, pff6, pff7, pff8, pff9⟩ := frz10 Vf.out
  obtain ⟨w5, hw5⟩ : ∃ W, ((((((((((w4.setCell ⟨sf, 0, none⟩ (.int .i64 26)).setCell ⟨sf, 1, none⟩ (.int .i64 0)).setCell ⟨sf, 2, none⟩ (.int .i64 0)).setCell ⟨sf, 3, none⟩ (.int .i64 0)).setCell ⟨sf, 4, none⟩ (.int .i64 (-1))).setCell ⟨sf, 5, none⟩ (.int .i64 0)).setCell ⟨sf, 6, none⟩ (.bool false)).setCell ⟨sf, 7, none⟩ (.bool false)).setCell ⟨sf, 8, none⟩ (.int .i64 0)).setCell ⟨sf, 9, none⟩ (.bool false)) = W := ⟨_, rfl⟩
  have hse : w4.setCells (sf) 0 [.int .i64 26, .int .i64 0, .int .i64 0, .int .i64 0, .int .i64 (-1), .int .i64 0, .bool false, .bool false, .int .i64 0, .bool false] = w5 := hw5
  have Vo2 : w5.heap[w.heap.size]? = some (.cells #[.int .i64 1, .int .i64 0, .int .i64 0, .int .i64 0, .int .i64 0, .int .i64 0, .int .i64 0, .int .u32 0, .int .u32 0, .slice none 0 0, .slice none 0 0] 29) := hse ▸ (heap_setCells_ne neo_f [.int .i64 26, .int .i64 0, .int .i64 0, .int .i64 0, .int .i64 (-1), .int .i64 0, .bool false, .bool false, .int .i64 0, .bool false] 0 w4).trans Vo.out
  have Vf2 : w5.heap[sf]? = some (.cells #[.int .i64 26, .int .i64 0, .int .i64 0, .int .i64 0, .int .i64 (-1), .int .i64 0, .bool false, .bool false, .int .i64 0, .bool false] 31) := hse ▸ heap_setCells [.int .i64 26, .int .i64 0, .int .i64 0, .int .i64 0, .int .i64 (-1), .int .i64 0, .bool false, .bool false, .int .i64 0, .bool false] w4 [] [.int .i64 0, .int .i64 0, .int .i64 0, .int .i64 0, .int .i64 0, .int .i64 0, .bool false, .bool false, .int .i64 0, .bool false] rfl Vf.out
  have hbb : Below _ _ w5 := hse ▸ below_setCells gef [.int .i64 26, .int .i64 0, .int .i64 0, .int .i64 0, .int .i64 (-1), .int .i64 0, .bool false, .bool false, .int .i64 0, .bool false] 0 w4 HB.out.1
  have hbs : w5.heap.size = w4.heap.size := by rw [← hse, size_setCells]
  replace Vo := Lib.hid Vo2
  clear Vo2
  replace Vf := Lib.hid Vf2
  clear Vf2
  replace HB := Lib.hid (And.intro hbb (show _ ≤ w5.heap.size by rw [hbs]; exact HB.out.2))
  clear hbb hbs hse
  obtain ⟨co0, co1, co2, co3, co4, co5, co6, co7, co8, co9, co10⟩ := row11 Vo.out
  obtain ⟨cf0, cf1, cf2, cf3, cf4, cf5, cf6, cf7, cf8, cf9⟩ := row10 Vf.out
  go_wp2_with fail
  refine (K0.out _).mono ?_
  rintro e w6 ⟨rfl, hb⟩
  clear pcf0 pcf1 pcf2 pcf3 pcf4 pcf5 pcf6 pcf7 pcf8 pcf9 pff0 pff1 pff2 pff3 pff4 pff5 pff6 pff7 pff8 pff9 hw5 co0 co1 co2 co3 co4 co5 co6 co7 co8 co9 co10 cf0 cf1 cf2 cf3 cf4 cf5 cf6 cf7 cf8 cf9
  replace Vo := Lib.hid (blk_below Vo.out hb (blk_lt Vo.out))
  replace Vf := Lib.hid (blk_below Vf.out hb (blk_lt Vf.out))
  replace HB := Lib.hid (And.intro (HB.out.1.trans (hb.mono HB.out.2)) (Nat.le_trans HB.out.2 hb.size))
  clear hb
  have lto := blk_lt Vo.out
  have ltf := blk_lt Vf.out
  have gq := HB.out.2
  obtain ⟨w7, hw7⟩ : ∃ W, (w6.alloc (.cells #[.bool false, .bool false, .bool false, .int .i64 0, .int .i64 0, .int .u64 0, .slice none 0 0] 39)) = W := ⟨_, rfl⟩
  have hb : Below w6.heap.size w6 w7 := hw7 ▸ ((Below.refl _ _).alloc (Nat.le_refl _) _)
  have hv0 : w7.heap[w6.heap.size]? = some (.cells #[.bool false, .bool false, .bool false, .int .i64 0, .int .i64 0, .int .u64 0, .slice none 0 0] 39) := by
    have h0 := heap_alloc_new w6 (.cells #[.bool false, .bool false, .bool false, .int .i64 0, .int .i64 0, .int .u64 0, .slice none 0 0] 39)
    rw [show w6.heap.size = w6.heap.size by simp [Nat.add_assoc]] at h0
    rw [← hw7]
    exact h0
  replace Vo := Lib.hid (blk_below Vo.out hb (blk_lt Vo.out))
  replace Vf := Lib.hid (blk_below Vf.out hb (blk_lt Vf.out))
  replace HB := Lib.hid (And.intro (HB.out.1.trans (hb.mono HB.out.2)) (Nat.le_trans HB.out.2 hb.size))
  have Va := Lib.hid hv0
  have neo_a := Nat.ne_of_lt lto
  have nef_a := Nat.ne_of_lt ltf
  have gea := gq
  generalize hsa : w6.heap.size = sa at *
  clear hb gq hv0 lto ltf
  obtain ⟨pco0, pco1, pco2, pco3, pco4, pco5, pco6, pco7, pco8, pco9, pco10⟩ := row11 Vo.out
  obtain ⟨pfo0, pfo1, pfo2, pfo3, pfo4, pfo5, pfo6, pfo7, pfo8, pfo9, pfo10⟩ := frz11 Vo.out
  obtain ⟨w8, hw8⟩ : ∃ W, (((((((((((w7.setCell ⟨w.heap.size, 0, none⟩ (.int .i64 1)).setCell ⟨w.heap.size, 1, none⟩ (.int .i64 1)).setCell ⟨w.heap.size, 2, none⟩ (.int .i64 0)).setCell ⟨w.heap.size, 3, none⟩ (.int .i64 0)).setCell ⟨w.heap.size, 4, none⟩ (.int .i64 0)).setCell ⟨w.heap.size, 5, none⟩ (.int .i64 0)).setCell ⟨w.heap.size, 6, none⟩ (.int .i64 0)).setCell ⟨w.heap.size, 7, none⟩ (.int .u32 0)).setCell ⟨w.heap.size, 8, none⟩ (.int .u32 0)).setCell ⟨w.heap.size, 9, none⟩ (.slice none 0 0)).setCell ⟨w.heap.size, 10, none⟩ (.slice none 0 0)) = W := ⟨_, rfl⟩
  have hse : w7.setCells (w.heap.size) 0 [.int .i64 1, .int .i64 1, .int .i64 0, .int .i64 0, .int .i64 0, .int .i64 0, .int .i64 0, .int .u32 0, .int .u32 0, .slice none 0 0, .slice none 0 0] = w8 := hw8
  have Vf2 : w8.heap[sf]? = some (.cells #[.int .i64 26, .int .i64 0, .int .i64 0, .int .i64 0, .int .i64 (-1), .int .i64 0, .bool false, .bool false, .int .i64 0, .bool false] 31) := hse ▸ (heap_setCells_ne neo_f.symm [.int .i64 1, .int .i64 1, .int .i64 0, .int .i64 0, .int .i64 0, .int .i64 0, .int .i64 0, .int .u32 0, .int .u32 0, .slice none 0 0, .slice none 0 0] 0 w7).trans Vf.out
  have Va2 : w8.heap[sa]? = some (.cells #[.bool false, .bool false, .bool false, .int .i64 0, .int .i64 0, .int .u64 0, .slice none 0 0] 39) := hse ▸ (heap_setCells_ne neo_a.symm [.int .i64 1, .int .i64 1, .int .i64 0, .int .i64 0, .int .i64 0, .int .i64 0, .int .i64 0, .int .u32 0, .int .u32 0, .slice none 0 0, .slice none 0 0] 0 w7).trans Va.out
  have Vo2 : w8.heap[w.heap.size]? = some (.cells #[.int .i64 1, .int .i64 1, .int .i64 0, .int .i64 0, .int .i64 0, .int .i64 0, .int .i64 0, .int .u32 0, .int .u32 0, .slice none 0 0, .slice none 0 0] 29) := hse ▸ heap_setCells [.int .i64 1, .int .i64 1, .int .i64 0, .int .i64 0, .int .i64 0, .int .i64 0, .int .i64 0, .int .u32 0, .int .u32 0, .slice none 0 0, .slice none 0 0] w7 [] [.int .i64 1, .int .i64 0, .int .i64 0, .int .i64 0, .int .i64 0, .int .i64 0, .int .i64 0, .int .u32 0, .int .u32 0, .slice none 0 0, .slice none 0 0] rfl Vo.out
  have hbb : Below _ _ w8 := hse ▸ below_setCells geo [.int .i64 1, .int .i64 1, .int .i64 0, .int .i64 0, .int .i64 0, .int .i64 0, .int .i64 0, .int .u32 0, .int .u32 0, .slice none 0 0, .slice none 0 0] 0 w7 HB.out.1
  have hbs : w8.heap.size = w7.heap.size := by rw [← hse, size_setCells]
  replace Vo := Lib.hid Vo2
  clear Vo2
  replace Vf := Lib.hid Vf2
  clear Vf2
  replace Va := Lib.hid Va2
  clear Va2
  replace HB := Lib.hid (And.intro hbb (show _ ≤ w8.heap.size by rw [hbs]; exact HB.out.2))
  clear hbb hbs hse
  obtain ⟨pcf0, pcf1, pcf2, pcf3, pcf4, pcf5, pcf6, pcf7, pcf8, pcf9⟩ := row10 Vf.out
  obtain ⟨pff0, pff1, pff2, pff3, pff4, pff5, pff6, pff7, pff8, pff9⟩ := frz10 Vf.out
  obtain ⟨w9, hw9⟩ : ∃ W, ((((((((((w8.setCell ⟨sf, 0, none⟩ (.int .i64 0)).setCell ⟨sf, 1, none⟩ (.int .i64 0)).setCell ⟨sf, 2, none⟩ (.int .i64 0)).setCell ⟨sf, 3, none⟩ (.int .i64 0)).setCell ⟨sf, 4, none⟩ (.int .i64 0)).setCell ⟨sf, 5, none⟩ (.int .i64 0)).setCell ⟨sf, 6, none⟩ (.bool false)).setCell ⟨sf, 7, none⟩ (.bool false)).setCell ⟨sf, 8, none⟩ (.int .i64 0)).setCell ⟨sf, 9, none⟩ (.bool false)) = W := ⟨_, rfl⟩
  have hse : w8.setCells (sf) 0 [.int .i64 0, .int .i64 0, .int .i64 0, .int .i64 0, .int .i64 0, .int .i64 0, .bool false, .bool false, .int .i64 0, .bool false] = w9 := hw9
  have Vo2 : w9.heap[w.heap.size]? = some (.cells #[.int .i64 1, .int .i64 1, .int .i64 0, .int .i64 0, .int .i64 0, .int .i64 0, .int .i64 0, .int .u32 0, .int .u32 0, .slice none 0 0, .slice none 0 0] 29) := hse ▸ (heap_setCells_ne neo_f [.int .i64 0, .int .i64 0, .int .i64 0, .int .i64 0, .int .i64 0, .int .i64 0, .bool false, .bool false, .int .i64 0, .bool false] 0 w8).trans Vo.out
  have Va2 : w9.heap[sa]? = some (.cells #[.bool false, .bool false, .bool false, .int .i64 0, .int .i64 0, .int .u64 0, .slice none 0 0] 39) := hse ▸ (heap_setCells_ne nef_a.symm [.int .i64 0, .int .i64 0, .int .i64 0, .int .i64 0, .int .i64 0, .int .i64 0, .bool false, .bool false, .int .i64 0, .bool false] 0 w8).trans Va.out
  have Vf2 : w9.heap[sf]? = some (.cells #[.int .i64 0, .int .i64 0, .int .i64 0, .int .i64 0, .int .i64 0, .int .i64 0, .bool false, .bool false, .int .i64 0, .bool false] 31) := hse ▸ heap_setCells [.int .i64 0, .int .i64 0, .int .i64 0, .int .i64 0, .int .i64 0, .int .i64 0, .bool false, .bool false, .int .i64 0, .bool false] w8 [] [.int .i64 26, .int .i64 0, .int .i64 0, .int .i64 0, .int .i64 (-1), .int .i64 0, .bool false, .bool false, .int .i64 0, .bool false] rfl Vf.out
  have hbb : Below _ _ w9 := hse ▸ below_setCells gef [.int .i64 0, .int .i64 0, .int .i64 0, .int .i64 0, .int .i64 0, .int .i64 0, .bool false, .bool false, .int .i64 0, .bool false] 0 w8 HB.out.1
  have hbs : w9.heap.size = w8.heap.size := by rw [← hse, size_setCells]
  replace Vo := Lib.hid Vo2
  clear Vo2
  replace Vf := Lib.hid Vf2
  clear Vf2
  replace Va := Lib.hid Va2
  clear Va2
  replace HB := Lib.hid (And.intro hbb (show _ ≤ w9.heap.size by rw [hbs]; exact HB.out.2))
  clear hbb hbs hse
  obtain ⟨pca0, pca1, pca2, pca3, pca4, pca5, pca6⟩ := row7 Va.out
  obtain ⟨pfa0, pfa1, pfa2, pfa3, pfa4, pfa5, pfa6⟩ := frz7 Va.out
  obtain ⟨w10, hw10⟩ : ∃ W, (((((((w9.setCell ⟨sa, 0, none⟩ (.bool true)).setCell ⟨sa, 1, none⟩ (.bool false)).setCell ⟨sa, 2, none⟩ (.bool false)).setCell ⟨sa, 3, none⟩ (.int .i64 0)).setCell ⟨sa, 4, none⟩ (.int .i64 0)).setCell ⟨sa, 5, none⟩ (.int .u64 0)).setCell ⟨sa, 6, none⟩ (.slice none 0 0)) = W := ⟨_, rfl⟩
  have hse : w9.setCells (sa) 0 [.bool true, .bool false, .bool false, .int .i64 0, .int .i64 0, .int .u64 0, .slice none 0 0] = w10 := hw10
  have Vo2 : w10.heap[w.heap.size]? = some (.cells #[.int .i64 1, .int .i64 1, .int .i64 0, .int .i64 0, .int .i64 0, .int .i64 0, .int .i64 0, .int .u32 0, .int .u32 0, .slice none 0 0, .slice none 0 0] 29) := hse ▸ (heap_setCells_ne neo_a [.bool true, .bool false, .bool false, .int .i64 0, .int .i64 0, .int .u64 0, .slice none 0 0] 0 w9).trans Vo.out
  have Vf2 : w10.heap[sf]? = some (.cells #[.int .i64 0, .int .i64 0, .int .i64 0, .int .i64 0, .int .i64 0, .int .i64 0, .bool false, .bool false, .int .i64 0, .bool false] 31) := hse ▸ (heap_setCells_ne nef_a [.bool true, .bool false, .bool false, .int .i64 0, .int .i64 0, .int .u64 0, .slice none 0 0] 0 w9).trans Vf.out
  have Va2 : w10.heap[sa]? = some (.cells #[.bool true, .bool false, .bool false, .int .i64 0, .int .i64 0, .int .u64 0, .slice none 0 0] 39) := hse ▸ heap_setCells [.bool true, .bool false, .bool false, .int .i64 0, .int .i64 0, .int .u64 0, .slice none 0 0] w9 [] [.bool false, .bool false, .bool false, .int .i64 0, .int .i64 0, .int .u64 0, .slice none 0 0] rfl Va.out
  have hbb : Below _ _ w10 := hse ▸ below_setCells gea [.bool true, .bool false, .bool false, .int .i64 0, .int .i64 0, .int .u64 0, .slice none 0 0] 0 w9 HB.out.1
  have hbs : w10.heap.size = w9.heap.size := by rw [← hse, size_setCells]
  replace Vo := Lib.hid Vo2
  clear Vo2
  replace Vf := Lib.hid Vf2
  clear Vf2
  replace Va := Lib.hid Va2
  clear Va2
  replace HB := Lib.hid (And.intro hbb (show _ ≤ w10.heap.size by rw [hbs]; exact HB.out.2))
  clear hbb hbs hse
  obtain ⟨co0, co1, co2, co3, co4, co5, co6, co7, co8, co9, co10⟩ := row11 Vo.out
  obtain ⟨cf0, cf1, cf2, cf3, cf4, cf5, cf6, cf7, cf8, cf9⟩ := row10 Vf.out
  obtain ⟨ca0, ca1, ca2, ca3, ca4, ca5, ca6⟩ := row7 Va.out
  go_wp2_with fail
  refine (LK.out _).mono ?_
  rintro e w11 ⟨rfl, hb⟩
  clear pco0 pco1 pco2 pco3 pco4 pco5 pco6 pco7 pco8 pco9 pco10 pfo0 pfo1 pfo2 pfo3 pfo4 pfo5 pfo6 pfo7 pfo8 pfo9 pfo10 hw8 pcf0 pcf1 pcf2 pcf3 pcf4 pcf5 pcf6 pcf7 pcf8 pcf9 pff0 pff1 pff2 pff3 pff4 pff5 pff6 pff7 pff8 pff9 hw9 pca0 pca1 pca2 pca3 pca4 pca5 pca6 pfa0 pfa1 pfa2 pfa3 pfa4 pfa5 pfa6 hw10 co0 co1 co2 co3 co4 co5 co6 co7 co8 co9 co10 cf0 cf1 cf2 cf3 cf4 cf5 cf6 cf7 cf8 cf9 ca0 ca1 ca2 ca3 ca4 ca5 ca6
  replace Vo := Lib.hid (blk_below Vo.out hb (blk_lt Vo.out))
  replace Vf := Lib.hid (blk_below Vf.out hb (blk_lt Vf.out))
  replace Va := Lib.hid (blk_below Va.out hb (blk_lt Va.out))
  replace HB := Lib.hid (And.intro (HB.out.1.trans (hb.mono HB.out.2)) (Nat.le_trans HB.out.2 hb.size))
  clear hb
  obtain ⟨co0, co1, co2, co3, co4, co5, co6, co7, co8, co9, co10⟩ := row11 Vo.out
  obtain ⟨cf0, cf1, cf2, cf3, cf4, cf5, cf6, cf7, cf8, cf9⟩ := row10 Vf.out
  obtain ⟨ca0, ca1, ca2, ca3, ca4, ca5, ca6⟩ := row7 Va.out
  go_wp2_with fail
  refine (N1.out _).mono ?_
  rintro e w12 ⟨rfl, hb⟩
  clear co0 co1 co2 co3 co4 co5 co6 co7 co8 co9 co10 cf0 cf1 cf2 cf3 cf4 cf5 cf6 cf7 cf8 cf9 ca0 ca1 ca2 ca3 ca4 ca5 ca6
  replace Vo := Lib.hid (blk_below Vo.out hb (blk_lt Vo.out))
  replace Vf := Lib.hid (blk_below Vf.out hb (blk_lt Vf.out))
  replace Va := Lib.hid (blk_below Va.out hb (blk_lt Va.out))
  replace HB := Lib.hid (And.intro (HB.out.1.trans (hb.mono HB.out.2)) (Nat.le_trans HB.out.2 hb.size))
  clear hb
  have lto := blk_lt Vo.out
  have ltf := blk_lt Vf.out
  have lta := blk_lt Va.out
  have gq := HB.out.2
  obtain ⟨w13, hw13⟩ : ∃ W, (w12.alloc (.cells #[.int .i64 0, .int .i64 0, .int .i64 0, .int .i64 0, .int .i64 0, .int .i64 0, .bool false, .bool false, .int .i64 0, .bool false] 31)) = W := ⟨_, rfl⟩
  have hb : Below w12.heap.size w12 w13 := hw13 ▸ ((Below.refl _ _).alloc (Nat.le_refl _) _)
  have hv0 : w13.heap[w12.heap.size]? = some (.cells #[.int .i64 0, .int .i64 0, .int .i64 0, .int .i64 0, .int .i64 0, .int .i64 0, .bool false, .bool false, .int .i64 0, .bool false] 31) := by
    have h0 := heap_alloc_new w12 (.cells #[.int .i64 0, .int .i64 0, .int .i64 0, .int .i64 0, .int .i64 0, .int .i64 0, .bool false, .bool false, .int .i64 0, .bool false] 31)
    rw [show w12.heap.size = w12.heap.size by simp [Nat.add_assoc]] at h0
    rw [← hw13]
    exact h0
  replace Vo := Lib.hid (blk_below Vo.out hb (blk_lt Vo.out))
  replace Vf := Lib.hid (blk_below Vf.out hb (blk_lt Vf.out))
  replace Va := Lib.hid (blk_below Va.out hb (blk_lt Va.out))
  replace HB := Lib.hid (And.intro (HB.out.1.trans (hb.mono HB.out.2)) (Nat.le_trans HB.out.2 hb.size))
  have Vg := Lib.hid hv0
  have neo_g := Nat.ne_of_lt lto
  have nef_g := Nat.ne_of_lt ltf
  have nea_g := Nat.ne_of_lt lta
  have geg := gq
  generalize hsg : w12.heap.size = sg at *
  clear hb gq hv0 lto ltf lta
  obtain ⟨pcg0, pcg1, pcg2, pcg3, pcg4, pcg5, pcg6, pcg7, pcg8, pcg9⟩ := row10 Vg.out
  obtain ⟨pfg0, pfg1, pfg2, pfg3, pfg4, pfg5, pfg6, pfg7, pfg8, pfg9⟩ := frz10 Vg.out
  obtain ⟨w14, hw14⟩ : ∃ W, ((((((((((w13.setCell ⟨sg, 0, none⟩ (.int .i64 26)).setCell ⟨sg, 1, none⟩ (.int .i64 0)).setCell ⟨sg, 2, none⟩ (.int .i64 0)).setCell ⟨sg, 3, none⟩ (.int .i64 0)).setCell ⟨sg, 4, none⟩ (.int .i64 (-1))).setCell ⟨sg, 5, none⟩ (.int .i64 0)).setCell ⟨sg, 6, none⟩ (.bool false)).setCell ⟨sg, 7, none⟩ (.bool false)).setCell ⟨sg, 8, none⟩ (.int .i64 0)).setCell ⟨sg, 9, none⟩ (.bool false)) = W := ⟨_, rfl⟩
  have hse : w13.setCells (sg) 0 [.int .i64 26, .int .i64 0, .int .i64 0, .int .i64 0, .int .i64 (-1), .int .i64 0, .bool false, .bool false, .int .i64 0, .bool false] = w14 := hw14
  have Vo2 : w14.heap[w.heap.size]? = some (.cells #[.int .i64 1, .int .i64 1, .int .i64 0, .int .i64 0, .int .i64 0, .int .i64 0, .int .i64 0, .int .u32 0, .int .u32 0, .slice none 0 0, .slice none 0 0] 29) := hse ▸ (heap_setCells_ne neo_g [.int .i64 26, .int .i64 0, .int .i64 0, .int .i64 0, .int .i64 (-1), .int .i64 0, .bool false, .bool false, .int .i64 0, .bool false] 0 w13).trans Vo.out
  have Vf2 : w14.heap[sf]? = some (.cells #[.int .i64 0, .int .i64 0, .int .i64 0, .int .i64 0, .int .i64 0, .int .i64 0, .bool false, .bool false, .int .i64 0, .bool false] 31) := hse ▸ (heap_setCells_ne nef_g [.int .i64 26, .int .i64 0, .int .i64 0, .int .i64 0, .int .i64 (-1), .int .i64 0, .bool false, .bool false, .int .i64 0, .bool false] 0 w13).trans Vf.out
  have Va2 : w14.heap[sa]? = some (.cells #[.bool true, .bool false, .bool false, .int .i64 0, .int .i64 0, .int .u64 0, .slice none 0 0] 39) := hse ▸ (heap_setCells_ne nea_g [.int .i64 26, .int .i64 0, .int .i64 0, .int .i64 0, .int .i64 (-1), .int .i64 0, .bool false, .bool false, .int .i64 0, .bool false] 0 w13).trans Va.out
  have Vg2 : w14.heap[sg]? = some (.cells #[.int .i64 26, .int .i64 0, .int .i64 0, .int .i64 0, .int .i64 (-1), .int .i64 0, .bool false, .bool false, .int .i64 0, .bool false] 31) := hse ▸ heap_setCells [.int .i64 26, .int .i64 0, .int .i64 0, .int .i64 0, .int .i64 (-1), .int .i64 0, .bool false, .bool false, .int .i64 0, .bool false] w13 [] [.int .i64 0, .int .i64 0, .int .i64 0, .int .i64 0, .int .i64 0, .int .i64 0, .bool false, .bool false, .int .i64 0, .bool false] rfl Vg.out
  have hbb : Below _ _ w14 := hse ▸ below_setCells geg [.int .i64 26, .int .i64 0, .int .i64 0, .int .i64 0, .int .i64 (-1), .int .i64 0, .bool false, .bool false, .int .i64 0, .bool false] 0 w13 HB.out.1
  have hbs : w14.heap.size = w13.heap.size := by rw [← hse, size_setCells]
  replace Vo := Lib.hid Vo2
  clear Vo2
  replace Vf := Lib.hid Vf2
  clear Vf2
  replace Va := Lib.hid Va2
  clear Va2
  replace Vg := Lib.hid Vg2
  clear Vg2
  replace HB := Lib.hid (And.intro hbb (show _ ≤ w14.heap.size by rw [hbs]; exact HB.out.2))
  clear hbb hbs hse
  go_wp2
  clear pcg0 pcg1 pcg2 pcg3 pcg4 pcg5 pcg6 pcg7 pcg8 pcg9 pfg0 pfg1 pfg2 pfg3 pfg4 pfg5 pfg6 pfg7 pfg8 pfg9 hw14
  go_loopw [5] (fun iv wr => (iv = .int .i64 0 ∧ Hid (Below w.heap.size w wr ∧ w.heap.size ≤ wr.heap.size) ∧ Hid (wr.heap[w.heap.size]? = some (.cells #[.int .i64 1, .int .i64 1, .int .i64 0, .int .i64 0, .int .i64 0, .int .i64 0, .int .i64 0, .int .u32 0, .int .u32 0, .slice none 0 0, .slice none 0 0] 29)) ∧ Hid (wr.heap[sf]? = some (.cells #[.int .i64 0, .int .i64 0, .int .i64 0, .int .i64 0, .int .i64 0, .int .i64 0, .bool false, .bool false, .int .i64 0, .bool false] 31)) ∧ Hid (wr.heap[sa]? = some (.cells #[.bool true, .bool false, .bool false, .int .i64 0, .int .i64 0, .int .u64 0, .slice none 0 0] 39)) ∧ Hid (wr.heap[sg]? = some (.cells #[.int .i64 26, .int .i64 0, .int .i64 0, .int .i64 0, .int .i64 (-1), .int .i64 0, .bool false, .bool false, .int .i64 0, .bool false] 31))) ∨ (iv = .int .i64 1 ∧ Hid (Below w.heap.size w wr ∧ w.heap.size ≤ wr.heap.size) ∧ Hid (wr.heap[w.heap.size]? = some (.cells #[.int .i64 1, .int .i64 1, .int .i64 0, .int .i64 0, .int .i64 0, .int .i64 0, .int .i64 0, .int .u32 0, .int .u32 0, .slice none 0 0, .slice none 0 0] 29)) ∧ Hid (wr.heap[sf]? = some (.cells #[.int .i64 0, .int .i64 0, .int .i64 0, .int .i64 0, .int .i64 0, .int .i64 0, .bool false, .bool false, .int .i64 0, .bool false] 31)) ∧ Hid (wr.heap[sa]? = some (.cells #[.bool false, .bool false, .bool false, .int .i64 0, .int .i64 0, .int .u64 0, .slice none 0 0] 39)) ∧ Hid (wr.heap[sg]? = some (.cells #[.int .i64 26, .int .i64 0, .int .i64 1, .int .i64 0, .int .i64 (-1), .int .i64 0, .bool false, .bool false, .int .i64 0, .bool false] 31))) ∨ (iv = .int .i64 2 ∧ Hid (Below w.heap.size w wr ∧ w.heap.size ≤ wr.heap.size) ∧ Hid (wr.heap[w.heap.size]? = some (.cells #[.int .i64 1, .int .i64 1, .int .i64 0, .int .i64 0, .int .i64 0, .int .i64 0, .int .i64 0, .int .u32 0, .int .u32 0, .slice none 0 0, .slice none 0 0] 29)) ∧ Hid (wr.heap[sf]? = some (.cells #[.int .i64 0, .int .i64 0, .int .i64 0, .int .i64 0, .int .i64 0, .int .i64 0, .bool false, .bool false, .int .i64 0, .bool false] 31)) ∧ Hid (wr.heap[sa]? = some (.cells #[.bool false, .bool false, .bool false, .int .i64 0, .int .i64 0, .int .u64 0, .slice none 0 0] 39)) ∧ Hid (wr.heap[sg]? = some (.cells #[.int .i64 26, .int .i64 0, .int .i64 2, .int .i64 1, .int .i64 (-1), .int .i64 0, .bool false, .bool false, .int .i64 0, .bool false] 31))) ∨ (iv = .int .i64 3 ∧ Hid (Below w.heap.size w wr ∧ w.heap.size ≤ wr.heap.size) ∧ Hid (wr.heap[w.heap.size]? = some (.cells #[.int .i64 1, .int .i64 9, .int .i64 0, .int .i64 0, .int .i64 0, .int .i64 0, .int .i64 0, .int .u32 0, .int .u32 0, .slice none 0 0, .slice none 0 0] 29)) ∧ Hid (wr.heap[sf]? = some (.cells #[.int .i64 0, .int .i64 0, .int .i64 0, .int .i64 0, .int .i64 0, .int .i64 0, .bool false, .bool false, .int .i64 0, .bool false] 31)) ∧ Hid (wr.heap[sa]? = some (.cells #[.bool false, .bool false, .bool false, .int .i64 0, .int .i64 0, .int .u64 0, .slice none 0 0] 39)) ∧ Hid (wr.heap[sg]? = some (.cells #[.int .i64 26, .int .i64 0, .int .i64 3, .int .i64 1, .int .i64 5, .int .i64 0, .bool false, .bool false, .int .i64 2, .bool false] 31)))) (fun iv _ => 3 - (intOf iv).toNat)
  case atStart => exact Or.inl ⟨rfl, HB, Vo, Vf, Va, Vg⟩
  case round =>
    clear HB Vo Vf Va Vg
    rcases hrel with ⟨rfl, HB, Vo, Vf, Va, Vg⟩ | ⟨rfl, HB, Vo, Vf, Va, Vg⟩ | ⟨rfl, HB, Vo, Vf, Va, Vg⟩ | ⟨rfl, HB, Vo, Vf, Va, Vg⟩
    · obtain ⟨co0, co1, co2, co3, co4, co5, co6, co7, co8, co9, co10⟩ := row11 Vo.out
      obtain ⟨cg0, cg1, cg2, cg3, cg4, cg5, cg6, cg7, cg8, cg9⟩ := row10 Vg.out
      go_wp2_with fail
      refine (K1.out _).mono ?_
      rintro e w15 ⟨rfl, hb⟩
      clear co0 co1 co2 co3 co4 co5 co6 co7 co8 co9 co10 cg0 cg1 cg2 cg3 cg4 cg5 cg6 cg7 cg8 cg9
      replace Vo := Lib.hid (blk_below Vo.out hb (blk_lt Vo.out))
      replace Vf := Lib.hid (blk_below Vf.out hb (blk_lt Vf.out))
      replace Va := Lib.hid (blk_below Va.out hb (blk_lt Va.out))
      replace Vg := Lib.hid (blk_below Vg.out hb (blk_lt Vg.out))
      replace HB := Lib.hid (And.intro (HB.out.1.trans (hb.mono HB.out.2)) (Nat.le_trans HB.out.2 hb.size))
      clear hb
      obtain ⟨pco0, pco1, pco2, pco3, pco4, pco5, pco6, pco7, pco8, pco9, pco10⟩ := row11 Vo.out
      obtain ⟨pfo0, pfo1, pfo2, pfo3, pfo4, pfo5, pfo6, pfo7, pfo8, pfo9, pfo10⟩ := frz11 Vo.out
      obtain ⟨w16, hw16⟩ : ∃ W, (((((((((((w15.setCell ⟨w.heap.size, 0, none⟩ (.int .i64 1)).setCell ⟨w.heap.size, 1, none⟩ (.int .i64 1)).setCell ⟨w.heap.size, 2, none⟩ (.int .i64 0)).setCell ⟨w.heap.size, 3, none⟩ (.int .i64 0)).setCell ⟨w.heap.size, 4, none⟩ (.int .i64 0)).setCell ⟨w.heap.size, 5, none⟩ (.int .i64 0)).setCell ⟨w.heap.size, 6, none⟩ (.int .i64 0)).setCell ⟨w.heap.size, 7, none⟩ (.int .u32 0)).setCell ⟨w.heap.size, 8, none⟩ (.int .u32 0)).setCell ⟨w.heap.size, 9, none⟩ (.slice none 0 0)).setCell ⟨w.heap.size, 10, none⟩ (.slice none 0 0)) = W := ⟨_, rfl⟩
      have hse : w15.setCells (w.heap.size) 0 [.int .i64 1, .int .i64 1, .int .i64 0, .int .i64 0, .int .i64 0, .int .i64 0, .int .i64 0, .int .u32 0, .int .u32 0, .slice none 0 0, .slice none 0 0] = w16 := hw16
      have Vf2 : w16.heap[sf]? = some (.cells #[.int .i64 0, .int .i64 0, .int .i64 0, .int .i64 0, .int .i64 0, .int .i64 0, .bool false, .bool false, .int .i64 0, .bool false] 31) := hse ▸ (heap_setCells_ne neo_f.symm [.int .i64 1, .int .i64 1, .int .i64 0, .int .i64 0, .int .i64 0, .int .i64 0, .int .i64 0, .int .u32 0, .int .u32 0, .slice none 0 0, .slice none 0 0] 0 w15).trans Vf.out
      have Va2 : w16.heap[sa]? = some (.cells #[.bool true, .bool false, .bool false, .int .i64 0, .int .i64 0, .int .u64 0, .slice none 0 0] 39) := hse ▸ (heap_setCells_ne neo_a.symm [.int .i64 1, .int .i64 1, .int .i64 0, .int .i64 0, .int .i64 0, .int .i64 0, .int .i64 0, .int .u32 0, .int .u32 0, .slice none 0 0, .slice none 0 0] 0 w15).trans Va.out
      have Vg2 : w16.heap[sg]? = some (.cells #[.int .i64 26, .int .i64 0, .int .i64 0, .int .i64 0, .int .i64 (-1), .int .i64 0, .bool false, .bool false, .int .i64 0, .bool false] 31) := hse ▸ (heap_setCells_ne neo_g.symm [.int .i64 1, .int .i64 1, .int .i64 0, .int .i64 0, .int .i64 0, .int .i64 0, .int .i64 0, .int .u32 0, .int .u32 0, .slice none 0 0, .slice none 0 0] 0 w15).trans Vg.out
      have Vo2 : w16.heap[w.heap.size]? = some (.cells #[.int .i64 1, .int .i64 1, .int .i64 0, .int .i64 0, .int .i64 0, .int .i64 0, .int .i64 0, .int .u32 0, .int .u32 0, .slice none 0 0, .slice none 0 0] 29) := hse ▸ heap_setCells [.int .i64 1, .int .i64 1, .int .i64 0, .int .i64 0, .int .i64 0, .int .i64 0, .int .i64 0, .int .u32 0, .int .u32 0, .slice none 0 0, .slice none 0 0] w15 [] [.int .i64 1, .int .i64 1, .int .i64 0, .int .i64 0, .int .i64 0, .int .i64 0, .int .i64 0, .int .u32 0, .int .u32 0, .slice none 0 0, .slice none 0 0] rfl Vo.out
      have hbb : Below _ _ w16 := hse ▸ below_setCells geo [.int .i64 1, .int .i64 1, .int .i64 0, .int .i64 0, .int .i64 0, .int .i64 0, .int .i64 0, .int .u32 0, .int .u32 0, .slice none 0 0, .slice none 0 0] 0 w15 HB.out.1
      have hbs : w16.heap.size = w15.heap.size := by rw [← hse, size_setCells]
      replace Vo := Lib.hid Vo2
      clear Vo2
      replace Vf := Lib.hid Vf2
      clear Vf2
      replace Va := Lib.hid Va2
      clear Va2
      replace Vg := Lib.hid Vg2
      clear Vg2
      replace HB := Lib.hid (And.intro hbb (show _ ≤ w16.heap.size by rw [hbs]; exact HB.out.2))
      clear hbb hbs hse
      obtain ⟨pcg0, pcg1, pcg2, pcg3, pcg4, pcg5, pcg6, pcg7, pcg8, pcg9⟩ := row10 Vg.out
      obtain ⟨pfg0, pfg1, pfg2, pfg3, pfg4, pfg5, pfg6, pfg7, pfg8, pfg9⟩ := frz10 Vg.out
      obtain ⟨w17, hw17⟩ : ∃ W, ((((((((((w16.setCell ⟨sg, 0, none⟩ (.int .i64 26)).setCell ⟨sg, 1, none⟩ (.int .i64 0)).setCell ⟨sg, 2, none⟩ (.int .i64 1)).setCell ⟨sg, 3, none⟩ (.int .i64 0)).setCell ⟨sg, 4, none⟩ (.int .i64 (-1))).setCell ⟨sg, 5, none⟩ (.int .i64 0)).setCell ⟨sg, 6, none⟩ (.bool false)).setCell ⟨sg, 7, none⟩ (.bool false)).setCell ⟨sg, 8, none⟩ (.int .i64 0)).setCell ⟨sg, 9, none⟩ (.bool false)) = W := ⟨_, rfl⟩
      have hse : w16.setCells (sg) 0 [.int .i64 26, .int .i64 0, .int .i64 1, .int .i64 0, .int .i64 (-1), .int .i64 0, .bool false, .bool false, .int .i64 0, .bool false] = w17 := hw17
      have Vo2 : w17.heap[w.heap.size]? = some (.cells #[.int .i64 1, .int .i64 1, .int .i64 0, .int .i64 0, .int .i64 0, .int .i64 0, .int .i64 0, .int .u32 0, .int .u32 0, .slice none 0 0, .slice none 0 0] 29) := hse ▸ (heap_setCells_ne neo_g [.int .i64 26, .int .i64 0, .int .i64 1, .int .i64 0, .int .i64 (-1), .int .i64 0, .bool false, .bool false, .int .i64 0, .bool false] 0 w16).trans Vo.out
      have Vf2 : w17.heap[sf]? = some (.cells #[.int .i64 0, .int .i64 0, .int .i64 0, .int .i64 0, .int .i64 0, .int .i64 0, .bool false, .bool false, .int .i64 0, .bool false] 31) := hse ▸ (heap_setCells_ne nef_g [.int .i64 26, .int .i64 0, .int .i64 1, .int .i64 0, .int .i64 (-1), .int .i64 0, .bool false, .bool false, .int .i64 0, .bool false] 0 w16).trans Vf.out
      have Va2 : w17.heap[sa]? = some (.cells #[.bool true, .bool false, .bool false, .int .i64 0, .int .i64 0, .int .u64 0, .slice none 0 0] 39) := hse ▸ (heap_setCells_ne nea_g [.int .i64 26, .int .i64 0, .int .i64 1, .int .i64 0, .int .i64 (-1), .int .i64 0, .bool false, .bool false, .int .i64 0, .bool false] 0 w16).trans Va.out
      have Vg2 : w17.heap[sg]? = some (.cells #[.int .i64 26, .int .i64 0, .int .i64 1, .int .i64 0, .int .i64 (-1), .int .i64 0, .bool false, .bool false, .int .i64 0, .bool false] 31) := hse ▸ heap_setCells [.int .i64 26, .int .i64 0, .int .i64 1, .int .i64 0, .int .i64 (-1), .int .i64 0, .bool false, .bool false, .int .i64 0, .bool false] w16 [] [.int .i64 26, .int .i64 0, .int .i64 0, .int .i64 0, .int .i64 (-1), .int .i64 0, .bool false, .bool false, .int .i64 0, .bool false] rfl Vg.out
      have hbb : Below _ _ w17 := hse ▸ below_setCells geg [.int .i64 26, .int .i64 0, .int .i64 1, .int .i64 0, .int .i64 (-1), .int .i64 0, .bool false, .bool false, .int .i64 0, .bool false] 0 w16 HB.out.1
      have hbs : w17.heap.size = w16.heap.size := by rw [← hse, size_setCells]
      replace Vo := Lib.hid Vo2
      clear Vo2
      replace Vf := Lib.hid Vf2
      clear Vf2
      replace Va := Lib.hid Va2
      clear Va2
      replace Vg := Lib.hid Vg2
      clear Vg2
      replace HB := Lib.hid (And.intro hbb (show _ ≤ w17.heap.size by rw [hbs]; exact HB.out.2))
      clear hbb hbs hse
      obtain ⟨pca0, pca1, pca2, pca3, pca4, pca5, pca6⟩ := row7 Va.out
      obtain ⟨pfa0, pfa1, pfa2, pfa3, pfa4, pfa5, pfa6⟩ := frz7 Va.out
      obtain ⟨w18, hw18⟩ : ∃ W, (((((((w17.setCell ⟨sa, 0, none⟩ (.bool false)).setCell ⟨sa, 1, none⟩ (.bool false)).setCell ⟨sa, 2, none⟩ (.bool false)).setCell ⟨sa, 3, none⟩ (.int .i64 0)).setCell ⟨sa, 4, none⟩ (.int .i64 0)).setCell ⟨sa, 5, none⟩ (.int .u64 0)).setCell ⟨sa, 6, none⟩ (.slice none 0 0)) = W := ⟨_, rfl⟩
      have hse : w17.setCells (sa) 0 [.bool false, .bool false, .bool false, .int .i64 0, .int .i64 0, .int .u64 0, .slice none 0 0] = w18 := hw18
      have Vo2 : w18.heap[w.heap.size]? = some (.cells #[.int .i64 1, .int .i64 1, .int .i64 0, .int .i64 0, .int .i64 0, .int .i64 0, .int .i64 0, .int .u32 0, .int .u32 0, .slice none 0 0, .slice none 0 0] 29) := hse ▸ (heap_setCells_ne neo_a [.bool false, .bool false, .bool false, .int .i64 0, .int .i64 0, .int .u64 0, .slice none 0 0] 0 w17).trans Vo.out
      have Vf2 : w18.heap[sf]? = some (.cells #[.int .i64 0, .int .i64 0, .int .i64 0, .int .i64 0, .int .i64 0, .int .i64 0, .bool false, .bool false, .int .i64 0, .bool false] 31) := hse ▸ (heap_setCells_ne nef_a [.bool false, .bool false, .bool false, .int .i64 0, .int .i64 0, .int .u64 0, .slice none 0 0] 0 w17).trans Vf.out
      have Vg2 : w18.heap[sg]? = some (.cells #[.int .i64 26, .int .i64 0, .int .i64 1, .int .i64 0, .int .i64 (-1), .int .i64 0, .bool false, .bool false, .int .i64 0, .bool false] 31) := hse ▸ (heap_setCells_ne nea_g.symm [.bool false, .bool false, .bool false, .int .i64 0, .int .i64 0, .int .u64 0, .slice none 0 0] 0 w17).trans Vg.out
      have Va2 : w18.heap[sa]? = some (.cells #[.bool false, .bool false, .bool false, .int .i64 0, .int .i64 0, .int .u64 0, .slice none 0 0] 39) := hse ▸ heap_setCells [.bool false, .bool false, .bool false, .int .i64 0, .int .i64 0, .int .u64 0, .slice none 0 0] w17 [] [.bool true, .bool false, .bool false, .int .i64 0, .int .i64 0, .int .u64 0, .slice none 0 0] rfl Va.out
      have hbb : Below _ _ w18 := hse ▸ below_setCells gea [.bool false, .bool false, .bool false, .int .i64 0, .int .i64 0, .int .u64 0, .slice none 0 0] 0 w17 HB.out.1
      have hbs : w18.heap.size = w17.heap.size := by rw [← hse, size_setCells]
      replace Vo := Lib.hid Vo2
      clear Vo2
      replace Vf := Lib.hid Vf2
      clear Vf2
      replace Va := Lib.hid Va2
      clear Va2
      replace Vg := Lib.hid Vg2
      clear Vg2
      replace HB := Lib.hid (And.intro hbb (show _ ≤ w18.heap.size by rw [hbs]; exact HB.out.2))
      clear hbb hbs hse
      go_wp2
      go_roundw
      case rel => exact Or.inr (Or.inl ⟨by go_num, HB, Vo, Vf, Va, Vg⟩)
      case measure => simp [intOf]
    · obtain ⟨co0, co1, co2, co3, co4, co5, co6, co7, co8, co9, co10⟩ := row11 Vo.out
      obtain ⟨cg0, cg1, cg2, cg3, cg4, cg5, cg6, cg7, cg8, cg9⟩ := row10 Vg.out
      go_wp2_with fail
      refine (K2.out _).mono ?_
      rintro e w15 ⟨rfl, hb⟩
      clear co0 co1 co2 co3 co4 co5 co6 co7 co8 co9 co10 cg0 cg1 cg2 cg3 cg4 cg5 cg6 cg7 cg8 cg9
      replace Vo := Lib.hid (blk_below Vo.out hb (blk_lt Vo.out))
      replace Vf := Lib.hid (blk_below Vf.out hb (blk_lt Vf.out))
      replace Va := Lib.hid (blk_below Va.out hb (blk_lt Va.out))
      replace Vg := Lib.hid (blk_below Vg.out hb (blk_lt Vg.out))
      replace HB := Lib.hid (And.intro (HB.out.1.trans (hb.mono HB.out.2)) (Nat.le_trans HB.out.2 hb.size))
      clear hb
      obtain ⟨pco0, pco1, pco2, pco3, pco4, pco5, pco6, pco7, pco8, pco9, pco10⟩ := row11 Vo.out
      obtain ⟨pfo0, pfo1, pfo2, pfo3, pfo4, pfo5, pfo6, pfo7, pfo8, pfo9, pfo10⟩ := frz11 Vo.out
      obtain ⟨w16, hw16⟩ : ∃ W, (((((((((((w15.setCell ⟨w.heap.size, 0, none⟩ (.int .i64 1)).setCell ⟨w.heap.size, 1, none⟩ (.int .i64 1)).setCell ⟨w.heap.size, 2, none⟩ (.int .i64 0)).setCell ⟨w.heap.size, 3, none⟩ (.int .i64 0)).setCell ⟨w.heap.size, 4, none⟩ (.int .i64 0)).setCell ⟨w.heap.size, 5, none⟩ (.int .i64 0)).setCell ⟨w.heap.size, 6, none⟩ (.int .i64 0)).setCell ⟨w.heap.size, 7, none⟩ (.int .u32 0)).setCell ⟨w.heap.size, 8, none⟩ (.int .u32 0)).setCell ⟨w.heap.size, 9, none⟩ (.slice none 0 0)).setCell ⟨w.heap.size, 10, none⟩ (.slice none 0 0)) = W := ⟨_, rfl⟩
      have hse : w15.setCells (w.heap.size) 0 [.int .i64 1, .int .i64 1, .int .i64 0, .int .i64 0, .int .i64 0, .int .i64 0, .int .i64 0, .int .u32 0, .int .u32 0, .slice none 0 0, .slice none 0 0] = w16 := hw16
      have Vf2 : w16.heap[sf]? = some (.cells #[.int .i64 0, .int .i64 0, .int .i64 0, .int .i64 0, .int .i64 0, .int .i64 0, .bool false, .bool false, .int .i64 0, .bool false] 31) := hse ▸ (heap_setCells_ne neo_f.symm [.int .i64 1, .int .i64 1, .int .i64 0, .int .i64 0, .int .i64 0, .int .i64 0, .int .i64 0, .int .u32 0, .int .u32 0, .slice none 0 0, .slice none 0 0] 0 w15).trans Vf.out
      have Va2 : w16.heap[sa]? = some (.cells #[.bool false, .bool false, .bool false, .int .i64 0, .int .i64 0, .int .u64 0, .slice none 0 0] 39) := hse ▸ (heap_setCells_ne neo_a.symm [.int .i64 1, .int .i64 1, .int .i64 0, .int .i64 0, .int .i64 0, .int .i64 0, .int .i64 0, .int .u32 0, .int .u32 0, .slice none 0 0, .slice none 0 0] 0 w15).trans Va.out
      have Vg2 : w16.heap[sg]? = some (.cells #[.int .i64 26, .int .i64 0, .int .i64 1, .int .i64 0, .int .i64 (-1), .int .i64 0, .bool false, .bool false, .int .i64 0, .bool false] 31) := hse ▸ (heap_setCells_ne neo_g.symm [.int .i64 1, .int .i64 1, .int .i64 0, .int .i64 0, .int .i64 0, .int .i64 0, .int .i64 0, .int .u32 0, .int .u32 0, .slice none 0 0, .slice none 0 0] 0 w15).trans Vg.out
      have Vo2 : w16.heap[w.heap.size]? = some (.cells #[.int .i64 1, .int .i64 1, .int .i64 0, .int .i64 0, .int .i64 0, .int .i64 0, .int .i64 0, .int .u32 0, .int .u32 0, .slice none 0 0, .slice none 0 0] 29) := hse ▸ heap_setCells [.int .i64 1, .int .i64 1, .int .i64 0, .int .i64 0, .int .i64 0, .int .i64 0, .int .i64 0, .int .u32 0, .int .u32 0, .slice none 0 0, .slice none 0 0] w15 [] [.int .i64 1, .int .i64 1, .int .i64 0, .int .i64 0, .int .i64 0, .int .i64 0, .int .i64 0, .int .u32 0, .int .u32 0, .slice none 0 0, .slice none 0 0] rfl Vo.out
      have hbb : Below _ _ w16 := hse ▸ below_setCells geo [.int .i64 1, .int .i64 1, .int .i64 0, .int .i64 0, .int .i64 0, .int .i64 0, .int .i64 0, .int .u32 0, .int .u32 0, .slice none 0 0, .slice none 0 0] 0 w15 HB.out.1
      have hbs : w16.heap.size = w15.heap.size := by rw [← hse, size_setCells]
      replace Vo := Lib.hid Vo2
      clear Vo2
      replace Vf := Lib.hid Vf2
      clear Vf2
      replace Va := Lib.hid Va2
      clear Va2
      replace Vg := Lib.hid Vg2
      clear Vg2
      replace HB := Lib.hid (And.intro hbb (show _ ≤ w16.heap.size by rw [hbs]; exact HB.out.2))
      clear hbb hbs hse
      obtain ⟨pcg0, pcg1, pcg2, pcg3, pcg4, pcg5, pcg6, pcg7, pcg8, pcg9⟩ := row10 Vg.out
      obtain ⟨pfg0, pfg1, pfg2, pfg3, pfg4, pfg5, pfg6, pfg7, pfg8, pfg9⟩ := frz10 Vg.out
      obtain ⟨w17, hw17⟩ : ∃ W, ((((((((((w16.setCell ⟨sg, 0, none⟩ (.int .i64 26)).setCell ⟨sg, 1, none⟩ (.int .i64 0)).setCell ⟨sg, 2, none⟩ (.int .i64 2)).setCell ⟨sg, 3, none⟩ (.int .i64 1)).setCell ⟨sg, 4, none⟩ (.int .i64 (-1))).setCell ⟨sg, 5, none⟩ (.int .i64 0)).setCell ⟨sg, 6, none⟩ (.bool false)).setCell ⟨sg, 7, none⟩ (.bool false)).setCell ⟨sg, 8, none⟩ (.int .i64 0)).setCell ⟨sg, 9, none⟩ (.bool false)) = W := ⟨_, rfl⟩
      have hse : w16.setCells (sg) 0 [.int .i64 26, .int .i64 0, .int .i64 2, .int .i64 1, .int .i64 (-1), .int .i64 0, .bool false, .bool false, .int .i64 0, .bool false] = w17 := hw17
      have Vo2 : w17.heap[w.heap.size]? = some (.cells #[.int .i64 1, .int .i64 1, .int .i64 0, .int .i64 0, .int .i64 0, .int .i64 0, .int .i64 0, .int .u32 0, .int .u32 0, .slice none 0 0, .slice none 0 0] 29) := hse ▸ (heap_setCells_ne neo_g [.int .i64 26, .int .i64 0, .int .i64 2, .int .i64 1, .int .i64 (-1), .int .i64 0, .bool false, .bool false, .int .i64 0, .bool false] 0 w16).trans Vo.out
      have Vf2 : w17.heap[sf]? = some (.cells #[.int .i64 0, .int .i64 0, .int .i64 0, .int .i64 0, .int .i64 0, .int .i64 0, .bool false, .bool false, .int .i64 0, .bool false] 31) := hse ▸ (heap_setCells_ne nef_g [.int .i64 26, .int .i64 0, .int .i64 2, .int .i64 1, .int .i64 (-1), .int .i64 0, .bool false, .bool false, .int .i64 0, .bool false] 0 w16).trans Vf.out
      have Va2 : w17.heap[sa]? = some (.cells #[.bool false, .bool false, .bool false, .int .i64 0, .int .i64 0, .int .u64 0, .slice none 0 0] 39) := hse ▸ (heap_setCells_ne nea_g [.int .i64 26, .int .i64 0, .int .i64 2, .int .i64 1, .int .i64 (-1), .int .i64 0, .bool false, .bool false, .int .i64 0, .bool false] 0 w16).trans Va.out
      have Vg2 : w17.heap[sg]? = some (.cells #[.int .i64 26, .int .i64 0, .int .i64 2, .int .i64 1, .int .i64 (-1), .int .i64 0, .bool false, .bool false, .int .i64 0, .bool false] 31) := hse ▸ heap_setCells [.int .i64 26, .int .i64 0, .int .i64 2, .int .i64 1, .int .i64 (-1), .int .i64 0, .bool false, .bool false, .int .i64 0, .bool false] w16 [] [.int .i64 26, .int .i64 0, .int .i64 1, .int .i64 0, .int .i64 (-1), .int .i64 0, .bool false, .bool false, .int .i64 0, .bool false] rfl Vg.out
      have hbb : Below _ _ w17 := hse ▸ below_setCells geg [.int .i64 26, .int .i64 0, .int .i64 2, .int .i64 1, .int .i64 (-1), .int .i64 0, .bool false, .bool false, .int .i64 0, .bool false] 0 w16 HB.out.1
      have hbs : w17.heap.size = w16.heap.size := by rw [← hse, size_setCells]
      replace Vo := Lib.hid Vo2
      clear Vo2
      replace Vf := Lib.hid Vf2
      clear Vf2
      replace Va := Lib.hid Va2
      clear Va2
      replace Vg := Lib.hid Vg2
      clear Vg2
      replace HB := Lib.hid (And.intro hbb (show _ ≤ w17.heap.size by rw [hbs]; exact HB.out.2))
      clear hbb hbs hse
      obtain ⟨pca0, pca1, pca2, pca3, pca4, pca5, pca6⟩ := row7 Va.out
      obtain ⟨pfa0, pfa1, pfa2, pfa3, pfa4, pfa5, pfa6⟩ := frz7 Va.out
      obtain ⟨w18, hw18⟩ : ∃ W, (((((((w17.setCell ⟨sa, 0, none⟩ (.bool false)).setCell ⟨sa, 1, none⟩ (.bool false)).setCell ⟨sa, 2, none⟩ (.bool false)).setCell ⟨sa, 3, none⟩ (.int .i64 0)).setCell ⟨sa, 4, none⟩ (.int .i64 0)).setCell ⟨sa, 5, none⟩ (.int .u64 0)).setCell ⟨sa, 6, none⟩ (.slice none 0 0)) = W := ⟨_, rfl⟩
      have hse : w17.setCells (sa) 0 [.bool false, .bool false, .bool false, .int .i64 0, .int .i64 0, .int .u64 0, .slice none 0 0] = w18 := hw18
      have Vo2 : w18.heap[w.heap.size]? = some (.cells #[.int .i64 1, .int .i64 1, .int .i64 0, .int .i64 0, .int .i64 0, .int .i64 0, .int .i64 0, .int .u32 0, .int .u32 0, .slice none 0 0, .slice none 0 0] 29) := hse ▸ (heap_setCells_ne neo_a [.bool false, .bool false, .bool false, .int .i64 0, .int .i64 0, .int .u64 0, .slice none 0 0] 0 w17).trans Vo.out
      have Vf2 : w18.heap[sf]? = some (.cells #[.int .i64 0, .int .i64 0, .int .i64 0, .int .i64 0, .int .i64 0, .int .i64 0, .bool false, .bool false, .int .i64 0, .bool false] 31) := hse ▸ (heap_setCells_ne nef_a [.bool false, .bool false, .bool false, .int .i64 0, .int .i64 0, .int .u64 0, .slice none 0 0] 0 w17).trans Vf.out
      have Vg2 : w18.heap[sg]? = some (.cells #[.int .i64 26, .int .i64 0, .int .i64 2, .int .i64 1, .int .i64 (-1), .int .i64 0, .bool false, .bool false, .int .i64 0, .bool false] 31) := hse ▸ (heap_setCells_ne nea_g.symm [.bool false, .bool false, .bool false, .int .i64 0, .int .i64 0, .int .u64 0, .slice none 0 0] 0 w17).trans Vg.out
      have Va2 : w18.heap[sa]? = some (.cells #[.bool false, .bool false, .bool false, .int .i64 0, .int .i64 0, .int .u64 0, .slice none 0 0] 39) := hse ▸ heap_setCells [.bool false, .bool false, .bool false, .int .i64 0, .int .i64 0, .int .u64 0, .slice none 0 0] w17 [] [.bool false, .bool false, .bool false, .int .i64 0, .int .i64 0, .int .u64 0, .slice none 0 0] rfl Va.out
      have hbb : Below _ _ w18 := hse ▸ below_setCells gea [.bool false, .bool false, .bool false, .int .i64 0, .int .i64 0, .int .u64 0, .slice none 0 0] 0 w17 HB.out.1
      have hbs : w18.heap.size = w17.heap.size := by rw [← hse, size_setCells]
      replace Vo := Lib.hid Vo2
      clear Vo2
      replace Vf := Lib.hid Vf2
      clear Vf2
      replace Va := Lib.hid Va2
      clear Va2
      replace Vg := Lib.hid Vg2
      clear Vg2
      replace HB := Lib.hid (And.intro hbb (show _ ≤ w18.heap.size by rw [hbs]; exact HB.out.2))
      clear hbb hbs hse
      go_wp2
      go_roundw
      case rel => exact Or.inr (Or.inr (Or.inl ⟨by go_num, HB, Vo, Vf, Va, Vg⟩))
      case measure => simp [intOf]
    · obtain ⟨co0, co1, co2, co3, co4, co5, co6, co7, co8, co9, co10⟩ := row11 Vo.out
      obtain ⟨cg0, cg1, cg2, cg3, cg4, cg5, cg6, cg7, cg8, cg9⟩ := row10 Vg.out
      go_wp2_with fail
      refine (K3.out _).mono ?_
      rintro e w15 ⟨rfl, hb⟩
      clear co0 co1 co2 co3 co4 co5 co6 co7 co8 co9 co10 cg0 cg1 cg2 cg3 cg4 cg5 cg6 cg7 cg8 cg9
      replace Vo := Lib.hid (blk_below Vo.out hb (blk_lt Vo.out))
      replace Vf := Lib.hid (blk_below Vf.out hb (blk_lt Vf.out))
      replace Va := Lib.hid (blk_below Va.out hb (blk_lt Va.out))
      replace Vg := Lib.hid (blk_below Vg.out hb (blk_lt Vg.out))
      replace HB := Lib.hid (And.intro (HB.out.1.trans (hb.mono HB.out.2)) (Nat.le_trans HB.out.2 hb.size))
      clear hb
      obtain ⟨pco0, pco1, pco2, pco3, pco4, pco5, pco6, pco7, pco8, pco9, pco10⟩ := row11 Vo.out
      obtain ⟨pfo0, pfo1, pfo2, pfo3, pfo4, pfo5, pfo6, pfo7, pfo8, pfo9, pfo10⟩ := frz11 Vo.out
      obtain ⟨w16, hw16⟩ : ∃ W, (((((((((((w15.setCell ⟨w.heap.size, 0, none⟩ (.int .i64 1)).setCell ⟨w.heap.size, 1, none⟩ (.int .i64 9)).setCell ⟨w.heap.size, 2, none⟩ (.int .i64 0)).setCell ⟨w.heap.size, 3, none⟩ (.int .i64 0)).setCell ⟨w.heap.size, 4, none⟩ (.int .i64 0)).setCell ⟨w.heap.size, 5, none⟩ (.int .i64 0)).setCell ⟨w.heap.size, 6, none⟩ (.int .i64 0)).setCell ⟨w.heap.size, 7, none⟩ (.int .u32 0)).setCell ⟨w.heap.size, 8, none⟩ (.int .u32 0)).setCell ⟨w.heap.size, 9, none⟩ (.slice none 0 0)).setCell ⟨w.heap.size, 10, none⟩ (.slice none 0 0)) = W := ⟨_, rfl⟩
      have hse : w15.setCells (w.heap.size) 0 [.int .i64 1, .int .i64 9, .int .i64 0, .int .i64 0, .int .i64 0, .int .i64 0, .int .i64 0, .int .u32 0, .int .u32 0, .slice none 0 0, .slice none 0 0] = w16 := hw16
      have Vf2 : w16.heap[sf]? = some (.cells #[.int .i64 0, .int .i64 0, .int .i64 0, .int .i64 0, .int .i64 0, .int .i64 0, .bool false, .bool false, .int .i64 0, .bool false] 31) := hse ▸ (heap_setCells_ne neo_f.symm [.int .i64 1, .int .i64 9, .int .i64 0, .int .i64 0, .int .i64 0, .int .i64 0, .int .i64 0, .int .u32 0, .int .u32 0, .slice none 0 0, .slice none 0 0] 0 w15).trans Vf.out
      have Va2 : w16.heap[sa]? = some (.cells #[.bool false, .bool false, .bool false, .int .i64 0, .int .i64 0, .int .u64 0, .slice none 0 0] 39) := hse ▸ (heap_setCells_ne neo_a.symm [.int .i64 1, .int .i64 9, .int .i64 0, .int .i64 0, .int .i64 0, .int .i64 0, .int .i64 0, .int .u32 0, .int .u32 0, .slice none 0 0, .slice none 0 0] 0 w15).trans Va.out
      have Vg2 : w16.heap[sg]? = some (.cells #[.int .i64 26, .int .i64 0, .int .i64 2, .int .i64 1, .int .i64 (-1), .int .i64 0, .bool false, .bool false, .int .i64 0, .bool false] 31) := hse ▸ (heap_setCells_ne neo_g.symm [.int .i64 1, .int .i64 9, .int .i64 0, .int .i64 0, .int .i64 0, .int .i64 0, .int .i64 0, .int .u32 0, .int .u32 0, .slice none 0 0, .slice none 0 0] 0 w15).trans Vg.out
      have Vo2 : w16.heap[w.heap.size]? = some (.cells #[.int .i64 1, .int .i64 9, .int .i64 0, .int .i64 0, .int .i64 0, .int .i64 0, .int .i64 0, .int .u32 0, .int .u32 0, .slice none 0 0, .slice none 0 0] 29) := hse ▸ heap_setCells [.int .i64 1, .int .i64 9, .int .i64 0, .int .i64 0, .int .i64 0, .int .i64 0, .int .i64 0, .int .u32 0, .int .u32 0, .slice none 0 0, .slice none 0 0] w15 [] [.int .i64 1, .int .i64 1, .int .i64 0, .int .i64 0, .int .i64 0, .int .i64 0, .int .i64 0, .int .u32 0, .int .u32 0, .slice none 0 0, .slice none 0 0] rfl Vo.out
      have hbb : Below _ _ w16 := hse ▸ below_setCells geo [.int .i64 1, .int .i64 9, .int .i64 0, .int .i64 0, .int .i64 0, .int .i64 0, .int .i64 0, .int .u32 0, .int .u32 0, .slice none 0 0, .slice none 0 0] 0 w15 HB.out.1
      have hbs : w16.heap.size = w15.heap.size := by rw [← hse, size_setCells]
      replace Vo := Lib.hid Vo2
      clear Vo2
      replace Vf := Lib.hid Vf2
      clear Vf2
      replace Va := Lib.hid Va2
      clear Va2
      replace Vg := Lib.hid Vg2
      clear Vg2
      replace HB := Lib.hid (And.intro hbb (show _ ≤ w16.heap.size by rw [hbs]; exact HB.out.2))
      clear hbb hbs hse
      obtain ⟨pcg0, pcg1, pcg2, pcg3, pcg4, pcg5, pcg6, pcg7, pcg8, pcg9⟩ := row10 Vg.out
      obtain ⟨pfg0, pfg1, pfg2, pfg3, pfg4, pfg5, pfg6, pfg7, pfg8, pfg9⟩ := frz10 Vg.out
      obtain ⟨w17, hw17⟩ : ∃ W, ((((((((((w16.setCell ⟨sg, 0, none⟩ (.int .i64 26)).setCell ⟨sg, 1, none⟩ (.int .i64 0)).setCell ⟨sg, 2, none⟩ (.int .i64 3)).setCell ⟨sg, 3, none⟩ (.int .i64 1)).setCell ⟨sg, 4, none⟩ (.int .i64 5)).setCell ⟨sg, 5, none⟩ (.int .i64 0)).setCell ⟨sg, 6, none⟩ (.bool false)).setCell ⟨sg, 7, none⟩ (.bool false)).setCell ⟨sg, 8, none⟩ (.int .i64 2)).setCell ⟨sg, 9, none⟩ (.bool false)) = W := ⟨_, rfl⟩
      have hse : w16.setCells (sg) 0 [.int .i64 26, .int .i64 0, .int .i64 3, .int .i64 1, .int .i64 5, .int .i64 0, .bool false, .bool false, .int .i64 2, .bool false] = w17 := hw17
      have Vo2 : w17.heap[w.heap.size]? = some (.cells #[.int .i64 1, .int .i64 9, .int .i64 0, .int .i64 0, .int .i64 0, .int .i64 0, .int .i64 0, .int .u32 0, .int .u32 0, .slice none 0 0, .slice none 0 0] 29) := hse ▸ (heap_setCells_ne neo_g [.int .i64 26, .int .i64 0, .int .i64 3, .int .i64 1, .int .i64 5, .int .i64 0, .bool false, .bool false, .int .i64 2, .bool false] 0 w16).trans Vo.out
      have Vf2 : w17.heap[sf]? = some (.cells #[.int .i64 0, .int .i64 0, .int .i64 0, .int .i64 0, .int .i64 0, .int .i64 0, .bool false, .bool false, .int .i64 0, .bool false] 31) := hse ▸ (heap_setCells_ne nef_g [.int .i64 26, .int .i64 0, .int .i64 3, .int .i64 1, .int .i64 5, .int .i64 0, .bool false, .bool false, .int .i64 2, .bool false] 0 w16).trans Vf.out
      have Va2 : w17.heap[sa]? = some (.cells #[.bool false, .bool false, .bool false, .int .i64 0, .int .i64 0, .int .u64 0, .slice none 0 0] 39) := hse ▸ (heap_setCells_ne nea_g [.int .i64 26, .int .i64 0, .int .i64 3, .int .i64 1, .int .i64 5, .int .i64 0, .bool false, .bool false, .int .i64 2, .bool false] 0 w16).trans Va.out
      have Vg2 : w17.heap[sg]? = some (.cells #[.int .i64 26, .int .i64 0, .int .i64 3, .int .i64 1, .int .i64 5, .int .i64 0, .bool false, .bool false, .int .i64 2, .bool false] 31) := hse ▸ heap_setCells [.int .i64 26, .int .i64 0, .int .i64 3, .int .i64 1, .int .i64 5, .int .i64 0, .bool false, .bool false, .int .i64 2, .bool false] w16 [] [.int .i64 26, .int .i64 0, .int .i64 2, .int .i64 1, .int .i64 (-1), .int .i64 0, .bool false, .bool false, .int .i64 0, .bool false] rfl Vg.out
      have hbb : Below _ _ w17 := hse ▸ below_setCells geg [.int .i64 26, .int .i64 0, .int .i64 3, .int .i64 1, .int .i64 5, .int .i64 0, .bool false, .bool false, .int .i64 2, .bool false] 0 w16 HB.out.1
      have hbs : w17.heap.size = w16.heap.size := by rw [← hse, size_setCells]
      replace Vo := Lib.hid Vo2
      clear Vo2
      replace Vf := Lib.hid Vf2
      clear Vf2
      replace Va := Lib.hid Va2
      clear Va2
      replace Vg := Lib.hid Vg2
      clear Vg2
      replace HB := Lib.hid (And.intro hbb (show _ ≤ w17.heap.size by rw [hbs]; exact HB.out.2))
      clear hbb hbs hse
      obtain ⟨pca0, pca1, pca2, pca3, pca4, pca5, pca6⟩ := row7 Va.out
      obtain ⟨pfa0, pfa1, pfa2, pfa3, pfa4, pfa5, pfa6⟩ := frz7 Va.out
      obtain ⟨w18, hw18⟩ : ∃ W, (((((((w17.setCell ⟨sa, 0, none⟩ (.bool false)).setCell ⟨sa, 1, none⟩ (.bool false)).setCell ⟨sa, 2, none⟩ (.bool false)).setCell ⟨sa, 3, none⟩ (.int .i64 0)).setCell ⟨sa, 4, none⟩ (.int .i64 0)).setCell ⟨sa, 5, none⟩ (.int .u64 0)).setCell ⟨sa, 6, none⟩ (.slice none 0 0)) = W := ⟨_, rfl⟩
      have hse : w17.setCells (sa) 0 [.bool false, .bool false, .bool false, .int .i64 0, .int .i64 0, .int .u64 0, .slice none 0 0] = w18 := hw18
      have Vo2 : w18.heap[w.heap.size]? = some (.cells #[.int .i64 1, .int .i64 9, .int .i64 0, .int .i64 0, .int .i64 0, .int .i64 0, .int .i64 0, .int .u32 0, .int .u32 0, .slice none 0 0, .slice none 0 0] 29) := hse ▸ (heap_setCells_ne neo_a [.bool false, .bool false, .bool false, .int .i64 0, .int .i64 0, .int .u64 0, .slice none 0 0] 0 w17).trans Vo.out
      have Vf2 : w18.heap[sf]? = some (.cells #[.int .i64 0, .int .i64 0, .int .i64 0, .int .i64 0, .int .i64 0, .int .i64 0, .bool false, .bool false, .int .i64 0, .bool false] 31) := hse ▸ (heap_setCells_ne nef_a [.bool false, .bool false, .bool false, .int .i64 0, .int .i64 0, .int .u64 0, .slice none 0 0] 0 w17).trans Vf.out
      have Vg2 : w18.heap[sg]? = some (.cells #[.int .i64 26, .int .i64 0, .int .i64 3, .int .i64 1, .int .i64 5, .int .i64 0, .bool false, .bool false, .int .i64 2, .bool false] 31) := hse ▸ (heap_setCells_ne nea_g.symm [.bool false, .bool false, .bool false, .int .i64 0, .int .i64 0, .int .u64 0, .slice none 0 0] 0 w17).trans Vg.out
      have Va2 : w18.heap[sa]? = some (.cells #[.bool false, .bool false, .bool false, .int .i64 0, .int .i64 0, .int .u64 0, .slice none 0 0] 39) := hse ▸ heap_setCells [.bool false, .bool false, .bool false, .int .i64 0, .int .i64 0, .int .u64 0, .slice none 0 0] w17 [] [.bool false, .bool false, .bool false, .int .i64 0, .int .i64 0, .int .u64 0, .slice none 0 0] rfl Va.out
      have hbb : Below _ _ w18 := hse ▸ below_setCells gea [.bool false, .bool false, .bool false, .int .i64 0, .int .i64 0, .int .u64 0, .slice none 0 0] 0 w17 HB.out.1
      have hbs : w18.heap.size = w17.heap.size := by rw [← hse, size_setCells]
      replace Vo := Lib.hid Vo2
      clear Vo2
      replace Vf := Lib.hid Vf2
      clear Vf2
      replace Va := Lib.hid Va2
      clear Va2
      replace Vg := Lib.hid Vg2
      clear Vg2
      replace HB := Lib.hid (And.intro hbb (show _ ≤ w18.heap.size by rw [hbs]; exact HB.out.2))
      clear hbb hbs hse
      go_wp2
      go_roundw
      case rel => exact Or.inr (Or.inr (Or.inr (⟨by go_num, HB, Vo, Vf, Va, Vg⟩)))
      case measure => simp [intOf]
    · obtain ⟨co0, co1, co2, co3, co4, co5, co6, co7, co8, co9, co10⟩ := row11 Vo.out
      obtain ⟨cg0, cg1, cg2, cg3, cg4, cg5, cg6, cg7, cg8, cg9⟩ := row10 Vg.out
      go_wp2_with fail
      refine (N2.out _).mono ?_
      rintro e w15 ⟨rfl, hb⟩
      clear co0 co1 co2 co3 co4 co5 co6 co7 co8 co9 co10 cg0 cg1 cg2 cg3 cg4 cg5 cg6 cg7 cg8 cg9
      replace Vo := Lib.hid (blk_below Vo.out hb (blk_lt Vo.out))
      replace Vf := Lib.hid (blk_below Vf.out hb (blk_lt Vf.out))
      replace Va := Lib.hid (blk_below Va.out hb (blk_lt Va.out))
      replace Vg := Lib.hid (blk_below Vg.out hb (blk_lt Vg.out))
      replace HB := Lib.hid (And.intro (HB.out.1.trans (hb.mono HB.out.2)) (Nat.le_trans HB.out.2 hb.size))
      clear hb
      obtain ⟨pcf0, pcf1, pcf2, pcf3, pcf4, pcf5, pcf6, pcf7, pcf8, pcf9⟩ := row10 Vf.out
      obtain ⟨pff0, pff1, pff2, pff3, pff4, pff5, pff6, pff7, pff8, pff9⟩ := frz10 Vf.out
      obtain ⟨w16, hw16⟩ : ∃ W, ((((((((((w15.setCell ⟨sf, 0, none⟩ (.int .i64 27)).setCell ⟨sf, 1, none⟩ (.int .i64 0)).setCell ⟨sf, 2, none⟩ (.int .i64 0)).setCell ⟨sf, 3, none⟩ (.int .i64 0)).setCell ⟨sf, 4, none⟩ (.int .i64 (-1))).setCell ⟨sf, 5, none⟩ (.int .i64 0)).setCell ⟨sf, 6, none⟩ (.bool false)).setCell ⟨sf, 7, none⟩ (.bool false)).setCell ⟨sf, 8, none⟩ (.int .i64 0)).setCell ⟨sf, 9, none⟩ (.bool false)) = W := ⟨_, rfl⟩
      have hse : w15.setCells (sf) 0 [.int .i64 27, .int .i64 0, .int .i64 0, .int .i64 0, .int .i64 (-1), .int .i64 0, .bool false, .bool false, .int .i64 0, .bool false] = w16 := hw16
      have Vo2 : w16.heap[w.heap.size]? = some (.cells #[.int .i64 1, .int .i64 9, .int .i64 0, .int .i64 0, .int .i64 0, .int .i64 0, .int .i64 0, .int .u32 0, .int .u32 0, .slice none 0 0, .slice none 0 0] 29) := hse ▸ (heap_setCells_ne neo_f [.int .i64 27, .int .i64 0, .int .i64 0, .int .i64 0, .int .i64 (-1), .int .i64 0, .bool false, .bool false, .int .i64 0, .bool false] 0 w15).trans Vo.out
      have Va2 : w16.heap[sa]? = some (.cells #[.bool false, .bool false, .bool false, .int .i64 0, .int .i64 0, .int .u64 0, .slice none 0 0] 39) := hse ▸ (heap_setCells_ne nef_a.symm [.int .i64 27, .int .i64 0, .int .i64 0, .int .i64 0, .int .i64 (-1), .int .i64 0, .bool false, .bool false, .int .i64 0, .bool false] 0 w15).trans Va.out
      have Vg2 : w16.heap[sg]? = some (.cells #[.int .i64 26, .int .i64 0, .int .i64 3, .int .i64 1, .int .i64 5, .int .i64 0, .bool false, .bool false, .int .i64 2, .bool false] 31) := hse ▸ (heap_setCells_ne nef_g.symm [.int .i64 27, .int .i64 0, .int .i64 0, .int .i64 0, .int .i64 (-1), .int .i64 0, .bool false, .bool false, .int .i64 0, .bool false] 0 w15).trans Vg.out
      have Vf2 : w16.heap[sf]? = some (.cells #[.int .i64 27, .int .i64 0, .int .i64 0, .int .i64 0, .int .i64 (-1), .int .i64 0, .bool false, .bool false, .int .i64 0, .bool false] 31) := hse ▸ heap_setCells [.int .i64 27, .int .i64 0, .int .i64 0, .int .i64 0, .int .i64 (-1), .int .i64 0, .bool false, .bool false, .int .i64 0, .bool false] w15 [] [.int .i64 0, .int .i64 0, .int .i64 0, .int .i64 0, .int .i64 0, .int .i64 0, .bool false, .bool false, .int .i64 0, .bool false] rfl Vf.out
      have hbb : Below _ _ w16 := hse ▸ below_setCells gef [.int .i64 27, .int .i64 0, .int .i64 0, .int .i64 0, .int .i64 (-1), .int .i64 0, .bool false, .bool false, .int .i64 0, .bool false] 0 w15 HB.out.1
      have hbs : w16.heap.size = w15.heap.size := by rw [← hse, size_setCells]
      replace Vo := Lib.hid Vo2
      clear Vo2
      replace Vf := Lib.hid Vf2
      clear Vf2
      replace Va := Lib.hid Va2
      clear Va2
      replace Vg := Lib.hid Vg2
      clear Vg2
      replace HB := Lib.hid (And.intro hbb (show _ ≤ w16.heap.size by rw [hbs]; exact HB.out.2))
      clear hbb hbs hse
      go_wp2
      clear pcf0 pcf1 pcf2 pcf3 pcf4 pcf5 pcf6 pcf7 pcf8 pcf9 pff0 pff1 pff2 pff3 pff4 pff5 pff6 pff7 pff8 pff9 hw16
      go_loopw [6] (fun iv wr => (iv = .int .i64 0 ∧ Hid (Below w.heap.size w wr ∧ w.heap.size ≤ wr.heap.size) ∧ Hid (wr.heap[w.heap.size]? = some (.cells #[.int .i64 1, .int .i64 9, .int .i64 0, .int .i64 0, .int .i64 0, .int .i64 0, .int .i64 0, .int .u32 0, .int .u32 0, .slice none 0 0, .slice none 0 0] 29)) ∧ Hid (wr.heap[sf]? = some (.cells #[.int .i64 27, .int .i64 0, .int .i64 0, .int .i64 0, .int .i64 (-1), .int .i64 0, .bool false, .bool false, .int .i64 0, .bool false] 31)) ∧ Hid (wr.heap[sa]? = some (.cells #[.bool false, .bool false, .bool false, .int .i64 0, .int .i64 0, .int .u64 0, .slice none 0 0] 39)) ∧ Hid (wr.heap[sg]? = some (.cells #[.int .i64 26, .int .i64 0, .int .i64 3, .int .i64 1, .int .i64 5, .int .i64 0, .bool false, .bool false, .int .i64 2, .bool false] 31))) ∨ (iv = .int .i64 1 ∧ Hid (Below w.heap.size w wr ∧ w.heap.size ≤ wr.heap.size) ∧ Hid (wr.heap[w.heap.size]? = some (.cells #[.int .i64 1, .int .i64 8, .int .i64 0, .int .i64 0, .int .i64 0, .int .i64 0, .int .i64 0, .int .u32 0, .int .u32 0, .slice none 0 0, .slice none 0 0] 29)) ∧ Hid (wr.heap[sf]? = some (.cells #[.int .i64 27, .int .i64 0, .int .i64 1, .int .i64 8, .int .i64 (-1), .int .i64 0, .bool false, .bool false, .int .i64 0, .bool false] 31)) ∧ Hid (wr.heap[sa]? = some (.cells #[.bool false, .bool false, .bool false, .int .i64 0, .int .i64 0, .int .u64 0, .slice none 0 0] 39)) ∧ Hid (wr.heap[sg]? = some (.cells #[.int .i64 26, .int .i64 0, .int .i64 3, .int .i64 1, .int .i64 5, .int .i64 0, .bool false, .bool false, .int .i64 2, .bool false] 31))) ∨ (iv = .int .i64 2 ∧ Hid (Below w.heap.size w wr ∧ w.heap.size ≤ wr.heap.size) ∧ Hid (wr.heap[w.heap.size]? = some (.cells #[.int .i64 1, .int .i64 2, .int .i64 0, .int .i64 0, .int .i64 0, .int .i64 0, .int .i64 0, .int .u32 0, .int .u32 0, .slice none 0 0, .slice none 0 0] 29)) ∧ Hid (wr.heap[sf]? = some (.cells #[.int .i64 27, .int .i64 0, .int .i64 3, .int .i64 8, .int .i64 (-1), .int .i64 0, .bool false, .bool false, .int .i64 0, .bool false] 31)) ∧ Hid (wr.heap[sa]? = some (.cells #[.bool false, .bool false, .bool false, .int .i64 0, .int .i64 0, .int .u64 0, .slice none 0 0] 39)) ∧ Hid (wr.heap[sg]? = some (.cells #[.int .i64 26, .int .i64 0, .int .i64 3, .int .i64 1, .int .i64 5, .int .i64 0, .bool false, .bool false, .int .i64 2, .bool false] 31))) ∨ (iv = .int .i64 3 ∧ Hid (Below w.heap.size w wr ∧ w.heap.size ≤ wr.heap.size) ∧ Hid (wr.heap[w.heap.size]? = some (.cells #[.int .i64 1, .int .i64 2, .int .i64 0, .int .i64 0, .int .i64 0, .int .i64 0, .int .i64 0, .int .u32 0, .int .u32 0, .slice none 0 0, .slice none 0 0] 29)) ∧ Hid (wr.heap[sf]? = some (.cells #[.int .i64 0, .int .i64 0, .int .i64 0, .int .i64 0, .int .i64 0, .int .i64 0, .bool false, .bool false, .int .i64 0, .bool false] 31)) ∧ Hid (wr.heap[sa]? = some (.cells #[.bool true, .bool false, .bool false, .int .i64 2, .int .i64 0, .int .u64 0, .slice none 0 0] 39)) ∧ Hid (wr.heap[sg]? = some (.cells #[.int .i64 26, .int .i64 0, .int .i64 3, .int .i64 1, .int .i64 5, .int .i64 0, .bool false, .bool false, .int .i64 2, .bool false] 31)))) (fun iv _ => 3 - (intOf iv).toNat)
      case atStart => exact Or.inl ⟨rfl, HB, Vo, Vf, Va, Vg⟩
      case round =>
        clear HB Vo Vf Va Vg
        rcases hrel with ⟨rfl, HB, Vo, Vf, Va, Vg⟩ | ⟨rfl, HB, Vo, Vf, Va, Vg⟩ | ⟨rfl, HB, Vo, Vf, Va, Vg⟩ | ⟨rfl, HB, Vo, Vf, Va, Vg⟩
        · obtain ⟨co0, co1, co2, co3, co4, co5, co6, co7, co8, co9, co10⟩ := row11 Vo.out
          obtain ⟨cf0, cf1, cf2, cf3, cf4, cf5, cf6, cf7, cf8, cf9⟩ := row10 Vf.out
          go_wp2_with fail
          refine (K4.out _).mono ?_
          rintro e w17 ⟨rfl, hb⟩
          clear co0 co1 co2 co3 co4 co5 co6 co7 co8 co9 co10 cf0 cf1 cf2 cf3 cf4 cf5 cf6 cf7 cf8 cf9
          replace Vo := Lib.hid (blk_below Vo.out hb (blk_lt Vo.out))
          replace Vf := Lib.hid (blk_below Vf.out hb (blk_lt Vf.out))
          replace Va := Lib.hid (blk_below Va.out hb (blk_lt Va.out))
          replace Vg := Lib.hid (blk_below Vg.out hb (blk_lt Vg.out))
          replace HB := Lib.hid (And.intro (HB.out.1.trans (hb.mono HB.out.2)) (Nat.le_trans HB.out.2 hb.size))
          clear hb
          obtain ⟨pco0, pco1, pco2, pco3, pco4, pco5, pco6, pco7, pco8, pco9, pco10⟩ := row11 Vo.out
          obtain ⟨pfo0, pfo1, pfo2, pfo3, pfo4, pfo5, pfo6, pfo7, pfo8, pfo9, pfo10⟩ := frz11 Vo.out
          obtain ⟨w18, hw18⟩ : ∃ W, (((((((((((w17.setCell ⟨w.heap.size, 0, none⟩ (.int .i64 1)).setCell ⟨w.heap.size, 1, none⟩ (.int .i64 8)).setCell ⟨w.heap.size, 2, none⟩ (.int .i64 0)).setCell ⟨w.heap.size, 3, none⟩ (.int .i64 0)).setCell ⟨w.heap.size, 4, none⟩ (.int .i64 0)).setCell ⟨w.heap.size, 5, none⟩ (.int .i64 0)).setCell ⟨w.heap.size, 6, none⟩ (.int .i64 0)).setCell ⟨w.heap.size, 7, none⟩ (.int .u32 0)).setCell ⟨w.heap.size, 8, none⟩ (.int .u32 0)).setCell ⟨w.heap.size, 9, none⟩ (.slice none 0 0)).setCell ⟨w.heap.size, 10, none⟩ (.slice none 0 0)) = W := ⟨_, rfl⟩
          have hse : w17.setCells (w.heap.size) 0 [.int .i64 1, .int .i64 8, .int .i64 0, .int .i64 0, .int .i64 0, .int .i64 0, .int .i64 0, .int .u32 0, .int .u32 0, .slice none 0 0, .slice none 0 0] = w18 := hw18
          have Vf2 : w18.heap[sf]? = some (.cells #[.int .i64 27, .int .i64 0, .int .i64 0, .int .i64 0, .int .i64 (-1), .int .i64 0, .bool false, .bool false, .int .i64 0, .bool false] 31) := hse ▸ (heap_setCells_ne neo_f.symm [.int .i64 1, .int .i64 8, .int .i64 0, .int .i64 0, .int .i64 0, .int .i64 0, .int .i64 0, .int .u32 0, .int .u32 0, .slice none 0 0, .slice none 0 0] 0 w17).trans Vf.out
          have Va2 : w18.heap[sa]? = some (.cells #[.bool false, .bool false, .bool false, .int .i64 0, .int .i64 0, .int .u64 0, .slice none 0 0] 39) := hse ▸ (heap_setCells_ne neo_a.symm [.int .i64 1, .int .i64 8, .int .i64 0, .int .i64 0, .int .i64 0, .int .i64 0, .int .i64 0, .int .u32 0, .int .u32 0, .slice none 0 0, .slice none 0 0] 0 w17).trans Va.out
          have Vg2 : w18.heap[sg]? = some (.cells #[.int .i64 26, .int .i64 0, .int .i64 3, .int .i64 1, .int .i64 5, .int .i64 0, .bool false, .bool false, .int .i64 2, .bool false] 31) := hse ▸ (heap_setCells_ne neo_g.symm [.int .i64 1, .int .i64 8, .int .i64 0, .int .i64 0, .int .i64 0, .int .i64 0, .int .i64 0, .int .u32 0, .int .u32 0, .slice none 0 0, .slice none 0 0] 0 w17).trans Vg.out
          have Vo2 : w18.heap[w.heap.size]? = some (.cells #[.int .i64 1, .int .i64 8, .int .i64 0, .int .i64 0, .int .i64 0, .int .i64 0, .int .i64 0, .int .u32 0, .int .u32 0, .slice none 0 0, .slice none 0 0] 29) := hse ▸ heap_setCells [.int .i64 1, .int .i64 8, .int .i64 0, .int .i64 0, .int .i64 0, .int .i64 0, .int .i64 0, .int .u32 0, .int .u32 0, .slice none 0 0, .slice none 0 0] w17 [] [.int .i64 1, .int .i64 9, .int .i64 0, .int .i64 0, .int .i64 0, .int .i64 0, .int .i64 0, .int .u32 0, .int .u32 0, .slice none 0 0, .slice none 0 0] rfl Vo.out
          have hbb : Below _ _ w18 := hse ▸ below_setCells geo [.int .i64 1, .int .i64 8, .int .i64 0, .int .i64 0, .int .i64 0, .int .i64 0, .int .i64 0, .int .u32 0, .int .u32 0, .slice none 0 0, .slice none 0 0] 0 w17 HB.out.1
          have hbs : w18.heap.size = w17.heap.size := by rw [← hse, size_setCells]
          replace Vo := Lib.hid Vo2
          clear Vo2
          replace Vf := Lib.hid Vf2
          clear Vf2
          replace Va := Lib.hid Va2
          clear Va2
          replace Vg := Lib.hid Vg2
          clear Vg2
          replace HB := Lib.hid (And.intro hbb (show _ ≤ w18.heap.size by rw [hbs]; exact HB.out.2))
          clear hbb hbs hse
          obtain ⟨pcf0, pcf1, pcf2, pcf3, pcf4, pcf5, pcf6, pcf7, pcf8, pcf9⟩ := row10 Vf.out
          obtain ⟨pff0, pff1, pff2, pff3, pff4, pff5, pff6, pff7, pff8, pff9⟩ := frz10 Vf.out
          obtain ⟨w19, hw19⟩ : ∃ W, ((((((((((w18.setCell ⟨sf, 0, none⟩ (.int .i64 27)).setCell ⟨sf, 1, none⟩ (.int .i64 0)).setCell ⟨sf, 2, none⟩ (.int .i64 1)).setCell ⟨sf, 3, none⟩ (.int .i64 8)).setCell ⟨sf, 4, none⟩ (.int .i64 (-1))).setCell ⟨sf, 5, none⟩ (.int .i64 0)).setCell ⟨sf, 6, none⟩ (.bool false)).setCell ⟨sf, 7, none⟩ (.bool false)).setCell ⟨sf, 8, none⟩ (.int .i64 0)).setCell ⟨sf, 9, none⟩ (.bool false)) = W := ⟨_, rfl⟩
          have hse : w18.setCells (sf) 0 [.int .i64 27, .int .i64 0, .int .i64 1, .int .i64 8, .int .i64 (-1), .int .i64 0, .bool false, .bool false, .int .i64 0, .bool false] = w19 := hw19
          have Vo2 : w19.heap[w.heap.size]? = some (.cells #[.int .i64 1, .int .i64 8, .int .i64 0, .int .i64 0, .int .i64 0, .int .i64 0, .int .i64 0, .int .u32 0, .int .u32 0, .slice none 0 0, .slice none 0 0] 29) := hse ▸ (heap_setCells_ne neo_f [.int .i64 27, .int .i64 0, .int .i64 1, .int .i64 8, .int .i64 (-1), .int .i64 0, .bool false, .bool false, .int .i64 0, .bool false] 0 w18).trans Vo.out
          have Va2 : w19.heap[sa]? = some (.cells #[.bool false, .bool false, .bool false, .int .i64 0, .int .i64 0, .int .u64 0, .slice none 0 0] 39) := hse ▸ (heap_setCells_ne nef_a.symm [.int .i64 27, .int .i64 0, .int .i64 1, .int .i64 8, .int .i64 (-1), .int .i64 0, .bool false, .bool false, .int .i64 0, .bool false] 0 w18).trans Va.out
          have Vg2 : w19.heap[sg]? = some (.cells #[.int .i64 26, .int .i64 0, .int .i64 3, .int .i64 1, .int .i64 5, .int .i64 0, .bool false, .bool false, .int .i64 2, .bool false] 31) := hse ▸ (heap_setCells_ne nef_g.symm [.int .i64 27, .int .i64 0, .int .i64 1, .int .i64 8, .int .i64 (-1), .int .i64 0, .bool false, .bool false, .int .i64 0, .bool false] 0 w18).trans Vg.out
          have Vf2 : w19.heap[sf]? = some (.cells #[.int .i64 27, .int .i64 0, .int .i64 1, .int .i64 8, .int .i64 (-1), .int .i64 0, .bool false, .bool false, .int .i64 0, .bool false] 31) := hse ▸ heap_setCells [.int .i64 27, .int .i64 0, .int .i64 1, .int .i64 8, .int .i64 (-1), .int .i64 0, .bool false, .bool false, .int .i64 0, .bool false] w18 [] [.int .i64 27, .int .i64 0, .int .i64 0, .int .i64 0, .int .i64 (-1), .int .i64 0, .bool false, .bool false, .int .i64 0, .bool false] rfl Vf.out
          have hbb : Below _ _ w19 := hse ▸ below_setCells gef [.int .i64 27, .int .i64 0, .int .i64 1, .int .i64 8, .int .i64 (-1), .int .i64 0, .bool false, .bool false, .int .i64 0, .bool false] 0 w18 HB.out.1
          have hbs : w19.heap.size = w18.heap.size := by rw [← hse, size_setCells]
          replace Vo := Lib.hid Vo2
          clear Vo2
          replace Vf := Lib.hid Vf2
          clear Vf2
          replace Va := Lib.hid Va2
          clear Va2
          replace Vg := Lib.hid Vg2
          clear Vg2
          replace HB := Lib.hid (And.intro hbb (show _ ≤ w19.heap.size by rw [hbs]; exact HB.out.2))
          clear hbb hbs hse
          obtain ⟨pca0, pca1, pca2, pca3, pca4, pca5, pca6⟩ := row7 Va.out
          obtain ⟨pfa0, pfa1, pfa2, pfa3, pfa4, pfa5, pfa6⟩ := frz7 Va.out
          obtain ⟨w20, hw20⟩ : ∃ W, (((((((w19.setCell ⟨sa, 0, none⟩ (.bool false)).setCell ⟨sa, 1, none⟩ (.bool false)).setCell ⟨sa, 2, none⟩ (.bool false)).setCell ⟨sa, 3, none⟩ (.int .i64 0)).setCell ⟨sa, 4, none⟩ (.int .i64 0)).setCell ⟨sa, 5, none⟩ (.int .u64 0)).setCell ⟨sa, 6, none⟩ (.slice none 0 0)) = W := ⟨_, rfl⟩
          have hse : w19.setCells (sa) 0 [.bool false, .bool false, .bool false, .int .i64 0, .int .i64 0, .int .u64 0, .slice none 0 0] = w20 := hw20
          have Vo2 : w20.heap[w.heap.size]? = some (.cells #[.int .i64 1, .int .i64 8, .int .i64 0, .int .i64 0, .int .i64 0, .int .i64 0, .int .i64 0, .int .u32 0, .int .u32 0, .slice none 0 0, .slice none 0 0] 29) := hse ▸ (heap_setCells_ne neo_a [.bool false, .bool false, .bool false, .int .i64 0, .int .i64 0, .int .u64 0, .slice none 0 0] 0 w19).trans Vo.out
          have Vf2 : w20.heap[sf]? = some (.cells #[.int .i64 27, .int .i64 0, .int .i64 1, .int .i64 8, .int .i64 (-1), .int .i64 0, .bool false, .bool false, .int .i64 0, .bool false] 31) := hse ▸ (heap_setCells_ne nef_a [.bool false, .bool false, .bool false, .int .i64 0, .int .i64 0, .int .u64 0, .slice none 0 0] 0 w19).trans Vf.out
          have Vg2 : w20.heap[sg]? = some (.cells #[.int .i64 26, .int .i64 0, .int .i64 3, .int .i64 1, .int .i64 5, .int .i64 0, .bool false, .bool false, .int .i64 2, .bool false] 31) := hse ▸ (heap_setCells_ne nea_g.symm [.bool false, .bool false, .bool false, .int .i64 0, .int .i64 0, .int .u64 0, .slice none 0 0] 0 w19).trans Vg.out
          have Va2 : w20.heap[sa]? = some (.cells #[.bool false, .bool false, .bool false, .int .i64 0, .int .i64 0, .int .u64 0, .slice none 0 0] 39) := hse ▸ heap_setCells [.bool false, .bool false, .bool false, .int .i64 0, .int .i64 0, .int .u64 0, .slice none 0 0] w19 [] [.bool false, .bool false, .bool false, .int .i64 0, .int .i64 0, .int .u64 0, .slice none 0 0] rfl Va.out
          have hbb : Below _ _ w20 := hse ▸ below_setCells gea [.bool false, .bool false, .bool false, .int .i64 0, .int .i64 0, .int .u64 0, .slice none 0 0] 0 w19 HB.out.1
          have hbs : w20.heap.size = w19.heap.size := by rw [← hse, size_setCells]
          replace Vo := Lib.hid Vo2
          clear Vo2
          replace Vf := Lib.hid Vf2
          clear Vf2
          replace Va := Lib.hid Va2
          clear Va2
          replace Vg := Lib.hid Vg2
          clear Vg2
          replace HB := Lib.hid (And.intro hbb (show _ ≤ w20.heap.size by rw [hbs]; exact HB.out.2))
          clear hbb hbs hse
          go_wp2
          go_roundw
          case rel => exact Or.inr (Or.inl ⟨by go_num, HB, Vo, Vf, Va, Vg⟩)
          case measure => simp [intOf]
        · obtain ⟨co0, co1, co2, co3, co4, co5, co6, co7, co8, co9, co10⟩ := row11 Vo.out
          obtain ⟨cf0, cf1, cf2, cf3, cf4, cf5, cf6, cf7, cf8, cf9⟩ := row10 Vf.out
          go_wp2_with fail
          refine (K5.out _).mono ?_
          rintro e w17 ⟨rfl, hb⟩
          clear co0 co1 co2 co3 co4 co5 co6 co7 co8 co9 co10 cf0 cf1 cf2 cf3 cf4 cf5 cf6 cf7 cf8 cf9
          replace Vo := Lib.hid (blk_below Vo.out hb (blk_lt Vo.out))
          replace Vf := Lib.hid (blk_below Vf.out hb (blk_lt Vf.out))
          replace Va := Lib.hid (blk_below Va.out hb (blk_lt Va.out))
          replace Vg := Lib.hid (blk_below Vg.out hb (blk_lt Vg.out))
          replace HB := Lib.hid (And.intro (HB.out.1.trans (hb.mono HB.out.2)) (Nat.le_trans HB.out.2 hb.size))
          clear hb
          obtain ⟨pco0, pco1, pco2, pco3, pco4, pco5, pco6, pco7, pco8, pco9, pco10⟩ := row11 Vo.out
          obtain ⟨pfo0, pfo1, pfo2, pfo3, pfo4, pfo5, pfo6, pfo7, pfo8, pfo9, pfo10⟩ := frz11 Vo.out
          obtain ⟨w18, hw18⟩ : ∃ W, (((((((((((w17.setCell ⟨w.heap.size, 0, none⟩ (.int .i64 1)).setCell ⟨w.heap.size, 1, none⟩ (.int .i64 2)).setCell ⟨w.heap.size, 2, none⟩ (.int .i64 0)).setCell ⟨w.heap.size, 3, none⟩ (.int .i64 0)).setCell ⟨w.heap.size, 4, none⟩ (.int .i64 0)).setCell ⟨w.heap.size, 5, none⟩ (.int .i64 0)).setCell ⟨w.heap.size, 6, none⟩ (.int .i64 0)).setCell ⟨w.heap.size, 7, none⟩ (.int .u32 0)).setCell ⟨w.heap.size, 8, none⟩ (.int .u32 0)).setCell ⟨w.heap.size, 9, none⟩ (.slice none 0 0)).setCell ⟨w.heap.size, 10, none⟩ (.slice none 0 0)) = W := ⟨_, rfl⟩
          have hse : w17.setCells (w.heap.size) 0 [.int .i64 1, .int .i64 2, .int .i64 0, .int .i64 0, .int .i64 0, .int .i64 0, .int .i64 0, .int .u32 0, .int .u32 0, .slice none 0 0, .slice none 0 0] = w18 := hw18
          have Vf2 : w18.heap[sf]? = some (.cells #[.int .i64 27, .int .i64 0, .int .i64 1, .int .i64 8, .int .i64 (-1), .int .i64 0, .bool false, .bool false, .int .i64 0, .bool false] 31) := hse ▸ (heap_setCells_ne neo_f.symm [.int .i64 1, .int .i64 2, .int .i64 0, .int .i64 0, .int .i64 0, .int .i64 0, .int .i64 0, .int .u32 0, .int .u32 0, .slice none 0 0, .slice none 0 0] 0 w17).trans Vf.out
          have Va2 : w18.heap[sa]? = some (.cells #[.bool false, .bool false, .bool false, .int .i64 0, .int .i64 0, .int .u64 0, .slice none 0 0] 39) := hse ▸ (heap_setCells_ne neo_a.symm [.int .i64 1, .int .i64 2, .int .i64 0, .int .i64 0, .int .i64 0, .int .i64 0, .int .i64 0, .int .u32 0, .int .u32 0, .slice none 0 0, .slice none 0 0] 0 w17).trans Va.out
          have Vg2 : w18.heap[sg]? = some (.cells #[.int .i64 26, .int .i64 0, .int .i64 3, .int .i64 1, .int .i64 5, .int .i64 0, .bool false, .bool false, .int .i64 2, .bool false] 31) := hse ▸ (heap_setCells_ne neo_g.symm [.int .i64 1, .int .i64 2, .int .i64 0, .int .i64 0, .int .i64 0, .int .i64 0, .int .i64 0, .int .u32 0, .int .u32 0, .slice none 0 0, .slice none 0 0] 0 w17).trans Vg.out
          have Vo2 : w18.heap[w.heap.size]? = some (.cells #[.int .i64 1, .int .i64 2, .int .i64 0, .int .i64 0, .int .i64 0, .int .i64 0, .int .i64 0, .int .u32 0, .int .u32 0, .slice none 0 0, .slice none 0 0] 29) := hse ▸ heap_setCells [.int .i64 1, .int .i64 2, .int .i64 0, .int .i64 0, .int .i64 0, .int .i64 0, .int .i64 0, .int .u32 0, .int .u32 0, .slice none 0 0, .slice none 0 0] w17 [] [.int .i64 1, .int .i64 8, .int .i64 0, .int .i64 0, .int .i64 0, .int .i64 0, .int .i64 0, .int .u32 0, .int .u32 0, .slice none 0 0, .slice none 0 0] rfl Vo.out
          have hbb : Below _ _ w18 := hse ▸ below_setCells geo [.int .i64 1, .int .i64 2, .int .i64 0, .int .i64 0, .int .i64 0, .int .i64 0, .int .i64 0, .int .u32 0, .int .u32 0, .slice none 0 0, .slice none 0 0] 0 w17 HB.out.1
          have hbs : w18.heap.size = w17.heap.size := by rw [← hse, size_setCells]
          replace Vo := Lib.hid Vo2
          clear Vo2
          replace Vf := Lib.hid Vf2
          clear Vf2
          replace Va := Lib.hid Va2
          clear Va2
          replace Vg := Lib.hid Vg2
          clear Vg2
          replace HB := Lib.hid (And.intro hbb (show _ ≤ w18.heap.size by rw [hbs]; exact HB.out.2))
          clear hbb hbs hse
          obtain ⟨pcf0, pcf1, pcf2, pcf3, pcf4, pcf5, pcf6, pcf7, pcf8, pcf9⟩ := row10 Vf.out
          obtain ⟨pff0, pff1, pff2, pff3, pff4, pff5, pff6, pff7, pff8, pff9⟩ := frz10 Vf.out
          obtain ⟨w19, hw19⟩ : ∃ W, ((((((((((w18.setCell ⟨sf, 0, none⟩ (.int .i64 27)).setCell ⟨sf, 1, none⟩ (.int .i64 0)).setCell ⟨sf, 2, none⟩ (.int .i64 3)).setCell ⟨sf, 3, none⟩ (.int .i64 8)).setCell ⟨sf, 4, none⟩ (.int .i64 (-1))).setCell ⟨sf, 5, none⟩ (.int .i64 0)).setCell ⟨sf, 6, none⟩ (.bool false)).setCell ⟨sf, 7, none⟩ (.bool false)).setCell ⟨sf, 8, none⟩ (.int .i64 0)).setCell ⟨sf, 9, none⟩ (.bool false)) = W := ⟨_, rfl⟩
          have hse : w18.setCells (sf) 0 [.int .i64 27, .int .i64 0, .int .i64 3, .int .i64 8, .int .i64 (-1), .int .i64 0, .bool false, .bool false, .int .i64 0, .bool false] = w19 := hw19
          have Vo2 : w19.heap[w.heap.size]? = some (.cells #[.int .i64 1, .int .i64 2, .int .i64 0, .int .i64 0, .int .i64 0, .int .i64 0, .int .i64 0, .int .u32 0, .int .u32 0, .slice none 0 0, .slice none 0 0] 29) := hse ▸ (heap_setCells_ne neo_f [.int .i64 27, .int .i64 0, .int .i64 3, .int .i64 8, .int .i64 (-1), .int .i64 0, .bool false, .bool false, .int .i64 0, .bool false] 0 w18).trans Vo.out
          have Va2 : w19.heap[sa]? = some (.cells #[.bool false, .bool false, .bool false, .int .i64 0, .int .i64 0, .int .u64 0, .slice none 0 0] 39) := hse ▸ (heap_setCells_ne nef_a.symm [.int .i64 27, .int .i64 0, .int .i64 3, .int .i64 8, .int .i64 (-1), .int .i64 0, .bool false, .bool false, .int .i64 0, .bool false] 0 w18).trans Va.out
          have Vg2 : w19.heap[sg]? = some (.cells #[.int .i64 26, .int .i64 0, .int .i64 3, .int .i64 1, .int .i64 5, .int .i64 0, .bool false, .bool false, .int .i64 2, .bool false] 31) := hse ▸ (heap_setCells_ne nef_g.symm [.int .i64 27, .int .i64 0, .int .i64 3, .int .i64 8, .int .i64 (-1), .int .i64 0, .bool false, .bool false, .int .i64 0, .bool false] 0 w18).trans Vg.out
          have Vf2 : w19.heap[sf]? = some (.cells #[.int .i64 27, .int .i64 0, .int .i64 3, .int .i64 8, .int .i64 (-1), .int .i64 0, .bool false, .bool false, .int .i64 0, .bool false] 31) := hse ▸ heap_setCells [.int .i64 27, .int .i64 0, .int .i64 3, .int .i64 8, .int .i64 (-1), .int .i64 0, .bool false, .bool false, .int .i64 0, .bool false] w18 [] [.int .i64 27, .int .i64 0, .int .i64 1, .int .i64 8, .int .i64 (-1), .int .i64 0, .bool false, .bool false, .int .i64 0, .bool false] rfl Vf.out
          have hbb : Below _ _ w19 := hse ▸ below_setCells gef [.int .i64 27, .int .i64 0, .int .i64 3, .int .i64 8, .int .i64 (-1), .int .i64 0, .bool false, .bool false, .int .i64 0, .bool false] 0 w18 HB.out.1
          have hbs : w19.heap.size = w18.heap.size := by rw [← hse, size_setCells]
          replace Vo := Lib.hid Vo2
          clear Vo2
          replace Vf := Lib.hid Vf2
          clear Vf2
          replace Va := Lib.hid Va2
          clear Va2
          replace Vg := Lib.hid Vg2
          clear Vg2
          replace HB := Lib.hid (And.intro hbb (show _ ≤ w19.heap.size by rw [hbs]; exact HB.out.2))
          clear hbb hbs hse
          obtain ⟨pca0, pca1, pca2, pca3, pca4, pca5, pca6⟩ := row7 Va.out
          obtain ⟨pfa0, pfa1, pfa2, pfa3, pfa4, pfa5, pfa6⟩ := frz7 Va.out
          obtain ⟨w20, hw20⟩ : ∃ W, (((((((w19.setCell ⟨sa, 0, none⟩ (.bool false)).setCell ⟨sa, 1, none⟩ (.bool false)).setCell ⟨sa, 2, none⟩ (.bool false)).setCell ⟨sa, 3, none⟩ (.int .i64 0)).setCell ⟨sa, 4, none⟩ (.int .i64 0)).setCell ⟨sa, 5, none⟩ (.int .u64 0)).setCell ⟨sa, 6, none⟩ (.slice none 0 0)) = W := ⟨_, rfl⟩
          have hse : w19.setCells (sa) 0 [.bool false, .bool false, .bool false, .int .i64 0, .int .i64 0, .int .u64 0, .slice none 0 0] = w20 := hw20
          have Vo2 : w20.heap[w.heap.size]? = some (.cells #[.int .i64 1, .int .i64 2, .int .i64 0, .int .i64 0, .int .i64 0, .int .i64 0, .int .i64 0, .int .u32 0, .int .u32 0, .slice none 0 0, .slice none 0 0] 29) := hse ▸ (heap_setCells_ne neo_a [.bool false, .bool false, .bool false, .int .i64 0, .int .i64 0, .int .u64 0, .slice none 0 0] 0 w19).trans Vo.out
          have Vf2 : w20.heap[sf]? = some (.cells #[.int .i64 27, .int .i64 0, .int .i64 3, .int .i64 8, .int .i64 (-1), .int .i64 0, .bool false, .bool false, .int .i64 0, .bool false] 31) := hse ▸ (heap_setCells_ne nef_a [.bool false, .bool false, .bool false, .int .i64 0, .int .i64 0, .int .u64 0, .slice none 0 0] 0 w19).trans Vf.out
          have Vg2 : w20.heap[sg]? = some (.cells #[.int .i64 26, .int .i64 0, .int .i64 3, .int .i64 1, .int .i64 5, .int .i64 0, .bool false, .bool false, .int .i64 2, .bool false] 31) := hse ▸ (heap_setCells_ne nea_g.symm [.bool false, .bool false, .bool false, .int .i64 0, .int .i64 0, .int .u64 0, .slice none 0 0] 0 w19).trans Vg.out
          have Va2 : w20.heap[sa]? = some (.cells #[.bool false, .bool false, .bool false, .int .i64 0, .int .i64 0, .int .u64 0, .slice none 0 0] 39) := hse ▸ heap_setCells [.bool false, .bool false, .bool false, .int .i64 0, .int .i64 0, .int .u64 0, .slice none 0 0] w19 [] [.bool false, .bool false, .bool false, .int .i64 0, .int .i64 0, .int .u64 0, .slice none 0 0] rfl Va.out
          have hbb : Below _ _ w20 := hse ▸ below_setCells gea [.bool false, .bool false, .bool false, .int .i64 0, .int .i64 0, .int .u64 0, .slice none 0 0] 0 w19 HB.out.1
          have hbs : w20.heap.size = w19.heap.size := by rw [← hse, size_setCells]
          replace Vo := Lib.hid Vo2
          clear Vo2
          replace Vf := Lib.hid Vf2
          clear Vf2
          replace Va := Lib.hid Va2
          clear Va2
          replace Vg := Lib.hid Vg2
          clear Vg2
          replace HB := Lib.hid (And.intro hbb (show _ ≤ w20.heap.size by rw [hbs]; exact HB.out.2))
          clear hbb hbs hse
          go_wp2
          go_roundw
          case rel => exact Or.inr (Or.inr (Or.inl ⟨by go_num, HB, Vo, Vf, Va, Vg⟩))
          case measure => simp [intOf]
        · obtain ⟨co0, co1, co2, co3, co4, co5, co6, co7, co8, co9, co10⟩ := row11 Vo.out
          obtain ⟨cf0, cf1, cf2, cf3, cf4, cf5, cf6, cf7, cf8, cf9⟩ := row10 Vf.out
          go_wp2_with fail
          refine (K6.out _).mono ?_
          rintro e w17 ⟨rfl, hb⟩
          clear co0 co1 co2 co3 co4 co5 co6 co7 co8 co9 co10 cf0 cf1 cf2 cf3 cf4 cf5 cf6 cf7 cf8 cf9
          replace Vo := Lib.hid (blk_below Vo.out hb (blk_lt Vo.out))
          replace Vf := Lib.hid (blk_below Vf.out hb (blk_lt Vf.out))
          replace Va := Lib.hid (blk_below Va.out hb (blk_lt Va.out))
          replace Vg := Lib.hid (blk_below Vg.out hb (blk_lt Vg.out))
          replace HB := Lib.hid (And.intro (HB.out.1.trans (hb.mono HB.out.2)) (Nat.le_trans HB.out.2 hb.size))
          clear hb
          obtain ⟨pco0, pco1, pco2, pco3, pco4, pco5, pco6, pco7, pco8, pco9, pco10⟩ := row11 Vo.out
          obtain ⟨pfo0, pfo1, pfo2, pfo3, pfo4, pfo5, pfo6, pfo7, pfo8, pfo9, pfo10⟩ := frz11 Vo.out
          obtain ⟨w18, hw18⟩ : ∃ W, (((((((((((w17.setCell ⟨w.heap.size, 0, none⟩ (.int .i64 1)).setCell ⟨w.heap.size, 1, none⟩ (.int .i64 2)).setCell ⟨w.heap.size, 2, none⟩ (.int .i64 0)).setCell ⟨w.heap.size, 3, none⟩ (.int .i64 0)).setCell ⟨w.heap.size, 4, none⟩ (.int .i64 0)).setCell ⟨w.heap.size, 5, none⟩ (.int .i64 0)).setCell ⟨w.heap.size, 6, none⟩ (.int .i64 0)).setCell ⟨w.heap.size, 7, none⟩ (.int .u32 0)).setCell ⟨w.heap.size, 8, none⟩ (.int .u32 0)).setCell ⟨w.heap.size, 9, none⟩ (.slice none 0 0)).setCell ⟨w.heap.size, 10, none⟩ (.slice none 0 0)) = W := ⟨_, rfl⟩
          have hse : w17.setCells (w.heap.size) 0 [.int .i64 1, .int .i64 2, .int .i64 0, .int .i64 0, .int .i64 0, .int .i64 0, .int .i64 0, .int .u32 0, .int .u32 0, .slice none 0 0, .slice none 0 0] = w18 := hw18
          have Vf2 : w18.heap[sf]? = some (.cells #[.int .i64 27, .int .i64 0, .int .i64 3, .int .i64 8, .int .i64 (-1), .int .i64 0, .bool false, .bool false, .int .i64 0, .bool false] 31) := hse ▸ (heap_setCells_ne neo_f.symm [.int .i64 1, .int .i64 2, .int .i64 0, .int .i64 0, .int .i64 0, .int .i64 0, .int .i64 0, .int .u32 0, .int .u32 0, .slice none 0 0, .slice none 0 0] 0 w17).trans Vf.out
          have Va2 : w18.heap[sa]? = some (.cells #[.bool false, .bool false, .bool false, .int .i64 0, .int .i64 0, .int .u64 0, .slice none 0 0] 39) := hse ▸ (heap_setCells_ne neo_a.symm [.int .i64 1, .int .i64 2, .int .i64 0, .int .i64 0, .int .i64 0, .int .i64 0, .int .i64 0, .int .u32 0, .int .u32 0, .slice none 0 0, .slice none 0 0] 0 w17).trans Va.out
          have Vg2 : w18.heap[sg]? = some (.cells #[.int .i64 26, .int .i64 0, .int .i64 3, .int .i64 1, .int .i64 5, .int .i64 0, .bool false, .bool false, .int .i64 2, .bool false] 31) := hse ▸ (heap_setCells_ne neo_g.symm [.int .i64 1, .int .i64 2, .int .i64 0, .int .i64 0, .int .i64 0, .int .i64 0, .int .i64 0, .int .u32 0, .int .u32 0, .slice none 0 0, .slice none 0 0] 0 w17).trans Vg.out
          have Vo2 : w18.heap[w.heap.size]? = some (.cells #[.int .i64 1, .int .i64 2, .int .i64 0, .int .i64 0, .int .i64 0, .int .i64 0, .int .i64 0, .int .u32 0, .int .u32 0, .slice none 0 0, .slice none 0 0] 29) := hse ▸ heap_setCells [.int .i64 1, .int .i64 2, .int .i64 0, .int .i64 0, .int .i64 0, .int .i64 0, .int .i64 0, .int .u32 0, .int .u32 0, .slice none 0 0, .slice none 0 0] w17 [] [.int .i64 1, .int .i64 2, .int .i64 0, .int .i64 0, .int .i64 0, .int .i64 0, .int .i64 0, .int .u32 0, .int .u32 0, .slice none 0 0, .slice none 0 0] rfl Vo.out
          have hbb : Below _ _ w18 := hse ▸ below_setCells geo [.int .i64 1, .int .i64 2, .int .i64 0, .int .i64 0, .int .i64 0, .int .i64 0, .int .i64 0, .int .u32 0, .int .u32 0, .slice none 0 0, .slice none 0 0] 0 w17 HB.out.1
          have hbs : w18.heap.size = w17.heap.size := by rw [← hse, size_setCells]
          replace Vo := Lib.hid Vo2
          clear Vo2
          replace Vf := Lib.hid Vf2
          clear Vf2
          replace Va := Lib.hid Va2
          clear Va2
          replace Vg := Lib.hid Vg2
          clear Vg2
          replace HB := Lib.hid (And.intro hbb (show _ ≤ w18.heap.size by rw [hbs]; exact HB.out.2))
          clear hbb hbs hse
          obtain ⟨pcf0, pcf1, pcf2, pcf3, pcf4, pcf5, pcf6, pcf7, pcf8, pcf9⟩ := row10 Vf.out
          obtain ⟨pff0, pff1, pff2, pff3, pff4, pff5, pff6, pff7, pff8, pff9⟩ := frz10 Vf.out
          obtain ⟨w19, hw19⟩ : ∃ W, ((((((((((w18.setCell ⟨sf, 0, none⟩ (.int .i64 0)).setCell ⟨sf, 1, none⟩ (.int .i64 0)).setCell ⟨sf, 2, none⟩ (.int .i64 0)).setCell ⟨sf, 3, none⟩ (.int .i64 0)).setCell ⟨sf, 4, none⟩ (.int .i64 0)).setCell ⟨sf, 5, none⟩ (.int .i64 0)).setCell ⟨sf, 6, none⟩ (.bool false)).setCell ⟨sf, 7, none⟩ (.bool false)).setCell ⟨sf, 8, none⟩ (.int .i64 0)).setCell ⟨sf, 9, none⟩ (.bool false)) = W := ⟨_, rfl⟩
          have hse : w18.setCells (sf) 0 [.int .i64 0, .int .i64 0, .int .i64 0, .int .i64 0, .int .i64 0, .int .i64 0, .bool false, .bool false, .int .i64 0, .bool false] = w19 := hw19
          have Vo2 : w19.heap[w.heap.size]? = some (.cells #[.int .i64 1, .int .i64 2, .int .i64 0, .int .i64 0, .int .i64 0, .int .i64 0, .int .i64 0, .int .u32 0, .int .u32 0, .slice none 0 0, .slice none 0 0] 29) := hse ▸ (heap_setCells_ne neo_f [.int .i64 0, .int .i64 0, .int .i64 0, .int .i64 0, .int .i64 0, .int .i64 0, .bool false, .bool false, .int .i64 0, .bool false] 0 w18).trans Vo.out
          have Va2 : w19.heap[sa]? = some (.cells #[.bool false, .bool false, .bool false, .int .i64 0, .int .i64 0, .int .u64 0, .slice none 0 0] 39) := hse ▸ (heap_setCells_ne nef_a.symm [.int .i64 0, .int .i64 0, .int .i64 0, .int .i64 0, .int .i64 0, .int .i64 0, .bool false, .bool false, .int .i64 0, .bool false] 0 w18).trans Va.out
          have Vg2 : w19.heap[sg]? = some (.cells #[.int .i64 26, .int .i64 0, .int .i64 3, .int .i64 1, .int .i64 5, .int .i64 0, .bool false, .bool false, .int .i64 2, .bool false] 31) := hse ▸ (heap_setCells_ne nef_g.symm [.int .i64 0, .int .i64 0, .int .i64 0, .int .i64 0, .int .i64 0, .int .i64 0, .bool false, .bool false, .int .i64 0, .bool false] 0 w18).trans Vg.out
          have Vf2 : w19.heap[sf]? = some (.cells #[.int .i64 0, .int .i64 0, .int .i64 0, .int .i64 0, .int .i64 0, .int .i64 0, .bool false, .bool false, .int .i64 0, .bool false] 31) := hse ▸ heap_setCells [.int .i64 0, .int .i64 0, .int .i64 0, .int .i64 0, .int .i64 0, .int .i64 0, .bool false, .bool false, .int .i64 0, .bool false] w18 [] [.int .i64 27, .int .i64 0, .int .i64 3, .int .i64 8, .int .i64 (-1), .int .i64 0, .bool false, .bool false, .int .i64 0, .bool false] rfl Vf.out
          have hbb : Below _ _ w19 := hse ▸ below_setCells gef [.int .i64 0, .int .i64 0, .int .i64 0, .int .i64 0, .int .i64 0, .int .i64 0, .bool false, .bool false, .int .i64 0, .bool false] 0 w18 HB.out.1
          have hbs : w19.heap.size = w18.heap.size := by rw [← hse, size_setCells]
          replace Vo := Lib.hid Vo2
          clear Vo2
          replace Vf := Lib.hid Vf2
          clear Vf2
          replace Va := Lib.hid Va2
          clear Va2
          replace Vg := Lib.hid Vg2
          clear Vg2
          replace HB := Lib.hid (And.intro hbb (show _ ≤ w19.heap.size by rw [hbs]; exact HB.out.2))
          clear hbb hbs hse
          obtain ⟨pca0, pca1, pca2, pca3, pca4, pca5, pca6⟩ := row7 Va.out
          obtain ⟨pfa0, pfa1, pfa2, pfa3, pfa4, pfa5, pfa6⟩ := frz7 Va.out
          obtain ⟨w20, hw20⟩ : ∃ W, (((((((w19.setCell ⟨sa, 0, none⟩ (.bool true)).setCell ⟨sa, 1, none⟩ (.bool false)).setCell ⟨sa, 2, none⟩ (.bool false)).setCell ⟨sa, 3, none⟩ (.int .i64 2)).setCell ⟨sa, 4, none⟩ (.int .i64 0)).setCell ⟨sa, 5, none⟩ (.int .u64 0)).setCell ⟨sa, 6, none⟩ (.slice none 0 0)) = W := ⟨_, rfl⟩
          have hse : w19.setCells (sa) 0 [.bool true, .bool false, .bool false, .int .i64 2, .int .i64 0, .int .u64 0, .slice none 0 0] = w20 := hw20
          have Vo2 : w20.heap[w.heap.size]? = some (.cells #[.int .i64 1, .int .i64 2, .int .i64 0, .int .i64 0, .int .i64 0, .int .i64 0, .int .i64 0, .int .u32 0, .int .u32 0, .slice none 0 0, .slice none 0 0] 29) := hse ▸ (heap_setCells_ne neo_a [.bool true, .bool false, .bool false, .int .i64 2, .int .i64 0, .int .u64 0, .slice none 0 0] 0 w19).trans Vo.out
          have Vf2 : w20.heap[sf]? = some (.cells #[.int .i64 0, .int .i64 0, .int .i64 0, .int .i64 0, .int .i64 0, .int .i64 0, .bool false, .bool false, .int .i64 0, .bool false] 31) := hse ▸ (heap_setCells_ne nef_a [.bool true, .bool false, .bool false, .int .i64 2, .int .i64 0, .int .u64 0, .slice none 0 0] 0 w19).trans Vf.out
          have Vg2 : w20.heap[sg]? = some (.cells #[.int .i64 26, .int .i64 0, .int .i64 3, .int .i64 1, .int .i64 5, .int .i64 0, .bool false, .bool false, .int .i64 2, .bool false] 31) := hse ▸ (heap_setCells_ne nea_g.symm [.bool true, .bool false, .bool false, .int .i64 2, .int .i64 0, .int .u64 0, .slice none 0 0] 0 w19).trans Vg.out
          have Va2 : w20.heap[sa]? = some (.cells #[.bool true, .bool false, .bool false, .int .i64 2, .int .i64 0, .int .u64 0, .slice none 0 0] 39) := hse ▸ heap_setCells [.bool true, .bool false, .bool false, .int .i64 2, .int .i64 0, .int .u64 0, .slice none 0 0] w19 [] [.bool false, .bool false, .bool false, .int .i64 0, .int .i64 0, .int .u64 0, .slice none 0 0] rfl Va.out
          have hbb : Below _ _ w20 := hse ▸ below_setCells gea [.bool true, .bool false, .bool false, .int .i64 2, .int .i64 0, .int .u64 0, .slice none 0 0] 0 w19 HB.out.1
          have hbs : w20.heap.size = w19.heap.size := by rw [← hse, size_setCells]
          replace Vo := Lib.hid Vo2
          clear Vo2
          replace Vf := Lib.hid Vf2
          clear Vf2
          replace Va := Lib.hid Va2
          clear Va2
          replace Vg := Lib.hid Vg2
          clear Vg2
          replace HB := Lib.hid (And.intro hbb (show _ ≤ w20.heap.size by rw [hbs]; exact HB.out.2))
          clear hbb hbs hse
          go_wp2
          go_roundw
          case rel => exact Or.inr (Or.inr (Or.inr (⟨by go_num, HB, Vo, Vf, Va, Vg⟩)))
          case measure => simp [intOf]
        · obtain ⟨co0, co1, co2, co3, co4, co5, co6, co7, co8, co9, co10⟩ := row11 Vo.out
          obtain ⟨fo0, fo1, fo2, fo3, fo4, fo5, fo6, fo7, fo8, fo9, fo10⟩ := frz11 Vo.out
          obtain ⟨ca0, ca1, ca2, ca3, ca4, ca5, ca6⟩ := row7 Va.out
          obtain ⟨fa0, fa1, fa2, fa3, fa4, fa5, fa6⟩ := frz7 Va.out
          obtain ⟨cg0, cg1, cg2, cg3, cg4, cg5, cg6, cg7, cg8, cg9⟩ := row10 Vg.out
          obtain ⟨fg0, fg1, fg2, fg3, fg4, fg5, fg6, fg7, fg8, fg9⟩ := frz10 Vg.out
          obtain ⟨w17, hw17⟩ : ∃ W, wr.setCell ⟨sg, 8, none⟩ (.int .i64 0) = W := ⟨_, rfl⟩
          have Vo2 : w17.heap[w.heap.size]? = some (.cells #[.int .i64 1, .int .i64 2, .int .i64 0, .int .i64 0, .int .i64 0, .int .i64 0, .int .i64 0, .int .u32 0, .int .u32 0, .slice none 0 0, .slice none 0 0] 29) := hw17 ▸ (Below.heap_setCell _ ⟨sg, 8, none⟩ (.int .i64 0) w.heap.size neo_g).trans Vo.out
          have Vf2 : w17.heap[sf]? = some (.cells #[.int .i64 0, .int .i64 0, .int .i64 0, .int .i64 0, .int .i64 0, .int .i64 0, .bool false, .bool false, .int .i64 0, .bool false] 31) := hw17 ▸ (Below.heap_setCell _ ⟨sg, 8, none⟩ (.int .i64 0) sf nef_g).trans Vf.out
          have Va2 : w17.heap[sa]? = some (.cells #[.bool true, .bool false, .bool false, .int .i64 2, .int .i64 0, .int .u64 0, .slice none 0 0] 39) := hw17 ▸ (Below.heap_setCell _ ⟨sg, 8, none⟩ (.int .i64 0) sa nea_g).trans Va.out
          have Vg2 : w17.heap[sg]? = some (.cells #[.int .i64 26, .int .i64 0, .int .i64 3, .int .i64 1, .int .i64 5, .int .i64 0, .bool false, .bool false, .int .i64 0, .bool false] 31) := hw17 ▸ blk_set (j := 8) Vg.out (.int .i64 0)
          have hbb : Below _ _ w17 := hw17 ▸ HB.out.1.setCell (p := ⟨sg, 8, none⟩) geg _
          have hbs : w17.heap.size = wr.heap.size := by rw [← hw17]; simp [World.setCell]
          replace Vo := Lib.hid Vo2
          clear Vo2
          replace Vf := Lib.hid Vf2
          clear Vf2
          replace Va := Lib.hid Va2
          clear Va2
          replace Vg := Lib.hid Vg2
          clear Vg2
          replace HB := Lib.hid (And.intro hbb (show _ ≤ w17.heap.size by rw [hbs]; exact HB.out.2))
          clear hbb hbs
          go_wp2
          clear co0 co1 co2 co3 co4 co5 co6 co7 co8 co9 co10 fo0 fo1 fo2 fo3 fo4 fo5 fo6 fo7 fo8 fo9 fo10 ca0 ca1 ca2 ca3 ca4 ca5 ca6 fa0 fa1 fa2 fa3 fa4 fa5 fa6 cg0 cg1 cg2 cg3 cg4 cg5 cg6 cg7 cg8 cg9 fg0 fg1 fg2 fg3 fg4 fg5 fg6 fg7 fg8 fg9
          go_loopw [7] (fun iv wr => (iv = .int .i64 0 ∧ Hid (Below w.heap.size w wr ∧ w.heap.size ≤ wr.heap.size) ∧ Hid (wr.heap[w.heap.size]? = some (.cells #[.int .i64 1, .int .i64 2, .int .i64 0, .int .i64 0, .int .i64 0, .int .i64 0, .int .i64 0, .int .u32 0, .int .u32 0, .slice none 0 0, .slice none 0 0] 29)) ∧ Hid (wr.heap[sf]? = some (.cells #[.int .i64 0, .int .i64 0, .int .i64 0, .int .i64 0, .int .i64 0, .int .i64 0, .bool false, .bool false, .int .i64 0, .bool false] 31)) ∧ Hid (wr.heap[sa]? = some (.cells #[.bool true, .bool false, .bool false, .int .i64 2, .int .i64 0, .int .u64 0, .slice none 0 0] 39)) ∧ Hid (wr.heap[sg]? = some (.cells #[.int .i64 26, .int .i64 0, .int .i64 3, .int .i64 1, .int .i64 5, .int .i64 0, .bool false, .bool false, .int .i64 0, .bool false] 31))) ∨ (iv = .int .i64 1 ∧ Hid (Below w.heap.size w wr ∧ w.heap.size ≤ wr.heap.size) ∧ Hid (wr.heap[w.heap.size]? = some (.cells #[.int .i64 1, .int .i64 2, .int .i64 0, .int .i64 0, .int .i64 0, .int .i64 0, .int .i64 0, .int .u32 0, .int .u32 0, .slice none 0 0, .slice none 0 0] 29)) ∧ Hid (wr.heap[sf]? = some (.cells #[.int .i64 0, .int .i64 0, .int .i64 0, .int .i64 0, .int .i64 0, .int .i64 0, .bool false, .bool false, .int .i64 0, .bool false] 31)) ∧ Hid (wr.heap[sa]? = some (.cells #[.bool false, .bool false, .bool false, .int .i64 0, .int .i64 0, .int .u64 0, .slice none 0 0] 39)) ∧ Hid (wr.heap[sg]? = some (.cells #[.int .i64 26, .int .i64 0, .int .i64 2, .int .i64 2, .int .i64 5, .int .i64 0, .bool true, .bool false, .int .i64 0, .bool false] 31))) ∨ (iv = .int .i64 2 ∧ Hid (Below w.heap.size w wr ∧ w.heap.size ≤ wr.heap.size) ∧ Hid (wr.heap[w.heap.size]? = some (.cells #[.int .i64 1, .int .i64 1, .int .i64 0, .int .i64 0, .int .i64 0, .int .i64 0, .int .i64 0, .int .u32 0, .int .u32 0, .slice none 0 0, .slice none 0 0] 29)) ∧ Hid (wr.heap[sf]? = some (.cells #[.int .i64 0, .int .i64 0, .int .i64 0, .int .i64 0, .int .i64 0, .int .i64 0, .bool false, .bool false, .int .i64 0, .bool false] 31)) ∧ Hid (wr.heap[sa]? = some (.cells #[.bool true, .bool false, .bool false, .int .i64 0, .int .i64 0, .int .u64 0, .slice none 0 0] 39)) ∧ Hid (wr.heap[sg]? = some (.cells #[.int .i64 0, .int .i64 0, .int .i64 0, .int .i64 0, .int .i64 0, .int .i64 0, .bool false, .bool false, .int .i64 0, .bool false] 31)))) (fun iv _ => 2 - (intOf iv).toNat)
          case atStart => exact Or.inl ⟨rfl, HB, Vo, Vf, Va, Vg⟩
          case round =>
            clear HB Vo Vf Va Vg
            rcases hrel with ⟨rfl, HB, Vo, Vf, Va, Vg⟩ | ⟨rfl, HB, Vo, Vf, Va, Vg⟩ | ⟨rfl, HB, Vo, Vf, Va, Vg⟩
            · obtain ⟨co0, co1, co2, co3, co4, co5, co6, co7, co8, co9, co10⟩ := row11 Vo.out
              obtain ⟨cg0, cg1, cg2, cg3, cg4, cg5, cg6, cg7, cg8, cg9⟩ := row10 Vg.out
              go_wp2_with fail
              refine (K7.out _).mono ?_
              rintro e w18 ⟨rfl, hb⟩
              clear co0 co1 co2 co3 co4 co5 co6 co7 co8 co9 co10 cg0 cg1 cg2 cg3 cg4 cg5 cg6 cg7 cg8 cg9
              replace Vo := Lib.hid (blk_below Vo.out hb (blk_lt Vo.out))
              replace Vf := Lib.hid (blk_below Vf.out hb (blk_lt Vf.out))
              replace Va := Lib.hid (blk_below Va.out hb (blk_lt Va.out))
              replace Vg := Lib.hid (blk_below Vg.out hb (blk_lt Vg.out))
              replace HB := Lib.hid (And.intro (HB.out.1.trans (hb.mono HB.out.2)) (Nat.le_trans HB.out.2 hb.size))
              clear hb
              obtain ⟨pco0, pco1, pco2, pco3, pco4, pco5, pco6, pco7, pco8, pco9, pco10⟩ := row11 Vo.out
              obtain ⟨pfo0, pfo1, pfo2, pfo3, pfo4, pfo5, pfo6, pfo7, pfo8, pfo9, pfo10⟩ := frz11 Vo.out
              obtain ⟨w19, hw19⟩ : ∃ W, (((((((((((w18.setCell ⟨w.heap.size, 0, none⟩ (.int .i64 1)).setCell ⟨w.heap.size, 1, none⟩ (.int .i64 2)).setCell ⟨w.heap.size, 2, none⟩ (.int .i64 0)).setCell ⟨w.heap.size, 3, none⟩ (.int .i64 0)).setCell ⟨w.heap.size, 4, none⟩ (.int .i64 0)).setCell ⟨w.heap.size, 5, none⟩ (.int .i64 0)).setCell ⟨w.heap.size, 6, none⟩ (.int .i64 0)).setCell ⟨w.heap.size, 7, none⟩ (.int .u32 0)).setCell ⟨w.heap.size, 8, none⟩ (.int .u32 0)).setCell ⟨w.heap.size, 9, none⟩ (.slice none 0 0)).setCell ⟨w.heap.size, 10, none⟩ (.slice none 0 0)) = W := ⟨_, rfl⟩
              have hse : w18.setCells (w.heap.size) 0 [.int .i64 1, .int .i64 2, .int .i64 0, .int .i64 0, .int .i64 0, .int .i64 0, .int .i64 0, .int .u32 0, .int .u32 0, .slice none 0 0, .slice none 0 0] = w19 := hw19
              have Vf2 : w19.heap[sf]? = some (.cells #[.int .i64 0, .int .i64 0, .int .i64 0, .int .i64 0, .int .i64 0, .int .i64 0, .bool false, .bool false, .int .i64 0, .bool false] 31) := hse ▸ (heap_setCells_ne neo_f.symm [.int .i64 1, .int .i64 2, .int .i64 0, .int .i64 0, .int .i64 0, .int .i64 0, .int .i64 0, .int .u32 0, .int .u32 0, .slice none 0 0, .slice none 0 0] 0 w18).trans Vf.out
              have Va2 : w19.heap[sa]? = some (.cells #[.bool true, .bool false, .bool false, .int .i64 2, .int .i64 0, .int .u64 0, .slice none 0 0] 39) := hse ▸ (heap_setCells_ne neo_a.symm [.int .i64 1, .int .i64 2, .int .i64 0, .int .i64 0, .int .i64 0, .int .i64 0, .int .i64 0, .int .u32 0, .int .u32 0, .slice none 0 0, .slice none 0 0] 0 w18).trans Va.out
              have Vg2 : w19.heap[sg]? = some (.cells #[.int .i64 26, .int .i64 0, .int .i64 3, .int .i64 1, .int .i64 5, .int .i64 0, .bool false, .bool false, .int .i64 0, .bool false] 31) := hse ▸ (heap_setCells_ne neo_g.symm [.int .i64 1, .int .i64 2, .int .i64 0, .int .i64 0, .int .i64 0, .int .i64 0, .int .i64 0, .int .u32 0, .int .u32 0, .slice none 0 0, .slice none 0 0] 0 w18).trans Vg.out
              have Vo2 : w19.heap[w.heap.size]? = some (.cells #[.int .i64 1, .int .i64 2, .int .i64 0, .int .i64 0, .int .i64 0, .int .i64 0, .int .i64 0, .int .u32 0, .int .u32 0, .slice none 0 0, .slice none 0 0] 29) := hse ▸ heap_setCells [.int .i64 1, .int .i64 2, .int .i64 0, .int .i64 0, .int .i64 0, .int .i64 0, .int .i64 0, .int .u32 0, .int .u32 0, .slice none 0 0, .slice none 0 0] w18 [] [.int .i64 1, .int .i64 2, .int .i64 0, .int .i64 0, .int .i64 0, .int .i64 0, .int .i64 0, .int .u32 0, .int .u32 0, .slice none 0 0, .slice none 0 0] rfl Vo.out
              have hbb : Below _ _ w19 := hse ▸ below_setCells geo [.int .i64 1, .int .i64 2, .int .i64 0, .int .i64 0, .int .i64 0, .int .i64 0, .int .i64 0, .int .u32 0, .int .u32 0, .slice none 0 0, .slice none 0 0] 0 w18 HB.out.1
              have hbs : w19.heap.size = w18.heap.size := by rw [← hse, size_setCells]
              replace Vo := Lib.hid Vo2
              clear Vo2
              replace Vf := Lib.hid Vf2
              clear Vf2
              replace Va := Lib.hid Va2
              clear Va2
              replace Vg := Lib.hid Vg2
              clear Vg2
              replace HB := Lib.hid (And.intro hbb (show _ ≤ w19.heap.size by rw [hbs]; exact HB.out.2))
              clear hbb hbs hse
              obtain ⟨pcg0, pcg1, pcg2, pcg3, pcg4, pcg5, pcg6, pcg7, pcg8, pcg9⟩ := row10 Vg.out
              obtain ⟨pfg0, pfg1, pfg2, pfg3, pfg4, pfg5, pfg6, pfg7, pfg8, pfg9⟩ := frz10 Vg.out
              obtain ⟨w20, hw20⟩ : ∃ W, ((((((((((w19.setCell ⟨sg, 0, none⟩ (.int .i64 26)).setCell ⟨sg, 1, none⟩ (.int .i64 0)).setCell ⟨sg, 2, none⟩ (.int .i64 2)).setCell ⟨sg, 3, none⟩ (.int .i64 2)).setCell ⟨sg, 4, none⟩ (.int .i64 5)).setCell ⟨sg, 5, none⟩ (.int .i64 0)).setCell ⟨sg, 6, none⟩ (.bool true)).setCell ⟨sg, 7, none⟩ (.bool false)).setCell ⟨sg, 8, none⟩ (.int .i64 0)).setCell ⟨sg, 9, none⟩ (.bool false)) = W := ⟨_, rfl⟩
              have hse : w19.setCells (sg) 0 [.int .i64 26, .int .i64 0, .int .i64 2, .int .i64 2, .int .i64 5, .int .i64 0, .bool true, .bool false, .int .i64 0, .bool false] = w20 := hw20
              have Vo2 : w20.heap[w.heap.size]? = some (.cells #[.int .i64 1, .int .i64 2, .int .i64 0, .int .i64 0, .int .i64 0, .int .i64 0, .int .i64 0, .int .u32 0, .int .u32 0, .slice none 0 0, .slice none 0 0] 29) := hse ▸ (heap_setCells_ne neo_g [.int .i64 26, .int .i64 0, .int .i64 2, .int .i64 2, .int .i64 5, .int .i64 0, .bool true, .bool false, .int .i64 0, .bool false] 0 w19).trans Vo.out
              have Vf2 : w20.heap[sf]? = some (.cells #[.int .i64 0, .int .i64 0, .int .i64 0, .int .i64 0, .int .i64 0, .int .i64 0, .bool false, .bool false, .int .i64 0, .bool false] 31) := hse ▸ (heap_setCells_ne nef_g [.int .i64 26, .int .i64 0, .int .i64 2, .int .i64 2, .int .i64 5, .int .i64 0, .bool true, .bool false, .int .i64 0, .bool false] 0 w19).trans Vf.out
              have Va2 : w20.heap[sa]? = some (.cells #[.bool true, .bool false, .bool false, .int .i64 2, .int .i64 0, .int .u64 0, .slice none 0 0] 39) := hse ▸ (heap_setCells_ne nea_g [.int .i64 26, .int .i64 0, .int .i64 2, .int .i64 2, .int .i64 5, .int .i64 0, .bool true, .bool false, .int .i64 0, .bool false] 0 w19).trans Va.out
              have Vg2 : w20.heap[sg]? = some (.cells #[.int .i64 26, .int .i64 0, .int .i64 2, .int .i64 2, .int .i64 5, .int .i64 0, .bool true, .bool false, .int .i64 0, .bool false] 31) := hse ▸ heap_setCells [.int .i64 26, .int .i64 0, .int .i64 2, .int .i64 2, .int .i64 5, .int .i64 0, .bool true, .bool false, .int .i64 0, .bool false] w19 [] [.int .i64 26, .int .i64 0, .int .i64 3, .int .i64 1, .int .i64 5, .int .i64 0, .bool false, .bool false, .int .i64 0, .bool false] rfl Vg.out
              have hbb : Below _ _ w20 := hse ▸ below_setCells geg [.int .i64 26, .int .i64 0, .int .i64 2, .int .i64 2, .int .i64 5, .int .i64 0, .bool true, .bool false, .int .i64 0, .bool false] 0 w19 HB.out.1
              have hbs : w20.heap.size = w19.heap.size := by rw [← hse, size_setCells]
              replace Vo := Lib.hid Vo2
              clear Vo2
              replace Vf := Lib.hid Vf2
              clear Vf2
              replace Va := Lib.hid Va2
              clear Va2
              replace Vg := Lib.hid Vg2
              clear Vg2
              replace HB := Lib.hid (And.intro hbb (show _ ≤ w20.heap.size by rw [hbs]; exact HB.out.2))
              clear hbb hbs hse
              obtain ⟨pca0, pca1, pca2, pca3, pca4, pca5, pca6⟩ := row7 Va.out
              obtain ⟨pfa0, pfa1, pfa2, pfa3, pfa4, pfa5, pfa6⟩ := frz7 Va.out
              obtain ⟨w21, hw21⟩ : ∃ W, (((((((w20.setCell ⟨sa, 0, none⟩ (.bool false)).setCell ⟨sa, 1, none⟩ (.bool false)).setCell ⟨sa, 2, none⟩ (.bool false)).setCell ⟨sa, 3, none⟩ (.int .i64 0)).setCell ⟨sa, 4, none⟩ (.int .i64 0)).setCell ⟨sa, 5, none⟩ (.int .u64 0)).setCell ⟨sa, 6, none⟩ (.slice none 0 0)) = W := ⟨_, rfl⟩
              have hse : w20.setCells (sa) 0 [.bool false, .bool false, .bool false, .int .i64 0, .int .i64 0, .int .u64 0, .slice none 0 0] = w21 := hw21
              have Vo2 : w21.heap[w.heap.size]? = some (.cells #[.int .i64 1, .int .i64 2, .int .i64 0, .int .i64 0, .int .i64 0, .int .i64 0, .int .i64 0, .int .u32 0, .int .u32 0, .slice none 0 0, .slice none 0 0] 29) := hse ▸ (heap_setCells_ne neo_a [.bool false, .bool false, .bool false, .int .i64 0, .int .i64 0, .int .u64 0, .slice none 0 0] 0 w20).trans Vo.out
              have Vf2 : w21.heap[sf]? = some (.cells #[.int .i64 0, .int .i64 0, .int .i64 0, .int .i64 0, .int .i64 0, .int .i64 0, .bool false, .bool false, .int .i64 0, .bool false] 31) := hse ▸ (heap_setCells_ne nef_a [.bool false, .bool false, .bool false, .int .i64 0, .int .i64 0, .int .u64 0, .slice none 0 0] 0 w20).trans Vf.out
              have Vg2 : w21.heap[sg]? = some (.cells #[.int .i64 26, .int .i64 0, .int .i64 2, .int .i64 2, .int .i64 5, .int .i64 0, .bool true, .bool false, .int .i64 0, .bool false] 31) := hse ▸ (heap_setCells_ne nea_g.symm [.bool false, .bool false, .bool false, .int .i64 0, .int .i64 0, .int .u64 0, .slice none 0 0] 0 w20).trans Vg.out
              have Va2 : w21.heap[sa]? = some (.cells #[.bool false, .bool false, .bool false, .int .i64 0, .int .i64 0, .int .u64 0, .slice none 0 0] 39) := hse ▸ heap_setCells [.bool false, .bool false, .bool false, .int .i64 0, .int .i64 0, .int .u64 0, .slice none 0 0] w20 [] [.bool true, .bool false, .bool false, .int .i64 2, .int .i64 0, .int .u64 0, .slice none 0 0] rfl Va.out
              have hbb : Below _ _ w21 := hse ▸ below_setCells gea [.bool false, .bool false, .bool false, .int .i64 0, .int .i64 0, .int .u64 0, .slice none 0 0] 0 w20 HB.out.1
              have hbs : w21.heap.size = w20.heap.size := by rw [← hse, size_setCells]
              replace Vo := Lib.hid Vo2
              clear Vo2
              replace Vf := Lib.hid Vf2
              clear Vf2
              replace Va := Lib.hid Va2
              clear Va2
              replace Vg := Lib.hid Vg2
              clear Vg2
              replace HB := Lib.hid (And.intro hbb (show _ ≤ w21.heap.size by rw [hbs]; exact HB.out.2))
              clear hbb hbs hse
              go_wp2
              go_roundw
              case rel => exact Or.inr (Or.inl ⟨by go_num, HB, Vo, Vf, Va, Vg⟩)
              case measure => simp [intOf]
            · obtain ⟨co0, co1, co2, co3, co4, co5, co6, co7, co8, co9, co10⟩ := row11 Vo.out
              obtain ⟨cg0, cg1, cg2, cg3, cg4, cg5, cg6, cg7, cg8, cg9⟩ := row10 Vg.out
              go_wp2_with fail
              refine (K8.out _).mono ?_
              rintro e w18 ⟨rfl, hb⟩
              clear co0 co1 co2 co3 co4 co5 co6 co7 co8 co9 co10 cg0 cg1 cg2 cg3 cg4 cg5 cg6 cg7 cg8 cg9
              replace Vo := Lib.hid (blk_below Vo.out hb (blk_lt Vo.out))
              replace Vf := Lib.hid (blk_below Vf.out hb (blk_lt Vf.out))
              replace Va := Lib.hid (blk_below Va.out hb (blk_lt Va.out))
              replace Vg := Lib.hid (blk_below Vg.out hb (blk_lt Vg.out))
              replace HB := Lib.hid (And.intro (HB.out.1.trans (hb.mono HB.out.2)) (Nat.le_trans HB.out.2 hb.size))
              clear hb
              obtain ⟨pco0, pco1, pco2, pco3, pco4, pco5, pco6, pco7, pco8, pco9, pco10⟩ := row11 Vo.out
              obtain ⟨pfo0, pfo1, pfo2, pfo3, pfo4, pfo5, pfo6, pfo7, pfo8, pfo9, pfo10⟩ := frz11 Vo.out
              obtain ⟨w19, hw19⟩ : ∃ W, (((((((((((w18.setCell ⟨w.heap.size, 0, none⟩ (.int .i64 1)).setCell ⟨w.heap.size, 1, none⟩ (.int .i64 1)).setCell ⟨w.heap.size, 2, none⟩ (.int .i64 0)).setCell ⟨w.heap.size, 3, none⟩ (.int .i64 0)).setCell ⟨w.heap.size, 4, none⟩ (.int .i64 0)).setCell ⟨w.heap.size, 5, none⟩ (.int .i64 0)).setCell ⟨w.heap.size, 6, none⟩ (.int .i64 0)).setCell ⟨w.heap.size, 7, none⟩ (.int .u32 0)).setCell ⟨w.heap.size, 8, none⟩ (.int .u32 0)).setCell ⟨w.heap.size, 9, none⟩ (.slice none 0 0)).setCell ⟨w.heap.size, 10, none⟩ (.slice none 0 0)) = W := ⟨_, rfl⟩
              have hse : w18.setCells (w.heap.size) 0 [.int .i64 1, .int .i64 1, .int .i64 0, .int .i64 0, .int .i64 0, .int .i64 0, .int .i64 0, .int .u32 0, .int .u32 0, .slice none 0 0, .slice none 0 0] = w19 := hw19
              have Vf2 : w19.heap[sf]? = some (.cells #[.int .i64 0, .int .i64 0, .int .i64 0, .int .i64 0, .int .i64 0, .int .i64 0, .bool false, .bool false, .int .i64 0, .bool false] 31) := hse ▸ (heap_setCells_ne neo_f.symm [.int .i64 1, .int .i64 1, .int .i64 0, .int .i64 0, .int .i64 0, .int .i64 0, .int .i64 0, .int .u32 0, .int .u32 0, .slice none 0 0, .slice none 0 0] 0 w18).trans Vf.out
              have Va2 : w19.heap[sa]? = some (.cells #[.bool false, .bool false, .bool false, .int .i64 0, .int .i64 0, .int .u64 0, .slice none 0 0] 39) := hse ▸ (heap_setCells_ne neo_a.symm [.int .i64 1, .int .i64 1, .int .i64 0, .int .i64 0, .int .i64 0, .int .i64 0, .int .i64 0, .int .u32 0, .int .u32 0, .slice none 0 0, .slice none 0 0] 0 w18).trans Va.out
              have Vg2 : w19.heap[sg]? = some (.cells #[.int .i64 26, .int .i64 0, .int .i64 2, .int .i64 2, .int .i64 5, .int .i64 0, .bool true, .bool false, .int .i64 0, .bool false] 31) := hse ▸ (heap_setCells_ne neo_g.symm [.int .i64 1, .int .i64 1, .int .i64 0, .int .i64 0, .int .i64 0, .int .i64 0, .int .i64 0, .int .u32 0, .int .u32 0, .slice none 0 0, .slice none 0 0] 0 w18).trans Vg.out
              have Vo2 : w19.heap[w.heap.size]? = some (.cells #[.int .i64 1, .int .i64 1, .int .i64 0, .int .i64 0, .int .i64 0, .int .i64 0, .int .i64 0, .int .u32 0, .int .u32 0, .slice none 0 0, .slice none 0 0] 29) := hse ▸ heap_setCells [.int .i64 1, .int .i64 1, .int .i64 0, .int .i64 0, .int .i64 0, .int .i64 0, .int .i64 0, .int .u32 0, .int .u32 0, .slice none 0 0, .slice none 0 0] w18 [] [.int .i64 1, .int .i64 2, .int .i64 0, .int .i64 0, .int .i64 0, .int .i64 0, .int .i64 0, .int .u32 0, .int .u32 0, .slice none 0 0, .slice none 0 0] rfl Vo.out
              have hbb : Below _ _ w19 := hse ▸ below_setCells geo [.int .i64 1, .int .i64 1, .int .i64 0, .int .i64 0, .int .i64 0, .int .i64 0, .int .i64 0, .int .u32 0, .int .u32 0, .slice none 0 0, .slice none 0 0] 0 w18 HB.out.1
              have hbs : w19.heap.size = w18.heap.size := by rw [← hse, size_setCells]
              replace Vo := Lib.hid Vo2
              clear Vo2
              replace Vf := Lib.hid Vf2
              clear Vf2
              replace Va := Lib.hid Va2
              clear Va2
              replace Vg := Lib.hid Vg2
              clear Vg2
              replace HB := Lib.hid (And.intro hbb (show _ ≤ w19.heap.size by rw [hbs]; exact HB.out.2))
              clear hbb hbs hse
              obtain ⟨pcg0, pcg1, pcg2, pcg3, pcg4, pcg5, pcg6, pcg7, pcg8, pcg9⟩ := row10 Vg.out
              obtain ⟨pfg0, pfg1, pfg2, pfg3, pfg4, pfg5, pfg6, pfg7, pfg8, pfg9⟩ := frz10 Vg.out
              obtain ⟨w20, hw20⟩ : ∃ W, ((((((((((w19.setCell ⟨sg, 0, none⟩ (.int .i64 0)).setCell ⟨sg, 1, none⟩ (.int .i64 0)).setCell ⟨sg, 2, none⟩ (.int .i64 0)).setCell ⟨sg, 3, none⟩ (.int .i64 0)).setCell ⟨sg, 4, none⟩ (.int .i64 0)).setCell ⟨sg, 5, none⟩ (.int .i64 0)).setCell ⟨sg, 6, none⟩ (.bool false)).setCell ⟨sg, 7, none⟩ (.bool false)).setCell ⟨sg, 8, none⟩ (.int .i64 0)).setCell ⟨sg, 9, none⟩ (.bool false)) = W := ⟨_, rfl⟩
              have hse : w19.setCells (sg) 0 [.int .i64 0, .int .i64 0, .int .i64 0, .int .i64 0, .int .i64 0, .int .i64 0, .bool false, .bool false, .int .i64 0, .bool false] = w20 := hw20
              have Vo2 : w20.heap[w.heap.size]? = some (.cells #[.int .i64 1, .int .i64 1, .int .i64 0, .int .i64 0, .int .i64 0, .int .i64 0, .int .i64 0, .int .u32 0, .int .u32 0, .slice none 0 0, .slice none 0 0] 29) := hse ▸ (heap_setCells_ne neo_g [.int .i64 0, .int .i64 0, .int .i64 0, .int .i64 0, .int .i64 0, .int .i64 0, .bool false, .bool false, .int .i64 0, .bool false] 0 w19).trans Vo.out
              have Vf2 : w20.heap[sf]? = some (.cells #[.int .i64 0, .int .i64 0, .int .i64 0, .int .i64 0, .int .i64 0, .int .i64 0, .bool false, .bool false, .int .i64 0, .bool false] 31) := hse ▸ (heap_setCells_ne nef_g [.int .i64 0, .int .i64 0, .int .i64 0, .int .i64 0, .int .i64 0, .int .i64 0, .bool false, .bool false, .int .i64 0, .bool false] 0 w19).trans Vf.out
              have Va2 : w20.heap[sa]? = some (.cells #[.bool false, .bool false, .bool false, .int .i64 0, .int .i64 0, .int .u64 0, .slice none 0 0] 39) := hse ▸ (heap_setCells_ne nea_g [.int .i64 0, .int .i64 0, .int .i64 0, .int .i64 0, .int .i64 0, .int .i64 0, .bool false, .bool false, .int .i64 0, .bool false] 0 w19).trans Va.out
              have Vg2 : w20.heap[sg]? = some (.cells #[.int .i64 0, .int .i64 0, .int .i64 0, .int .i64 0, .int .i64 0, .int .i64 0, .bool false, .bool false, .int .i64 0, .bool false] 31) := hse ▸ heap_setCells [.int .i64 0, .int .i64 0, .int .i64 0, .int .i64 0, .int .i64 0, .int .i64 0, .bool false, .bool false, .int .i64 0, .bool false] w19 [] [.int .i64 26, .int .i64 0, .int .i64 2, .int .i64 2, .int .i64 5, .int .i64 0, .bool true, .bool false, .int .i64 0, .bool false] rfl Vg.out
              have hbb : Below _ _ w20 := hse ▸ below_setCells geg [.int .i64 0, .int .i64 0, .int .i64 0, .int .i64 0, .int .i64 0, .int .i64 0, .bool false, .bool false, .int .i64 0, .bool false] 0 w19 HB.out.1
              have hbs : w20.heap.size = w19.heap.size := by rw [← hse, size_setCells]
              replace Vo := Lib.hid Vo2
              clear Vo2
              replace Vf := Lib.hid Vf2
              clear Vf2
              replace Va := Lib.hid Va2
              clear Va2
              replace Vg := Lib.hid Vg2
              clear Vg2
              replace HB := Lib.hid (And.intro hbb (show _ ≤ w20.heap.size by rw [hbs]; exact HB.out.2))
              clear hbb hbs hse
              obtain ⟨pca0, pca1, pca2, pca3, pca4, pca5, pca6⟩ := row7 Va.out
              obtain ⟨pfa0, pfa1, pfa2, pfa3, pfa4, pfa5, pfa6⟩ := frz7 Va.out
              obtain ⟨w21, hw21⟩ : ∃ W, (((((((w20.setCell ⟨sa, 0, none⟩ (.bool true)).setCell ⟨sa, 1, none⟩ (.bool false)).setCell ⟨sa, 2, none⟩ (.bool false)).setCell ⟨sa, 3, none⟩ (.int .i64 0)).setCell ⟨sa, 4, none⟩ (.int .i64 0)).setCell ⟨sa, 5, none⟩ (.int .u64 0)).setCell ⟨sa, 6, none⟩ (.slice none 0 0)) = W := ⟨_, rfl⟩
              have hse : w20.setCells (sa) 0 [.bool true, .bool false, .bool false, .int .i64 0, .int .i64 0, .int .u64 0, .slice none 0 0] = w21 := hw21
              have Vo2 : w21.heap[w.heap.size]? = some (.cells #[.int .i64 1, .int .i64 1, .int .i64 0, .int .i64 0, .int .i64 0, .int .i64 0, .int .i64 0, .int .u32 0, .int .u32 0, .slice none 0 0, .slice none 0 0] 29) := hse ▸ (heap_setCells_ne neo_a [.bool true, .bool false, .bool false, .int .i64 0, .int .i64 0, .int .u64 0, .slice none 0 0] 0 w20).trans Vo.out
              have Vf2 : w21.heap[sf]? = some (.cells #[.int .i64 0, .int .i64 0, .int .i64 0, .int .i64 0, .int .i64 0, .int .i64 0, .bool false, .bool false, .int .i64 0, .bool false] 31) := hse ▸ (heap_setCells_ne nef_a [.bool true, .bool false, .bool false, .int .i64 0, .int .i64 0, .int .u64 0, .slice none 0 0] 0 w20).trans Vf.out
              have Vg2 : w21.heap[sg]? = some (.cells #[.int .i64 0, .int .i64 0, .int .i64 0, .int .i64 0, .int .i64 0, .int .i64 0, .bool false, .bool false, .int .i64 0, .bool false] 31) := hse ▸ (heap_setCells_ne nea_g.symm [.bool true, .bool false, .bool false, .int .i64 0, .int .i64 0, .int .u64 0, .slice none 0 0] 0 w20).trans Vg.out
              have Va2 : w21.heap[sa]? = some (.cells #[.bool true, .bool false, .bool false, .int .i64 0, .int .i64 0, .int .u64 0, .slice none 0 0] 39) := hse ▸ heap_setCells [.bool true, .bool false, .bool false, .int .i64 0, .int .i64 0, .int .u64 0, .slice none 0 0] w20 [] [.bool false, .bool false, .bool false, .int .i64 0, .int .i64 0, .int .u64 0, .slice none 0 0] rfl Va.out
              have hbb : Below _ _ w21 := hse ▸ below_setCells gea [.bool true, .bool false, .bool false, .int .i64 0, .int .i64 0, .int .u64 0, .slice none 0 0] 0 w20 HB.out.1
              have hbs : w21.heap.size = w20.heap.size := by rw [← hse, size_setCells]
              replace Vo := Lib.hid Vo2
              clear Vo2
              replace Vf := Lib.hid Vf2
              clear Vf2
              replace Va := Lib.hid Va2
              clear Va2
              replace Vg := Lib.hid Vg2
              clear Vg2
              replace HB := Lib.hid (And.intro hbb (show _ ≤ w21.heap.size by rw [hbs]; exact HB.out.2))
              clear hbb hbs hse
              go_wp2
              go_roundw
              case rel => exact Or.inr (Or.inr (⟨by go_num, HB, Vo, Vf, Va, Vg⟩))
              case measure => simp [intOf]
            · go_wp2_with fail
              refine (N2.out _).mono ?_
              rintro e w18 ⟨rfl, hb⟩
              replace Vo := Lib.hid (blk_below Vo.out hb (blk_lt Vo.out))
              replace Vf := Lib.hid (blk_below Vf.out hb (blk_lt Vf.out))
              replace Va := Lib.hid (blk_below Va.out hb (blk_lt Va.out))
              replace Vg := Lib.hid (blk_below Vg.out hb (blk_lt Vg.out))
              replace HB := Lib.hid (And.intro (HB.out.1.trans (hb.mono HB.out.2)) (Nat.le_trans HB.out.2 hb.size))
              clear hb
              go_wp2_with fail
              refine (K9.out _).mono ?_
              rintro e w19 ⟨rfl, hb⟩
              replace Vo := Lib.hid (blk_below Vo.out hb (blk_lt Vo.out))
              replace Vf := Lib.hid (blk_below Vf.out hb (blk_lt Vf.out))
              replace Va := Lib.hid (blk_below Va.out hb (blk_lt Va.out))
              replace Vg := Lib.hid (blk_below Vg.out hb (blk_lt Vg.out))
              replace HB := Lib.hid (And.intro (HB.out.1.trans (hb.mono HB.out.2)) (Nat.le_trans HB.out.2 hb.size))
              clear hb
              have lto := blk_lt Vo.out
              have ltf := blk_lt Vf.out
              have lta := blk_lt Va.out
              have ltg := blk_lt Vg.out
              have gq := HB.out.2
              obtain ⟨w20, hw20⟩ : ∃ W, (((w19.alloc (.cells #[.int .i64 0, .int .i64 0, .int .i64 0, .int .i64 0, .int .i64 0, .int .i64 0, .int .i64 0, .int .u32 0, .int .u32 0, .slice none 0 0, .slice none 0 0] 29)).alloc (.cells #[.int .i64 0, .int .i64 0, .int .i64 0, .int .i64 0, .int .i64 0, .int .i64 0, .bool false, .bool false, .int .i64 0, .bool false] 31)).alloc (.cells #[.bool false, .bool false, .bool false, .int .i64 0, .int .i64 0, .int .u64 0, .slice none 0 0] 39)) = W := ⟨_, rfl⟩
              have hb : Below w19.heap.size w19 w20 := hw20 ▸ ((((Below.refl _ _).alloc (Nat.le_refl _) _).alloc (by first | (simp; done) | (simp; omega)) _).alloc (by first | (simp; done) | (simp; omega)) _)
              have hv0 : w20.heap[w19.heap.size]? = some (.cells #[.int .i64 0, .int .i64 0, .int .i64 0, .int .i64 0, .int .i64 0, .int .i64 0, .int .i64 0, .int .u32 0, .int .u32 0, .slice none 0 0, .slice none 0 0] 29) := by
                have h0 := heap_alloc_new w19 (.cells #[.int .i64 0, .int .i64 0, .int .i64 0, .int .i64 0, .int .i64 0, .int .i64 0, .int .i64 0, .int .u32 0, .int .u32 0, .slice none 0 0, .slice none 0 0] 29)
                rw [show w19.heap.size = w19.heap.size by simp [Nat.add_assoc]] at h0
                rw [← hw20]
                rw [heap_alloc_old _ _ (by simp <;> omega), heap_alloc_old _ _ (by simp <;> omega)]; exact h0
              have hv1 : w20.heap[w19.heap.size + 1]? = some (.cells #[.int .i64 0, .int .i64 0, .int .i64 0, .int .i64 0, .int .i64 0, .int .i64 0, .bool false, .bool false, .int .i64 0, .bool false] 31) := by
                have h0 := heap_alloc_new (w19.alloc (.cells #[.int .i64 0, .int .i64 0, .int .i64 0, .int .i64 0, .int .i64 0, .int .i64 0, .int .i64 0, .int .u32 0, .int .u32 0, .slice none 0 0, .slice none 0 0] 29)) (.cells #[.int .i64 0, .int .i64 0, .int .i64 0, .int .i64 0, .int .i64 0, .int .i64 0, .bool false, .bool false, .int .i64 0, .bool false] 31)
                rw [show (w19.alloc (.cells #[.int .i64 0, .int .i64 0, .int .i64 0, .int .i64 0, .int .i64 0, .int .i64 0, .int .i64 0, .int .u32 0, .int .u32 0, .slice none 0 0, .slice none 0 0] 29)).heap.size = w19.heap.size + 1 by simp [Nat.add_assoc]] at h0
                rw [← hw20]
                rw [heap_alloc_old _ _ (by simp <;> omega)]; exact h0
              have hv2 : w20.heap[w19.heap.size + 2]? = some (.cells #[.bool false, .bool false, .bool false, .int .i64 0, .int .i64 0, .int .u64 0, .slice none 0 0] 39) := by
                have h0 := heap_alloc_new ((w19.alloc (.cells #[.int .i64 0, .int .i64 0, .int .i64 0, .int .i64 0, .int .i64 0, .int .i64 0, .int .i64 0, .int .u32 0, .int .u32 0, .slice none 0 0, .slice none 0 0] 29)).alloc (.cells #[.int .i64 0, .int .i64 0, .int .i64 0, .int .i64 0, .int .i64 0, .int .i64 0, .bool false, .bool false, .int .i64 0, .bool false] 31)) (.cells #[.bool false, .bool false, .bool false, .int .i64 0, .int .i64 0, .int .u64 0, .slice none 0 0] 39)
                rw [show ((w19.alloc (.cells #[.int .i64 0, .int .i64 0, .int .i64 0, .int .i64 0, .int .i64 0, .int .i64 0, .int .i64 0, .int .u32 0, .int .u32 0, .slice none 0 0, .slice none 0 0] 29)).alloc (.cells #[.int .i64 0, .int .i64 0, .int .i64 0, .int .i64 0, .int .i64 0, .int .i64 0, .bool false, .bool false, .int .i64 0, .bool false] 31)).heap.size = w19.heap.size + 2 by simp [Nat.add_assoc]] at h0
                rw [← hw20]
                exact h0
              replace Vo := Lib.hid (blk_below Vo.out hb (blk_lt Vo.out))
              replace Vf := Lib.hid (blk_below Vf.out hb (blk_lt Vf.out))
              replace Va := Lib.hid (blk_below Va.out hb (blk_lt Va.out))
              replace Vg := Lib.hid (blk_below Vg.out hb (blk_lt Vg.out))
              replace HB := Lib.hid (And.intro (HB.out.1.trans (hb.mono HB.out.2)) (Nat.le_trans HB.out.2 hb.size))
              have Vx := Lib.hid hv0
              have neo_x := Nat.ne_of_lt lto
              have nef_x := Nat.ne_of_lt ltf
              have nea_x := Nat.ne_of_lt lta
              have neg_x := Nat.ne_of_lt ltg
              have gex := gq
              have Vh := Lib.hid hv1
              have neo_h := Nat.ne_of_lt (Nat.lt_of_lt_of_le lto (Nat.le_add_right w19.heap.size 1))
              have nef_h := Nat.ne_of_lt (Nat.lt_of_lt_of_le ltf (Nat.le_add_right w19.heap.size 1))
              have nea_h := Nat.ne_of_lt (Nat.lt_of_lt_of_le lta (Nat.le_add_right w19.heap.size 1))
              have neg_h := Nat.ne_of_lt (Nat.lt_of_lt_of_le ltg (Nat.le_add_right w19.heap.size 1))
              have nex_h : w19.heap.size ≠ w19.heap.size + 1 := by omega
              have geh : _ ≤ w19.heap.size + 1 := Nat.le_trans gq (Nat.le_add_right _ 1)
              have Vb := Lib.hid hv2
              have neo_b := Nat.ne_of_lt (Nat.lt_of_lt_of_le lto (Nat.le_add_right w19.heap.size 2))
              have nef_b := Nat.ne_of_lt (Nat.lt_of_lt_of_le ltf (Nat.le_add_right w19.heap.size 2))
              have nea_b := Nat.ne_of_lt (Nat.lt_of_lt_of_le lta (Nat.le_add_right w19.heap.size 2))
              have neg_b := Nat.ne_of_lt (Nat.lt_of_lt_of_le ltg (Nat.le_add_right w19.heap.size 2))
              have nex_b : w19.heap.size ≠ w19.heap.size + 2 := by omega
              have neh_b : w19.heap.size + 1 ≠ w19.heap.size + 2 := by omega
              have geb : _ ≤ w19.heap.size + 2 := Nat.le_trans gq (Nat.le_add_right _ 2)
              generalize hsx : w19.heap.size = sx at *
              clear hb gq hv0 hv1 hv2 lto ltf lta ltg
              obtain ⟨pcx0, pcx1, pcx2, pcx3, pcx4, pcx5, pcx6, pcx7, pcx8, pcx9, pcx10⟩ := row11 Vx.out
              obtain ⟨pfx0, pfx1, pfx2, pfx3, pfx4, pfx5, pfx6, pfx7, pfx8, pfx9, pfx10⟩ := frz11 Vx.out
              obtain ⟨w21, hw21⟩ : ∃ W, (((((((((((w20.setCell ⟨sx, 0, none⟩ (.int .i64 0)).setCell ⟨sx, 1, none⟩ (.int .i64 0)).setCell ⟨sx, 2, none⟩ (.int .i64 0)).setCell ⟨sx, 3, none⟩ (.int .i64 0)).setCell ⟨sx, 4, none⟩ (.int .i64 0)).setCell ⟨sx, 5, none⟩ (.int .i64 0)).setCell ⟨sx, 6, none⟩ (.int .i64 0)).setCell ⟨sx, 7, none⟩ (.int .u32 0)).setCell ⟨sx, 8, none⟩ (.int .u32 0)).setCell ⟨sx, 9, none⟩ (.slice none 0 0)).setCell ⟨sx, 10, none⟩ (.slice none 0 0)) = W := ⟨_, rfl⟩
              have hse : w20.setCells (sx) 0 [.int .i64 0, .int .i64 0, .int .i64 0, .int .i64 0, .int .i64 0, .int .i64 0, .int .i64 0, .int .u32 0, .int .u32 0, .slice none 0 0, .slice none 0 0] = w21 := hw21
              have Vo2 : w21.heap[w.heap.size]? = some (.cells #[.int .i64 1, .int .i64 1, .int .i64 0, .int .i64 0, .int .i64 0, .int .i64 0, .int .i64 0, .int .u32 0, .int .u32 0, .slice none 0 0, .slice none 0 0] 29) := hse ▸ (heap_setCells_ne neo_x [.int .i64 0, .int .i64 0, .int .i64 0, .int .i64 0, .int .i64 0, .int .i64 0, .int .i64 0, .int .u32 0, .int .u32 0, .slice none 0 0, .slice none 0 0] 0 w20).trans Vo.out
              have Vf2 : w21.heap[sf]? = some (.cells #[.int .i64 0, .int .i64 0, .int .i64 0, .int .i64 0, .int .i64 0, .int .i64 0, .bool false, .bool false, .int .i64 0, .bool false] 31) := hse ▸ (heap_setCells_ne nef_x [.int .i64 0, .int .i64 0, .int .i64 0, .int .i64 0, .int .i64 0, .int .i64 0, .int .i64 0, .int .u32 0, .int .u32 0, .slice none 0 0, .slice none 0 0] 0 w20).trans Vf.out
              have Va2 : w21.heap[sa]? = some (.cells #[.bool true, .bool false, .bool false, .int .i64 0, .int .i64 0, .int .u64 0, .slice none 0 0] 39) := hse ▸ (heap_setCells_ne nea_x [.int .i64 0, .int .i64 0, .int .i64 0, .int .i64 0, .int .i64 0, .int .i64 0, .int .i64 0, .int .u32 0, .int .u32 0, .slice none 0 0, .slice none 0 0] 0 w20).trans Va.out
              have Vg2 : w21.heap[sg]? = some (.cells #[.int .i64 0, .int .i64 0, .int .i64 0, .int .i64 0, .int .i64 0, .int .i64 0, .bool false, .bool false, .int .i64 0, .bool false] 31) := hse ▸ (heap_setCells_ne neg_x [.int .i64 0, .int .i64 0, .int .i64 0, .int .i64 0, .int .i64 0, .int .i64 0, .int .i64 0, .int .u32 0, .int .u32 0, .slice none 0 0, .slice none 0 0] 0 w20).trans Vg.out
              have Vh2 : w21.heap[sx + 1]? = some (.cells #[.int .i64 0, .int .i64 0, .int .i64 0, .int .i64 0, .int .i64 0, .int .i64 0, .bool false, .bool false, .int .i64 0, .bool false] 31) := hse ▸ (heap_setCells_ne nex_h.symm [.int .i64 0, .int .i64 0, .int .i64 0, .int .i64 0, .int .i64 0, .int .i64 0, .int .i64 0, .int .u32 0, .int .u32 0, .slice none 0 0, .slice none 0 0] 0 w20).trans Vh.out
              have Vb2 : w21.heap[sx + 2]? = some (.cells #[.bool false, .bool false, .bool false, .int .i64 0, .int .i64 0, .int .u64 0, .slice none 0 0] 39) := hse ▸ (heap_setCells_ne nex_b.symm [.int .i64 0, .int .i64 0, .int .i64 0, .int .i64 0, .int .i64 0, .int .i64 0, .int .i64 0, .int .u32 0, .int .u32 0, .slice none 0 0, .slice none 0 0] 0 w20).trans Vb.out
              have Vx2 : w21.heap[sx]? = some (.cells #[.int .i64 0, .int .i64 0, .int .i64 0, .int .i64 0, .int .i64 0, .int .i64 0, .int .i64 0, .int .u32 0, .int .u32 0, .slice none 0 0, .slice none 0 0] 29) := hse ▸ heap_setCells [.int .i64 0, .int .i64 0, .int .i64 0, .int .i64 0, .int .i64 0, .int .i64 0, .int .i64 0, .int .u32 0, .int .u32 0, .slice none 0 0, .slice none 0 0] w20 [] [.int .i64 0, .int .i64 0, .int .i64 0, .int .i64 0, .int .i64 0, .int .i64 0, .int .i64 0, .int .u32 0, .int .u32 0, .slice none 0 0, .slice none 0 0] rfl Vx.out
              have hbb : Below _ _ w21 := hse ▸ below_setCells gex [.int .i64 0, .int .i64 0, .int .i64 0, .int .i64 0, .int .i64 0, .int .i64 0, .int .i64 0, .int .u32 0, .int .u32 0, .slice none 0 0, .slice none 0 0] 0 w20 HB.out.1
              have hbs : w21.heap.size = w20.heap.size := by rw [← hse, size_setCells]
              replace Vo := Lib.hid Vo2
              clear Vo2
              replace Vf := Lib.hid Vf2
              clear Vf2
              replace Va := Lib.hid Va2
              clear Va2
              replace Vg := Lib.hid Vg2
              clear Vg2
              replace Vx := Lib.hid Vx2
              clear Vx2
              replace Vh := Lib.hid Vh2
              clear Vh2
              replace Vb := Lib.hid Vb2
              clear Vb2
              replace HB := Lib.hid (And.intro hbb (show _ ≤ w21.heap.size by rw [hbs]; exact HB.out.2))
              clear hbb hbs hse
              obtain ⟨pch0, pch1, pch2, pch3, pch4, pch5, pch6, pch7, pch8, pch9⟩ := row10 Vh.out
              obtain ⟨pfh0, pfh1, pfh2, pfh3, pfh4, pfh5, pfh6, pfh7, pfh8, pfh9⟩ := frz10 Vh.out
              obtain ⟨w22, hw22⟩ : ∃ W, ((((((((((w21.setCell ⟨sx + 1, 0, none⟩ (.int .i64 0)).setCell ⟨sx + 1, 1, none⟩ (.int .i64 0)).setCell ⟨sx + 1, 2, none⟩ (.int .i64 0)).setCell ⟨sx + 1, 3, none⟩ (.int .i64 0)).setCell ⟨sx + 1, 4, none⟩ (.int .i64 0)).setCell ⟨sx + 1, 5, none⟩ (.int .i64 0)).setCell ⟨sx + 1, 6, none⟩ (.bool false)).setCell ⟨sx + 1, 7, none⟩ (.bool false)).setCell ⟨sx + 1, 8, none⟩ (.int .i64 0)).setCell ⟨sx + 1, 9, none⟩ (.bool false)) = W := ⟨_, rfl⟩
              have hse : w21.setCells (sx + 1) 0 [.int .i64 0, .int .i64 0, .int .i64 0, .int .i64 0, .int .i64 0, .int .i64 0, .bool false, .bool false, .int .i64 0, .bool false] = w22 := hw22
              have Vo2 : w22.heap[w.heap.size]? = some (.cells #[.int .i64 1, .int .i64 1, .int .i64 0, .int .i64 0, .int .i64 0, .int .i64 0, .int .i64 0, .int .u32 0, .int .u32 0, .slice none 0 0, .slice none 0 0] 29) := hse ▸ (heap_setCells_ne neo_h [.int .i64 0, .int .i64 0, .int .i64 0, .int .i64 0, .int .i64 0, .int .i64 0, .bool false, .bool false, .int .i64 0, .bool false] 0 w21).trans Vo.out
              have Vf2 : w22.heap[sf]? = some (.cells #[.int .i64 0, .int .i64 0, .int .i64 0, .int .i64 0, .int .i64 0, .int .i64 0, .bool false, .bool false, .int .i64 0, .bool false] 31) := hse ▸ (heap_setCells_ne nef_h [.int .i64 0, .int .i64 0, .int .i64 0, .int .i64 0, .int .i64 0, .int .i64 0, .bool false, .bool false, .int .i64 0, .bool false] 0 w21).trans Vf.out
              have Va2 : w22.heap[sa]? = some (.cells #[.bool true, .bool false, .bool false, .int .i64 0, .int .i64 0, .int .u64 0, .slice none 0 0] 39) := hse ▸ (heap_setCells_ne nea_h [.int .i64 0, .int .i64 0, .int .i64 0, .int .i64 0, .int .i64 0, .int .i64 0, .bool false, .bool false, .int .i64 0, .bool false] 0 w21).trans Va.out
              have Vg2 : w22.heap[sg]? = some (.cells #[.int .i64 0, .int .i64 0, .int .i64 0, .int .i64 0, .int .i64 0, .int .i64 0, .bool false, .bool false, .int .i64 0, .bool false] 31) := hse ▸ (heap_setCells_ne neg_h [.int .i64 0, .int .i64 0, .int .i64 0, .int .i64 0, .int .i64 0, .int .i64 0, .bool false, .bool false, .int .i64 0, .bool false] 0 w21).trans Vg.out
              have Vx2 : w22.heap[sx]? = some (.cells #[.int .i64 0, .int .i64 0, .int .i64 0, .int .i64 0, .int .i64 0, .int .i64 0, .int .i64 0, .int .u32 0, .int .u32 0, .slice none 0 0, .slice none 0 0] 29) := hse ▸ (heap_setCells_ne nex_h [.int .i64 0, .int .i64 0, .int .i64 0, .int .i64 0, .int .i64 0, .int .i64 0, .bool false, .bool false, .int .i64 0, .bool false] 0 w21).trans Vx.out
              have Vb2 : w22.heap[sx + 2]? = some (.cells #[.bool false, .bool false, .bool false, .int .i64 0, .int .i64 0, .int .u64 0, .slice none 0 0] 39) := hse ▸ (heap_setCells_ne neh_b.symm [.int .i64 0, .int .i64 0, .int .i64 0, .int .i64 0, .int .i64 0, .int .i64 0, .bool false, .bool false, .int .i64 0, .bool false] 0 w21).trans Vb.out
              have Vh2 : w22.heap[sx + 1]? = some (.cells #[.int .i64 0, .int .i64 0, .int .i64 0, .int .i64 0, .int .i64 0, .int .i64 0, .bool false, .bool false, .int .i64 0, .bool false] 31) := hse ▸ heap_setCells [.int .i64 0, .int .i64 0, .int .i64 0, .int .i64 0, .int .i64 0, .int .i64 0, .bool false, .bool false, .int .i64 0, .bool false] w21 [] [.int .i64 0, .int .i64 0, .int .i64 0, .int .i64 0, .int .i64 0, .int .i64 0, .bool false, .bool false, .int .i64 0, .bool false] rfl Vh.out
              have hbb : Below _ _ w22 := hse ▸ below_setCells geh [.int .i64 0, .int .i64 0, .int .i64 0, .int .i64 0, .int .i64 0, .int .i64 0, .bool false, .bool false, .int .i64 0, .bool false] 0 w21 HB.out.1
              have hbs : w22.heap.size = w21.heap.size := by rw [← hse, size_setCells]
              replace Vo := Lib.hid Vo2
              clear Vo2
              replace Vf := Lib.hid Vf2
              clear Vf2
              replace Va := Lib.hid Va2
              clear Va2
              replace Vg := Lib.hid Vg2
              clear Vg2
              replace Vx := Lib.hid Vx2
              clear Vx2
              replace Vh := Lib.hid Vh2
              clear Vh2
              replace Vb := Lib.hid Vb2
              clear Vb2
              replace HB := Lib.hid (And.intro hbb (show _ ≤ w22.heap.size by rw [hbs]; exact HB.out.2))
              clear hbb hbs hse
              obtain ⟨pcb0, pcb1, pcb2, pcb3, pcb4, pcb5, pcb6⟩ := row7 Vb.out
              obtain ⟨pfb0, pfb1, pfb2, pfb3, pfb4, pfb5, pfb6⟩ := frz7 Vb.out
              obtain ⟨w23, hw23⟩ : ∃ W, (((((((w22.setCell ⟨sx + 2, 0, none⟩ (.bool false)).setCell ⟨sx + 2, 1, none⟩ (.bool false)).setCell ⟨sx + 2, 2, none⟩ (.bool false)).setCell ⟨sx + 2, 3, none⟩ (.int .i64 0)).setCell ⟨sx + 2, 4, none⟩ (.int .i64 1)).setCell ⟨sx + 2, 5, none⟩ (.int .u64 0)).setCell ⟨sx + 2, 6, none⟩ (.slice none 0 0)) = W := ⟨_, rfl⟩
              have hse : w22.setCells (sx + 2) 0 [.bool false, .bool false, .bool false, .int .i64 0, .int .i64 1, .int .u64 0, .slice none 0 0] = w23 := hw23
              have Vo2 : w23.heap[w.heap.size]? = some (.cells #[.int .i64 1, .int .i64 1, .int .i64 0, .int .i64 0, .int .i64 0, .int .i64 0, .int .i64 0, .int .u32 0, .int .u32 0, .slice none 0 0, .slice none 0 0] 29) := hse ▸ (heap_setCells_ne neo_b [.bool false, .bool false, .bool false, .int .i64 0, .int .i64 1, .int .u64 0, .slice none 0 0] 0 w22).trans Vo.out
              have Vf2 : w23.heap[sf]? = some (.cells #[.int .i64 0, .int .i64 0, .int .i64 0, .int .i64 0, .int .i64 0, .int .i64 0, .bool false, .bool false, .int .i64 0, .bool false] 31) := hse ▸ (heap_setCells_ne nef_b [.bool false, .bool false, .bool false, .int .i64 0, .int .i64 1, .int .u64 0, .slice none 0 0] 0 w22).trans Vf.out
              have Va2 : w23.heap[sa]? = some (.cells #[.bool true, .bool false, .bool false, .int .i64 0, .int .i64 0, .int .u64 0, .slice none 0 0] 39) := hse ▸ (heap_setCells_ne nea_b [.bool false, .bool false, .bool false, .int .i64 0, .int .i64 1, .int .u64 0, .slice none 0 0] 0 w22).trans Va.out
              have Vg2 : w23.heap[sg]? = some (.cells #[.int .i64 0, .int .i64 0, .int .i64 0, .int .i64 0, .int .i64 0, .int .i64 0, .bool false, .bool false, .int .i64 0, .bool false] 31) := hse ▸ (heap_setCells_ne neg_b [.bool false, .bool false, .bool false, .int .i64 0, .int .i64 1, .int .u64 0, .slice none 0 0] 0 w22).trans Vg.out
              have Vx2 : w23.heap[sx]? = some (.cells #[.int .i64 0, .int .i64 0, .int .i64 0, .int .i64 0, .int .i64 0, .int .i64 0, .int .i64 0, .int .u32 0, .int .u32 0, .slice none 0 0, .slice none 0 0] 29) := hse ▸ (heap_setCells_ne nex_b [.bool false, .bool false, .bool false, .int .i64 0, .int .i64 1, .int .u64 0, .slice none 0 0] 0 w22).trans Vx.out
              have Vh2 : w23.heap[sx + 1]? = some (.cells #[.int .i64 0, .int .i64 0, .int .i64 0, .int .i64 0, .int .i64 0, .int .i64 0, .bool false, .bool false, .int .i64 0, .bool false] 31) := hse ▸ (heap_setCells_ne neh_b [.bool false, .bool false, .bool false, .int .i64 0, .int .i64 1, .int .u64 0, .slice none 0 0] 0 w22).trans Vh.out
              have Vb2 : w23.heap[sx + 2]? = some (.cells #[.bool false, .bool false, .bool false, .int .i64 0, .int .i64 1, .int .u64 0, .slice none 0 0] 39) := hse ▸ heap_setCells [.bool false, .bool false, .bool false, .int .i64 0, .int .i64 1, .int .u64 0, .slice none 0 0] w22 [] [.bool false, .bool false, .bool false, .int .i64 0, .int .i64 0, .int .u64 0, .slice none 0 0] rfl Vb.out
              have hbb : Below _ _ w23 := hse ▸ below_setCells geb [.bool false, .bool false, .bool false, .int .i64 0, .int .i64 1, .int .u64 0, .slice none 0 0] 0 w22 HB.out.1
              have hbs : w23.heap.size = w22.heap.size := by rw [← hse, size_setCells]
              replace Vo := Lib.hid Vo2
              clear Vo2
              replace Vf := Lib.hid Vf2
              clear Vf2
              replace Va := Lib.hid Va2
              clear Va2
              replace Vg := Lib.hid Vg2
              clear Vg2
              replace Vx := Lib.hid Vx2
              clear Vx2
              replace Vh := Lib.hid Vh2
              clear Vh2
              replace Vb := Lib.hid Vb2
              clear Vb2
              replace HB := Lib.hid (And.intro hbb (show _ ≤ w23.heap.size by rw [hbs]; exact HB.out.2))
              clear hbb hbs hse
              obtain ⟨co0, co1, co2, co3, co4, co5, co6, co7, co8, co9, co10⟩ := row11 Vo.out
              obtain ⟨ca0, ca1, ca2, ca3, ca4, ca5, ca6⟩ := row7 Va.out
              obtain ⟨cb0, cb1, cb2, cb3, cb4, cb5, cb6⟩ := row7 Vb.out
              go_wp2
              go_ret
              exact ⟨rfl, HB.out.1⟩
end Go.Proofs.Ytagaijghfikdoaa
