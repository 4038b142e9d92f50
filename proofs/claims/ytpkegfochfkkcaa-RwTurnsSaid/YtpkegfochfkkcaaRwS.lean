/- alive of layer 16: it answers true, over any world; no condition. -/
import Derived.Test.YtpkegfochfkkcaaRwO
import Derived.Test.YtpkegfochfkkcaaMutC
import Derived.Test.YtpkegfochfkkcaaSyB
import Derived.Test.YtpkegfochfkkcaaInv
namespace Go.Proofs.Ytpkegfochfkkcaa
set_option linter.unusedVariables false
set_option linter.unusedSimpArgs false
open Go.RowKit
set_option maxRecDepth 100000 in
theorem w6_eq (o0 o1 o2 o3 o4 o5 : Int) (W : World) : (binOp .eql 22 (.agg #[.int .i64 o0, .int .i64 o1, .int .i64 o2, .int .i64 o3, .int .i64 o4, .int .i64 o5]) (.agg #[.int .i64 o0, .int .i64 o1, .int .i64 o2, .int .i64 o3, .int .i64 o4, .int .i64 o5])).run Try.prog W = .ok (.bool true) W := by
  have e : ∀ x : Int, (x == x) = true := fun x => by simp
  obtain ⟨i5, hi5, _⟩ := info_of (show (Try.prog.info? 2).map (fun i => (i.zero, i.size, i.bytes)) = some (some (.int .i64 0), 1, 8) by kernel_rfl)
  go_simp
  rw [run_equalIn_array W 9999 _ _ Try.underlying22 hi5]
  rw [show Try.prog.cellsOf 2 = 1 from by kernel_rfl, show List.range 6 = [0,1,2,3,4,5] from rfl]
  simp [Op.eqItems, go_sem, e]
set_option maxRecDepth 100000 in
set_option maxHeartbeats 16000000 in
theorem alive16 (w : World) : Calls Try.prog 7 #[] w fun e w' => e = .returned (.bool true) ∧ Below w.heap.size w w' := by
  have K0 := Lib.hid (show ∀ W : World, Calls Try.prog 9 #[.agg #[.int .i64 2, .int .i64 0, .int .i64 0, .int .i64 0, .int .i64 0, .int .i64 0, .int .i64 0, .int .u32 0, .int .u32 0, .slice none 0 0, .slice none 0 0], .agg #[.int .i64 28, .int .i64 0, .int .i64 0, .int .i64 0, .int .i64 (-1), .int .i64 0, .bool false, .bool false, .int .i64 0, .bool false]] W (fun e w' => e = .returned (.tuple #[.agg #[.int .i64 2, .int .i64 0, .int .i64 0, .int .i64 0, .int .i64 0, .int .i64 1, .int .i64 0, .int .u32 0, .int .u32 0, .slice none 0 0, .slice none 0 0], .agg #[.int .i64 0, .int .i64 0, .int .i64 0, .int .i64 0, .int .i64 0, .int .i64 0, .bool false, .bool false, .int .i64 0, .bool false], .agg #[.bool true, .bool false, .bool false, .int .i64 0, .int .i64 0, .int .u64 0, .slice none 0 0]]) ∧ Below W.heap.size W w') from fun W => by
    have h := rwRLock_nil 2 0 0 0 0 0 0 0 0 (⟨28, 0, 0, 0, -1, 0, false, false, 0, false⟩ : MFr) ⟨by kernel_rfl, by kernel_rfl, by kernel_rfl⟩ W
    rw [show rlockW 0 0 0 (⟨28, 0, 0, 0, -1, 0, false, false, 0, false⟩ : MFr) = ((0, 1, 0), (⟨0, 0, 0, 0, 0, 0, false, false, 0, false⟩ : MFr), (⟨true, 0, false, 0⟩ : MAct)) from by kernel_rfl] at h
    exact h)
  have K1 := Lib.hid (show ∀ W : World, Calls Try.prog 16 #[.agg #[.int .i64 2, .int .i64 0, .int .i64 0, .int .i64 0, .int .i64 0, .int .i64 1, .int .i64 0, .int .u32 0, .int .u32 0, .slice none 0 0, .slice none 0 0], .agg #[.int .i64 30, .int .i64 0, .int .i64 0, .int .i64 0, .int .i64 (-1), .int .i64 0, .bool false, .bool false, .int .i64 0, .bool false], .int .i64 0, .int .i64 9] W (fun e w' => e = .returned (.tuple #[.agg #[.int .i64 2, .int .i64 1, .int .i64 0, .int .i64 0, .int .i64 0, .int .i64 1, .int .i64 0, .int .u32 0, .int .u32 0, .slice none 0 0, .slice none 0 0], .agg #[.int .i64 30, .int .i64 1, .int .i64 0, .int .i64 0, .int .i64 (-1), .int .i64 0, .bool false, .bool false, .int .i64 0, .bool false], .agg #[.bool false, .bool false, .bool false, .int .i64 0, .int .i64 0, .int .u64 0, .slice none 0 0]]) ∧ Below W.heap.size W w') from fun W => by
    have h := rwWLock_nil 2 0 0 0 0 1 0 0 0 (⟨30, 0, 0, 0, -1, 0, false, false, 0, false⟩ : MFr) 0 9 ⟨by kernel_rfl, by kernel_rfl, by kernel_rfl⟩ W
    rw [show wlockW 0 1 0 (⟨30, 0, 0, 0, -1, 0, false, false, 0, false⟩ : MFr) 0 9 = ((1, 1, 0), (⟨30, 1, 0, 0, -1, 0, false, false, 0, false⟩ : MFr), (⟨false, 0, false, 0⟩ : MAct)) from by kernel_rfl] at h
    exact h)
  have K2 := Lib.hid (show ∀ W : World, Calls Try.prog 16 #[.agg #[.int .i64 2, .int .i64 1, .int .i64 0, .int .i64 0, .int .i64 0, .int .i64 1, .int .i64 0, .int .u32 0, .int .u32 0, .slice none 0 0, .slice none 0 0], .agg #[.int .i64 30, .int .i64 1, .int .i64 0, .int .i64 0, .int .i64 (-1), .int .i64 0, .bool false, .bool false, .int .i64 0, .bool false], .int .i64 0, .int .i64 9] W (fun e w' => e = .returned (.tuple #[.agg #[.int .i64 2, .int .i64 1, .int .i64 0, .int .i64 0, .int .i64 0, .int .i64 (-1048575), .int .i64 0, .int .u32 0, .int .u32 0, .slice none 0 0, .slice none 0 0], .agg #[.int .i64 30, .int .i64 2, .int .i64 0, .int .i64 0, .int .i64 (-1), .int .i64 1, .bool false, .bool false, .int .i64 0, .bool false], .agg #[.bool false, .bool false, .bool false, .int .i64 0, .int .i64 0, .int .u64 0, .slice none 0 0]]) ∧ Below W.heap.size W w') from fun W => by
    have h := rwWLock_nil 2 1 0 0 0 1 0 0 0 (⟨30, 1, 0, 0, -1, 0, false, false, 0, false⟩ : MFr) 0 9 ⟨by kernel_rfl, by kernel_rfl, by kernel_rfl⟩ W
    rw [show wlockW 1 1 0 (⟨30, 1, 0, 0, -1, 0, false, false, 0, false⟩ : MFr) 0 9 = ((1, (-1048575), 0), (⟨30, 2, 0, 0, -1, 1, false, false, 0, false⟩ : MFr), (⟨false, 0, false, 0⟩ : MAct)) from by kernel_rfl] at h
    exact h)
  have K3 := Lib.hid (show ∀ W : World, Calls Try.prog 16 #[.agg #[.int .i64 2, .int .i64 1, .int .i64 0, .int .i64 0, .int .i64 0, .int .i64 (-1048575), .int .i64 0, .int .u32 0, .int .u32 0, .slice none 0 0, .slice none 0 0], .agg #[.int .i64 30, .int .i64 2, .int .i64 0, .int .i64 0, .int .i64 (-1), .int .i64 1, .bool false, .bool false, .int .i64 0, .bool false], .int .i64 0, .int .i64 9] W (fun e w' => e = .returned (.tuple #[.agg #[.int .i64 2, .int .i64 1, .int .i64 0, .int .i64 0, .int .i64 0, .int .i64 (-1048575), .int .i64 1, .int .u32 0, .int .u32 0, .slice none 0 0, .slice none 0 0], .agg #[.int .i64 30, .int .i64 3, .int .i64 0, .int .i64 0, .int .i64 (-1), .int .i64 1, .bool false, .bool false, .int .i64 3, .bool false], .agg #[.bool false, .bool false, .bool false, .int .i64 0, .int .i64 0, .int .u64 0, .slice none 0 0]]) ∧ Below W.heap.size W w') from fun W => by
    have h := rwWLock_nil 2 1 0 0 0 (-1048575) 0 0 0 (⟨30, 2, 0, 0, -1, 1, false, false, 0, false⟩ : MFr) 0 9 ⟨by kernel_rfl, by kernel_rfl, by kernel_rfl⟩ W
    rw [show wlockW 1 (-1048575) 0 (⟨30, 2, 0, 0, -1, 1, false, false, 0, false⟩ : MFr) 0 9 = ((1, (-1048575), 1), (⟨30, 3, 0, 0, -1, 1, false, false, 3, false⟩ : MFr), (⟨false, 0, false, 0⟩ : MAct)) from by kernel_rfl] at h
    exact h)
  have K4 := Lib.hid (show ∀ W : World, Calls Try.prog 11 #[.agg #[.int .i64 2, .int .i64 1, .int .i64 0, .int .i64 0, .int .i64 0, .int .i64 (-1048575), .int .i64 1, .int .u32 0, .int .u32 0, .slice none 0 0, .slice none 0 0], .agg #[.int .i64 29, .int .i64 0, .int .i64 0, .int .i64 0, .int .i64 (-1), .int .i64 0, .bool false, .bool false, .int .i64 0, .bool false]] W (fun e w' => e = .returned (.tuple #[.agg #[.int .i64 2, .int .i64 1, .int .i64 0, .int .i64 0, .int .i64 0, .int .i64 (-1048576), .int .i64 1, .int .u32 0, .int .u32 0, .slice none 0 0, .slice none 0 0], .agg #[.int .i64 29, .int .i64 1, .int .i64 0, .int .i64 0, .int .i64 (-1), .int .i64 0, .bool false, .bool false, .int .i64 0, .bool false], .agg #[.bool false, .bool false, .bool false, .int .i64 0, .int .i64 0, .int .u64 0, .slice none 0 0]]) ∧ Below W.heap.size W w') from fun W => by
    have h := rwRUnlock_nil 2 1 0 0 0 (-1048575) 1 0 0 (⟨29, 0, 0, 0, -1, 0, false, false, 0, false⟩ : MFr) ⟨by kernel_rfl, by kernel_rfl, by kernel_rfl⟩ W
    rw [show runlockW 1 (-1048575) 1 (⟨29, 0, 0, 0, -1, 0, false, false, 0, false⟩ : MFr) = ((1, (-1048576), 1), (⟨29, 1, 0, 0, -1, 0, false, false, 0, false⟩ : MFr), (⟨false, 0, false, 0⟩ : MAct)) from by kernel_rfl] at h
    exact h)
  have K5 := Lib.hid (show ∀ W : World, Calls Try.prog 11 #[.agg #[.int .i64 2, .int .i64 1, .int .i64 0, .int .i64 0, .int .i64 0, .int .i64 (-1048576), .int .i64 1, .int .u32 0, .int .u32 0, .slice none 0 0, .slice none 0 0], .agg #[.int .i64 29, .int .i64 1, .int .i64 0, .int .i64 0, .int .i64 (-1), .int .i64 0, .bool false, .bool false, .int .i64 0, .bool false]] W (fun e w' => e = .returned (.tuple #[.agg #[.int .i64 2, .int .i64 1, .int .i64 0, .int .i64 0, .int .i64 0, .int .i64 (-1048576), .int .i64 0, .int .u32 0, .int .u32 0, .slice none 0 0, .slice none 0 0], .agg #[.int .i64 29, .int .i64 2, .int .i64 0, .int .i64 0, .int .i64 (-1), .int .i64 0, .bool false, .bool false, .int .i64 0, .bool false], .agg #[.bool false, .bool false, .bool false, .int .i64 0, .int .i64 0, .int .u64 0, .slice none 0 0]]) ∧ Below W.heap.size W w') from fun W => by
    have h := rwRUnlock_nil 2 1 0 0 0 (-1048576) 1 0 0 (⟨29, 1, 0, 0, -1, 0, false, false, 0, false⟩ : MFr) ⟨by kernel_rfl, by kernel_rfl, by kernel_rfl⟩ W
    rw [show runlockW 1 (-1048576) 1 (⟨29, 1, 0, 0, -1, 0, false, false, 0, false⟩ : MFr) = ((1, (-1048576), 0), (⟨29, 2, 0, 0, -1, 0, false, false, 0, false⟩ : MFr), (⟨false, 0, false, 0⟩ : MAct)) from by kernel_rfl] at h
    exact h)
  have K6 := Lib.hid (show ∀ W : World, Calls Try.prog 11 #[.agg #[.int .i64 2, .int .i64 1, .int .i64 0, .int .i64 0, .int .i64 0, .int .i64 (-1048576), .int .i64 0, .int .u32 0, .int .u32 0, .slice none 0 0, .slice none 0 0], .agg #[.int .i64 29, .int .i64 2, .int .i64 0, .int .i64 0, .int .i64 (-1), .int .i64 0, .bool false, .bool false, .int .i64 0, .bool false]] W (fun e w' => e = .returned (.tuple #[.agg #[.int .i64 2, .int .i64 1, .int .i64 0, .int .i64 0, .int .i64 0, .int .i64 (-1048576), .int .i64 0, .int .u32 0, .int .u32 0, .slice none 0 0, .slice none 0 0], .agg #[.int .i64 0, .int .i64 0, .int .i64 0, .int .i64 0, .int .i64 0, .int .i64 0, .bool false, .bool false, .int .i64 0, .bool false], .agg #[.bool true, .bool false, .bool false, .int .i64 3, .int .i64 0, .int .u64 0, .slice none 0 0]]) ∧ Below W.heap.size W w') from fun W => by
    have h := rwRUnlock_nil 2 1 0 0 0 (-1048576) 0 0 0 (⟨29, 2, 0, 0, -1, 0, false, false, 0, false⟩ : MFr) ⟨by kernel_rfl, by kernel_rfl, by kernel_rfl⟩ W
    rw [show runlockW 1 (-1048576) 0 (⟨29, 2, 0, 0, -1, 0, false, false, 0, false⟩ : MFr) = ((1, (-1048576), 0), (⟨0, 0, 0, 0, 0, 0, false, false, 0, false⟩ : MFr), (⟨true, 3, false, 0⟩ : MAct)) from by kernel_rfl] at h
    exact h)
  have K7 := Lib.hid (show ∀ W : World, Calls Try.prog 18 #[.agg #[.int .i64 2, .int .i64 1, .int .i64 0, .int .i64 0, .int .i64 0, .int .i64 (-1048576), .int .i64 0, .int .u32 0, .int .u32 0, .slice none 0 0, .slice none 0 0], .agg #[.int .i64 31, .int .i64 0, .int .i64 0, .int .i64 0, .int .i64 (-1), .int .i64 0, .bool false, .bool false, .int .i64 0, .bool false]] W (fun e w' => e = .returned (.tuple #[.agg #[.int .i64 2, .int .i64 1, .int .i64 0, .int .i64 0, .int .i64 0, .int .i64 0, .int .i64 0, .int .u32 0, .int .u32 0, .slice none 0 0, .slice none 0 0], .agg #[.int .i64 31, .int .i64 1, .int .i64 0, .int .i64 0, .int .i64 (-1), .int .i64 0, .bool false, .bool false, .int .i64 0, .bool false], .agg #[.bool false, .bool false, .bool false, .int .i64 0, .int .i64 0, .int .u64 0, .slice none 0 0]]) ∧ Below W.heap.size W w') from fun W => by
    have h := rwWUnlock_nil 2 1 0 0 0 (-1048576) 0 0 0 (⟨31, 0, 0, 0, -1, 0, false, false, 0, false⟩ : MFr) ⟨by kernel_rfl, by kernel_rfl, by kernel_rfl⟩ W
    rw [show wunlockW 1 (-1048576) 0 (⟨31, 0, 0, 0, -1, 0, false, false, 0, false⟩ : MFr) = ((1, 0, 0), (⟨31, 1, 0, 0, -1, 0, false, false, 0, false⟩ : MFr), (⟨false, 0, false, 0⟩ : MAct)) from by kernel_rfl] at h
    exact h)
  have K8 := Lib.hid (show ∀ W : World, Calls Try.prog 18 #[.agg #[.int .i64 2, .int .i64 1, .int .i64 0, .int .i64 0, .int .i64 0, .int .i64 0, .int .i64 0, .int .u32 0, .int .u32 0, .slice none 0 0, .slice none 0 0], .agg #[.int .i64 31, .int .i64 1, .int .i64 0, .int .i64 0, .int .i64 (-1), .int .i64 0, .bool false, .bool false, .int .i64 0, .bool false]] W (fun e w' => e = .returned (.tuple #[.agg #[.int .i64 2, .int .i64 1, .int .i64 0, .int .i64 0, .int .i64 0, .int .i64 0, .int .i64 0, .int .u32 0, .int .u32 0, .slice none 0 0, .slice none 0 0], .agg #[.int .i64 31, .int .i64 2, .int .i64 0, .int .i64 0, .int .i64 (-1), .int .i64 0, .bool false, .bool false, .int .i64 0, .bool false], .agg #[.bool false, .bool false, .bool false, .int .i64 0, .int .i64 0, .int .u64 0, .slice none 0 0]]) ∧ Below W.heap.size W w') from fun W => by
    have h := rwWUnlock_nil 2 1 0 0 0 0 0 0 0 (⟨31, 1, 0, 0, -1, 0, false, false, 0, false⟩ : MFr) ⟨by kernel_rfl, by kernel_rfl, by kernel_rfl⟩ W
    rw [show wunlockW 1 0 0 (⟨31, 1, 0, 0, -1, 0, false, false, 0, false⟩ : MFr) = ((1, 0, 0), (⟨31, 2, 0, 0, -1, 0, false, false, 0, false⟩ : MFr), (⟨false, 0, false, 0⟩ : MAct)) from by kernel_rfl] at h
    exact h)
  have K9 := Lib.hid (show ∀ W : World, Calls Try.prog 18 #[.agg #[.int .i64 2, .int .i64 1, .int .i64 0, .int .i64 0, .int .i64 0, .int .i64 0, .int .i64 0, .int .u32 0, .int .u32 0, .slice none 0 0, .slice none 0 0], .agg #[.int .i64 31, .int .i64 2, .int .i64 0, .int .i64 0, .int .i64 (-1), .int .i64 0, .bool false, .bool false, .int .i64 0, .bool false]] W (fun e w' => e = .returned (.tuple #[.agg #[.int .i64 2, .int .i64 0, .int .i64 0, .int .i64 0, .int .i64 0, .int .i64 0, .int .i64 0, .int .u32 0, .int .u32 0, .slice none 0 0, .slice none 0 0], .agg #[.int .i64 0, .int .i64 0, .int .i64 0, .int .i64 0, .int .i64 0, .int .i64 0, .bool false, .bool false, .int .i64 0, .bool false], .agg #[.bool true, .bool false, .bool false, .int .i64 0, .int .i64 0, .int .u64 0, .slice none 0 0]]) ∧ Below W.heap.size W w') from fun W => by
    have h := rwWUnlock_nil 2 1 0 0 0 0 0 0 0 (⟨31, 2, 0, 0, -1, 0, false, false, 0, false⟩ : MFr) ⟨by kernel_rfl, by kernel_rfl, by kernel_rfl⟩ W
    rw [show wunlockW 1 0 0 (⟨31, 2, 0, 0, -1, 0, false, false, 0, false⟩ : MFr) = ((0, 0, 0), (⟨0, 0, 0, 0, 0, 0, false, false, 0, false⟩ : MFr), (⟨true, 0, false, 0⟩ : MAct)) from by kernel_rfl] at h
    exact h)
  have KA := Lib.hid (show ∀ W : World, Calls Try.prog 11 #[.agg #[.int .i64 2, .int .i64 0, .int .i64 0, .int .i64 0, .int .i64 0, .int .i64 0, .int .i64 0, .int .u32 0, .int .u32 0, .slice none 0 0, .slice none 0 0], .agg #[.int .i64 29, .int .i64 0, .int .i64 0, .int .i64 0, .int .i64 (-1), .int .i64 0, .bool false, .bool false, .int .i64 0, .bool false]] W (fun e w' => e = .returned (.tuple #[.agg #[.int .i64 2, .int .i64 0, .int .i64 0, .int .i64 0, .int .i64 0, .int .i64 0, .int .i64 0, .int .u32 0, .int .u32 0, .slice none 0 0, .slice none 0 0], .agg #[.int .i64 0, .int .i64 0, .int .i64 0, .int .i64 0, .int .i64 0, .int .i64 0, .bool false, .bool false, .int .i64 0, .bool false], .agg #[.bool false, .bool false, .bool false, .int .i64 0, .int .i64 1, .int .u64 0, .slice none 0 0]]) ∧ Below W.heap.size W w') from fun W => by
    have h := rwRUnlock_nil 2 0 0 0 0 0 0 0 0 (⟨29, 0, 0, 0, -1, 0, false, false, 0, false⟩ : MFr) ⟨by kernel_rfl, by kernel_rfl, by kernel_rfl⟩ W
    rw [show runlockW 0 0 0 (⟨29, 0, 0, 0, -1, 0, false, false, 0, false⟩ : MFr) = ((0, 0, 0), (⟨0, 0, 0, 0, 0, 0, false, false, 0, false⟩ : MFr), (⟨false, 0, false, 1⟩ : MAct)) from by kernel_rfl] at h
    exact h)
  have KB := Lib.hid (show ∀ W : World, Calls Try.prog 18 #[.agg #[.int .i64 2, .int .i64 0, .int .i64 0, .int .i64 0, .int .i64 0, .int .i64 0, .int .i64 0, .int .u32 0, .int .u32 0, .slice none 0 0, .slice none 0 0], .agg #[.int .i64 31, .int .i64 0, .int .i64 0, .int .i64 0, .int .i64 (-1), .int .i64 0, .bool false, .bool false, .int .i64 0, .bool false]] W (fun e w' => e = .returned (.tuple #[.agg #[.int .i64 2, .int .i64 0, .int .i64 0, .int .i64 0, .int .i64 0, .int .i64 0, .int .i64 0, .int .u32 0, .int .u32 0, .slice none 0 0, .slice none 0 0], .agg #[.int .i64 0, .int .i64 0, .int .i64 0, .int .i64 0, .int .i64 0, .int .i64 0, .bool false, .bool false, .int .i64 0, .bool false], .agg #[.bool false, .bool false, .bool false, .int .i64 0, .int .i64 1, .int .u64 0, .slice none 0 0]]) ∧ Below W.heap.size W w') from fun W => by
    have h := rwWUnlock_nil 2 0 0 0 0 0 0 0 0 (⟨31, 0, 0, 0, -1, 0, false, false, 0, false⟩ : MFr) ⟨by kernel_rfl, by kernel_rfl, by kernel_rfl⟩ W
    rw [show wunlockW 0 0 0 (⟨31, 0, 0, 0, -1, 0, false, false, 0, false⟩ : MFr) = ((0, 0, 0), (⟨0, 0, 0, 0, 0, 0, false, false, 0, false⟩ : MFr), (⟨false, 0, false, 1⟩ : MAct)) from by kernel_rfl] at h
    exact h)
  have N1 := Lib.hid (show ∀ W : World, Calls Try.prog 20 #[.int .i64 28] W (fun e w' => e = .returned (.agg #[.int .i64 28, .int .i64 0, .int .i64 0, .int .i64 0, .int .i64 (-1), .int .i64 0, .bool false, .bool false, .int .i64 0, .bool false]) ∧ Below W.heap.size W w') from fun W => refBegin15_any 28 W)
  have N2 := Lib.hid (show ∀ W : World, Calls Try.prog 20 #[.int .i64 30] W (fun e w' => e = .returned (.agg #[.int .i64 30, .int .i64 0, .int .i64 0, .int .i64 0, .int .i64 (-1), .int .i64 0, .bool false, .bool false, .int .i64 0, .bool false]) ∧ Below W.heap.size W w') from fun W => refBegin15_any 30 W)
  have N3 := Lib.hid (show ∀ W : World, Calls Try.prog 20 #[.int .i64 29] W (fun e w' => e = .returned (.agg #[.int .i64 29, .int .i64 0, .int .i64 0, .int .i64 0, .int .i64 (-1), .int .i64 0, .bool false, .bool false, .int .i64 0, .bool false]) ∧ Below W.heap.size W w') from fun W => refBegin15_any 29 W)
  have N4 := Lib.hid (show ∀ W : World, Calls Try.prog 20 #[.int .i64 31] W (fun e w' => e = .returned (.agg #[.int .i64 31, .int .i64 0, .int .i64 0, .int .i64 0, .int .i64 (-1), .int .i64 0, .bool false, .bool false, .int .i64 0, .bool false]) ∧ Below W.heap.size W w') from fun W => refBegin15_any 31 W)
  have RD := Lib.hid (show ∀ W : World, Calls Try.prog 13 #[.agg #[.int .i64 2, .int .i64 1, .int .i64 0, .int .i64 0, .int .i64 0, .int .i64 (-1048575), .int .i64 1, .int .u32 0, .int .u32 0, .slice none 0 0, .slice none 0 0]] W (fun e w' => e = .returned (.tuple #[.int .i64 1, .bool true]) ∧ Below W.heap.size W w') from fun W => rwReaders_any 2 1 0 0 0 (-1048575) 1 0 0 none 0 0 none 0 0 W)
  have hw1 := w6_self 1 0 0 0 (-1048575) 1
  have hw2 := w6_eq 0 0 0 0 0 0
  have HB := Lib.hid (And.intro (Below.refl w.heap.size w) (Nat.le_refl w.heap.size))
  go_enter Try.func7, Try.ntmps7
  have gq := HB.out.2
  obtain ⟨w1, hw1⟩ : ∃ W, (w.alloc (.cells #[.int .i64 0, .int .i64 0, .int .i64 0, .int .i64 0, .int .i64 0, .int .i64 0, .int .i64 0, .int .u32 0, .int .u32 0, .slice none 0 0, .slice none 0 0] 29)) = W := ⟨_, rfl⟩
  have hb : Below w.heap.size w w1 := hw1 ▸ ((Below.refl _ _).alloc (Nat.le_refl _) _)
  have hv0 : w1.heap[w.heap.size]? = some (.cells #[.int .i64 0, .int .i64 0, .int .i64 0, .int .i64 0, .int .i64 0, .int .i64 0, .int .i64 0, .int .u32 0, .int .u32 0, .slice none 0 0, .slice none 0 0] 29) := by
    have h0 := heap_alloc_new w (.cells #[.int .i64 0, .int .i64 0, .int .i64 0, .int .i64 0, .int .i64 0, .int .i64 0, .int .i64 0, .int .u32 0, .int .u32 0, .slice none 0 0, .slice none 0 0] 29)
    rw [show w.heap.size = w.heap.size by simp [Nat.add_assoc]] at h0
    rw [← hw1]
    exact h0
  replace HB := Lib.hid (And.intro (HB.out.1.trans (hb.mono HB.out.2)) (Nat.le_trans HB.out.2 hb.size))
  have Vo := Lib.hid hv0
  have geo := gq
  generalize hso : w.heap.size = so at *
  clear hb gq hv0
  subst hso
  obtain ⟨mw2, w2, hw2, hse, VN⟩ := set11 Vo.out (.int .i64 2) (.int .i64 0) (.int .i64 0) (.int .i64 0) (.int .i64 0) (.int .i64 0) (.int .i64 0) (.int .u32 0) (.int .u32 0) (.slice none 0 0) (.slice none 0 0)
  replace Vo := VN
  replace HB := Lib.hid (belS hse geo HB.out)
  clear VN hse
  go_wp2
  clear mw2 hw2
  have hBZ := HB.out.2
  refine wp_region_noPanic ?_
  refine wp_region_held_drew (S := (fun wv => Below w.heap.size w2 wv)) (by kernel_rfl) ((((Below.refl w2.heap.size w2).drew).mono hBZ)) (fun hS => ?_)
  refine inv_region (fun a0 fu listed a u => ∃ (lq0 cq0 cq1 xq0 xq1 : Bool) (v21 v22 v23 v20 v24 v25 v26 p2 p3 : Value) (sf0 sa : Nat), listed = #[lq0, cq0, cq1, cq1, cq1, cq1, cq1, xq0, xq1, false, false, false] ∧ a = ⟨(((((((((a0.tmps.setIfInBounds 21 v21).setIfInBounds 22 v22).setIfInBounds 23 v23).setIfInBounds 20 v20).setIfInBounds 24 v24).setIfInBounds 25 v25).setIfInBounds 26 v26).setIfInBounds 2 p2).setIfInBounds 3 p3), a0.defers⟩ ∧ (bif lq0 then 0 else 1) + (bif cq0 then 0 else 1) + (bif cq1 then 0 else 5) + (bif xq0 then 0 else 1) + (bif xq1 then 0 else 1) + 3 ≤ fu ∧ (cq1 = true → lq0 = true) ∧ (cq1 = true → cq0 = true) ∧ Below w2.heap.size w2 u ∧ (lq0 = true → v21 = .agg #[.int .i64 2, .int .i64 0, .int .i64 0, .int .i64 0, .int .i64 0, .int .i64 0, .int .i64 0, .int .u32 0, .int .u32 0, .slice none 0 0, .slice none 0 0]) ∧ (cq0 = true → v22 = .agg #[.int .i64 28, .int .i64 0, .int .i64 0, .int .i64 0, .int .i64 (-1), .int .i64 0, .bool false, .bool false, .int .i64 0, .bool false]) ∧ (cq1 = true → v24 = .agg #[.int .i64 2, .int .i64 0, .int .i64 0, .int .i64 0, .int .i64 0, .int .i64 1, .int .i64 0, .int .u32 0, .int .u32 0, .slice none 0 0, .slice none 0 0]) ∧ (cq1 = true → v25 = .agg #[.int .i64 0, .int .i64 0, .int .i64 0, .int .i64 0, .int .i64 0, .int .i64 0, .bool false, .bool false, .int .i64 0, .bool false]) ∧ (cq1 = true → v26 = .agg #[.bool true, .bool false, .bool false, .int .i64 0, .int .i64 0, .int .u64 0, .slice none 0 0]) ∧ (xq0 = true → p2 = .pointer (some ⟨sf0, 0, none⟩) ∧ w2.heap.size ≤ sf0 ∧ u.heap[sf0]? = some (.cells #[.int .i64 0, .int .i64 0, .int .i64 0, .int .i64 0, .int .i64 0, .int .i64 0, .bool false, .bool false, .int .i64 0, .bool false] 31)) ∧ (xq1 = true → p3 = .pointer (some ⟨sa, 0, none⟩) ∧ w2.heap.size ≤ sa ∧ u.heap[sa]? = some (.cells #[.bool false, .bool false, .bool false, .int .i64 0, .int .i64 0, .int .u64 0, .slice none 0 0] 38))) ⟨false, false, false, false, false, undef, undef, undef, undef, undef, undef, undef, undef, undef, 0, 0, rfl, (by first | (simp only [List.setIfInBounds_toArray, List.set_cons_zero, List.set_cons_succ]; done) | rfl), (by show _ + _ ≤ _; decide), (fun h => nomatch h), (fun h => nomatch h), ((Below.refl w2.heap.size w2).drew), (fun h => nomatch h), (fun h => nomatch h), (fun h => nomatch h), (fun h => nomatch h), (fun h => nomatch h), (fun h => nomatch h), (fun h => nomatch h)⟩ ?_
  clear hS; rintro fu listed a u ⟨lq0, cq0, cq1, xq0, xq1, v21, v22, v23, v20, v24, v25, v26, p2, p3, sf0, sa, rfl, rfl, hn, hc0, hc1, hS, h21, h22, h24, h25, h26, ksf0, ksa⟩ IH
  try simp only [List.setIfInBounds_toArray, List.set_cons_zero, List.set_cons_succ]
  by_cases hall : (lq0 && (cq0 && (cq1 && (xq0 && (xq1))))) = true
  rotate_left
  · have hbad : ((cq1 && !lq0) || ((cq1 && !cq0) || ((lq0 && (cq0 && (cq1 && (xq0 && (xq1)))))))) = false := inv_or (inv_imp hc0) (inv_or (inv_imp hc1) (inv_not hall))
    obtain ⟨fu, rfl⟩ : ∃ m, fu = m + 1 := ⟨fu - 1, by omega⟩
    refine inv_step (bad := ((cq1 && !lq0) || ((cq1 && !cq0) || ((lq0 && (cq0 && (cq1 && (xq0 && (xq1))))))))) (fun i => ((i == 0 && !lq0) || ((i == 1 && !cq0) || ((i == 2 && (lq0 && (cq0 && !cq1))) || ((i == 7 && !xq0) || ((i == 8 && !xq1))))))) ((show ∀ lq0 cq0 cq1 xq0 xq1 : Bool, (((cq1 && !lq0) || ((cq1 && !cq0) || ((lq0 && (cq0 && (cq1 && (xq0 && (xq1)))))))) || (!(Region.ready _ _ #[lq0, cq0, cq1, cq1, cq1, cq1, cq1, xq0, xq1, false, false, false]).isEmpty && (Region.ready _ _ #[lq0, cq0, cq1, cq1, cq1, cq1, cq1, xq0, xq1, false, false, false]).all (fun i => ((i == 0 && !lq0) || ((i == 1 && !cq0) || ((i == 2 && (lq0 && (cq0 && !cq1))) || ((i == 7 && !xq0) || ((i == 8 && !xq1))))))))) = true from by intro lq0 cq0 cq1 xq0 xq1; cases lq0 <;> cases cq0 <;> cases cq1 <;> cases xq0 <;> cases xq1 <;> kernel_rfl) lq0 cq0 cq1 xq0 xq1) hbad (fun i hi => ?_)
    simp only [Bool.or_eq_true, Bool.and_eq_true, beq_iff_eq, Bool.not_eq_true'] at hi
    clear hall hbad
    rcases hi with ⟨rfl, rfl⟩ | ⟨rfl, rfl⟩ | ⟨rfl, rfl, rfl, rfl⟩ | ⟨rfl, rfl⟩ | ⟨rfl, rfl⟩
    · skip
      obtain ⟨lc0, lc1, lc2, lc3, lc4, lc5, lc6, lc7, lc8, lc9, lc10⟩ := row11 (blk_below Vo.out hS (blk_lt Vo.out))
      refine inv_arm (o := ⟨some 21, .load 29 (.tmp 1), 29, "law.go:14", #[], none⟩) rfl (fun K hK => ?_)
      go_simp
      clear lc0 lc1 lc2 lc3 lc4 lc5 lc6 lc7 lc8 lc9 lc10
      refine Shut.out hK _ _ (hS.mono hBZ) (fun _ => ?_)
      clear hK K
      try simp only [Act.put, List.setIfInBounds_toArray, List.set_cons_zero, List.set_cons_succ]
      exact IH _ _ _ _ (by omega) ⟨true, cq0, cq1, xq0, xq1, _, v22, v23, v20, v24, v25, v26, p2, p3, sf0, sa, rfl, (by (try simp only [List.setIfInBounds_toArray, List.set_cons_zero, List.set_cons_succ]); try rfl), (by simp only [cond_true, cond_false] at hn ⊢; omega), (fun _ => rfl), hc1, hS, (fun _ => rfl), h22, h24, h25, h26, (fun h => ⟨(ksf0 h).1, (ksf0 h).2.1, blk_below (ksf0 h).2.2 (Below.refl _ _) (blk_lt (ksf0 h).2.2)⟩), (fun h => ⟨(ksa h).1, (ksa h).2.1, blk_below (ksa h).2.2 (Below.refl _ _) (blk_lt (ksa h).2.2)⟩)⟩
    · skip
      refine inv_arm (o := ⟨some 22, .call { callee := .value (.func 20), args := #[.const (Value.int IntKind.i64 28)], argTypes := #[3] }, 31, "law.go:14", #[], none⟩) rfl (fun K hK => ?_)
      go_simp
      go_wp2_with fail
      refine (N1.out _).mono ?_; rintro e u1 ⟨rfl, hb⟩
      replace hS := hS.trans (hb.mono hS.size)
      refine Shut.out hK _ _ (hS.mono hBZ) (fun _ => ?_)
      clear hK K
      try simp only [Act.put, List.setIfInBounds_toArray, List.set_cons_zero, List.set_cons_succ]
      exact IH _ _ _ _ (by omega) ⟨lq0, true, cq1, xq0, xq1, v21, _, v23, v20, v24, v25, v26, p2, p3, sf0, sa, rfl, (by (try simp only [List.setIfInBounds_toArray, List.set_cons_zero, List.set_cons_succ]); try rfl), (by simp only [cond_true, cond_false] at hn ⊢; omega), hc0, (fun _ => rfl), hS, h21, (fun _ => rfl), h24, h25, h26, (fun h => ⟨(ksf0 h).1, (ksf0 h).2.1, blk_below (ksf0 h).2.2 hb (blk_lt (ksf0 h).2.2)⟩), (fun h => ⟨(ksa h).1, (ksa h).2.1, blk_below (ksa h).2.2 hb (blk_lt (ksa h).2.2)⟩)⟩
    · skip
      obtain rfl := h21 rfl
      obtain rfl := h22 rfl
      refine inv_arm (o := ⟨some 23, .call { callee := .value (.func 9), args := #[.tmp 21, .tmp 22], argTypes := #[29, 31] }, 39, "law.go:14", #[⟨0, .data⟩, ⟨1, .data⟩, ⟨1, .chain⟩], none⟩) rfl (fun K hK => ?_)
      go_simp
      go_wp2_with fail
      refine (K0.out _).mono ?_; rintro e u2 ⟨rfl, hb⟩
      replace hS := hS.trans (hb.mono hS.size)
      obtain ⟨fu, rfl⟩ : ∃ m, fu = m + 4 := ⟨fu - 4, by simp only [cond_true, cond_false] at hn; omega⟩
      refine Shut.out hK _ _ (hS.mono hBZ) (fun _ => ?_)
      clear hK K
      try simp only [Act.put, List.setIfInBounds_toArray, List.set_cons_zero, List.set_cons_succ]
      refine wpAnyH_take (i := 3) (oi := ⟨some 20, .move (.tmp 23), 39, "law.go:14", #[⟨2, .data⟩], none⟩) (v := ?_) rfl (by kernel_rfl) ((show ∀ xq0 xq1 : Bool, Region.free _ _ #[true, true, true, false, false, false, false, xq0, xq1, false, false, false] 3 = true from by intro xq0 xq1; cases xq0 <;> cases xq1 <;> kernel_rfl) xq0 xq1) ((show ∀ xq0 xq1 : Bool, (Region.ready _ _ #[true, true, true, false, false, false, false, xq0, xq1, false, false, false]).contains 3 = true from by intro xq0 xq1; cases xq0 <;> cases xq1 <;> kernel_rfl) xq0 xq1) (fun _ _ _ h => h) (Or.inl ⟨by rfl, ?_⟩) (hS.mono hBZ) ?_
      rotate_left
      · intro wv _; go_simp; try with_reducible rfl
      try simp only [Act.put, List.setIfInBounds_toArray, List.set_cons_zero, List.set_cons_succ]
      refine wpAnyH_take (i := 4) (oi := ⟨some 24, .extract (.tmp 20) 0, 29, "law.go:14", #[⟨3, .data⟩], none⟩) (v := ?_) rfl (by kernel_rfl) ((show ∀ xq0 xq1 : Bool, Region.free _ _ #[true, true, true, true, false, false, false, xq0, xq1, false, false, false] 4 = true from by intro xq0 xq1; cases xq0 <;> cases xq1 <;> kernel_rfl) xq0 xq1) ((show ∀ xq0 xq1 : Bool, (Region.ready _ _ #[true, true, true, true, false, false, false, xq0, xq1, false, false, false]).contains 4 = true from by intro xq0 xq1; cases xq0 <;> cases xq1 <;> kernel_rfl) xq0 xq1) (fun _ _ _ h => h) (Or.inl ⟨by rfl, ?_⟩) (hS.mono hBZ) ?_
      rotate_left
      · intro wv _; go_simp; try with_reducible rfl
      try simp only [Act.put, List.setIfInBounds_toArray, List.set_cons_zero, List.set_cons_succ]
      refine wpAnyH_take (i := 5) (oi := ⟨some 25, .extract (.tmp 20) 1, 31, "law.go:14", #[⟨3, .data⟩, ⟨9, .gcOnly .lateStores⟩], none⟩) (v := ?_) rfl (by kernel_rfl) ((show ∀ xq0 xq1 : Bool, Region.free _ _ #[true, true, true, true, true, false, false, xq0, xq1, false, false, false] 5 = true from by intro xq0 xq1; cases xq0 <;> cases xq1 <;> kernel_rfl) xq0 xq1) ((show ∀ xq0 xq1 : Bool, (Region.ready _ _ #[true, true, true, true, true, false, false, xq0, xq1, false, false, false]).contains 5 = true from by intro xq0 xq1; cases xq0 <;> cases xq1 <;> kernel_rfl) xq0 xq1) (fun _ _ _ h => h) (Or.inl ⟨by rfl, ?_⟩) (hS.mono hBZ) ?_
      rotate_left
      · intro wv _; go_simp; try with_reducible rfl
      try simp only [Act.put, List.setIfInBounds_toArray, List.set_cons_zero, List.set_cons_succ]
      refine wpAnyH_take (i := 6) (oi := ⟨some 26, .extract (.tmp 20) 2, 38, "law.go:14", #[⟨3, .data⟩, ⟨10, .gcOnly .lateStores⟩], none⟩) (v := ?_) rfl (by kernel_rfl) ((show ∀ xq0 xq1 : Bool, Region.free _ _ #[true, true, true, true, true, true, false, xq0, xq1, false, false, false] 6 = true from by intro xq0 xq1; cases xq0 <;> cases xq1 <;> kernel_rfl) xq0 xq1) ((show ∀ xq0 xq1 : Bool, (Region.ready _ _ #[true, true, true, true, true, true, false, xq0, xq1, false, false, false]).contains 6 = true from by intro xq0 xq1; cases xq0 <;> cases xq1 <;> kernel_rfl) xq0 xq1) (fun _ _ _ h => h) (Or.inl ⟨by rfl, ?_⟩) (hS.mono hBZ) ?_
      rotate_left
      · intro wv _; go_simp; try with_reducible rfl
      try simp only [Act.put, List.setIfInBounds_toArray, List.set_cons_zero, List.set_cons_succ]
      exact IH _ _ _ _ (by omega) ⟨true, true, true, xq0, xq1, _, _, _, _, _, _, _, p2, p3, sf0, sa, rfl, (by (try simp only [List.setIfInBounds_toArray, List.set_cons_zero, List.set_cons_succ]); try rfl), (by simp only [cond_true, cond_false] at hn ⊢; omega), (fun _ => rfl), (fun _ => rfl), hS, (fun _ => rfl), (fun _ => rfl), (fun _ => rfl), (fun _ => rfl), (fun _ => rfl), (fun h => ⟨(ksf0 h).1, (ksf0 h).2.1, blk_below (ksf0 h).2.2 hb (blk_lt (ksf0 h).2.2)⟩), (fun h => ⟨(ksa h).1, (ksa h).2.1, blk_below (ksa h).2.2 hb (blk_lt (ksa h).2.2)⟩)⟩
    · skip
      refine inv_arm (o := ⟨some 2, .alloc 31, 0, "law.go:14", #[], none⟩) rfl (fun K hK => ?_)
      go_simp
      have zs := hS.size
      have hb := (Below.refl u.heap.size u).alloc (Nat.le_refl _) (.cells #[.int .i64 0, .int .i64 0, .int .i64 0, .int .i64 0, .int .i64 0, .int .i64 0, .bool false, .bool false, .int .i64 0, .bool false] 31)
      replace hS := hS.trans (hb.mono hS.size)
      refine Shut.out hK _ _ (hS.mono hBZ) (fun _ => ?_)
      clear hK K
      try simp only [Act.put, List.setIfInBounds_toArray, List.set_cons_zero, List.set_cons_succ]
      exact IH _ _ _ _ (by omega) ⟨lq0, cq0, cq1, true, xq1, v21, v22, v23, v20, v24, v25, v26, _, p3, u.heap.size, sa, rfl, (by (try simp only [List.setIfInBounds_toArray, List.set_cons_zero, List.set_cons_succ]); try rfl), (by simp only [cond_true, cond_false] at hn ⊢; omega), hc0, hc1, hS, h21, h22, h24, h25, h26, (fun _ => ⟨rfl, zs, heap_alloc_new _ _⟩), (fun h => ⟨(ksa h).1, (ksa h).2.1, blk_below (ksa h).2.2 hb (blk_lt (ksa h).2.2)⟩)⟩
    · skip
      refine inv_arm (o := ⟨some 3, .alloc 38, 0, "law.go:14", #[], none⟩) rfl (fun K hK => ?_)
      go_simp
      have zs := hS.size
      have hb := (Below.refl u.heap.size u).alloc (Nat.le_refl _) (.cells #[.bool false, .bool false, .bool false, .int .i64 0, .int .i64 0, .int .u64 0, .slice none 0 0] 38)
      replace hS := hS.trans (hb.mono hS.size)
      refine Shut.out hK _ _ (hS.mono hBZ) (fun _ => ?_)
      clear hK K
      try simp only [Act.put, List.setIfInBounds_toArray, List.set_cons_zero, List.set_cons_succ]
      exact IH _ _ _ _ (by omega) ⟨lq0, cq0, cq1, xq0, true, v21, v22, v23, v20, v24, v25, v26, p2, _, sf0, u.heap.size, rfl, (by (try simp only [List.setIfInBounds_toArray, List.set_cons_zero, List.set_cons_succ]); try rfl), (by simp only [cond_true, cond_false] at hn ⊢; omega), hc0, hc1, hS, h21, h22, h24, h25, h26, (fun h => ⟨(ksf0 h).1, (ksf0 h).2.1, blk_below (ksf0 h).2.2 hb (blk_lt (ksf0 h).2.2)⟩), (fun _ => ⟨rfl, zs, heap_alloc_new _ _⟩)⟩
  simp only [Bool.and_eq_true] at hall
  obtain ⟨rfl, rfl, rfl, rfl, rfl⟩ := hall
  obtain rfl := h21 rfl
  obtain rfl := h22 rfl
  obtain rfl := h24 rfl
  obtain rfl := h25 rfl
  obtain rfl := h26 rfl
  obtain ⟨rfl, gsf0, Vsf0⟩ := ksf0 rfl
  obtain ⟨rfl, gsa, Vsa⟩ := ksa rfl
  obtain ⟨fu, rfl⟩ : ∃ m, fu = m + 3 := ⟨fu - 3, by simp only [cond_true] at hn; omega⟩
  clear IH hn hc0 hc1
  have neo_f0 := Nat.ne_of_lt (Nat.lt_of_lt_of_le (blk_lt Vo.out) gsf0)
  have neo_a := Nat.ne_of_lt (Nat.lt_of_lt_of_le (blk_lt Vo.out) gsa)
  have nef0_a : sf0 ≠ sa := blk_ne Vsf0 Vsa (by decide)
  have gef0 := Nat.le_trans HB.out.2 gsf0
  have gea := Nat.le_trans HB.out.2 gsa
  replace Vo := Lib.hid (blk_below Vo.out hS (blk_lt Vo.out))
  replace HB := Lib.hid (And.intro (HB.out.1.trans (hS.mono HB.out.2)) (Nat.le_trans HB.out.2 hS.size))
  have Vf0 := Lib.hid Vsf0
  clear Vsf0
  have Va := Lib.hid Vsa
  clear Vsa
  obtain ⟨w3, hw3⟩ : ∃ W, u.setCells (w.heap.size) 0 [.int .i64 2, .int .i64 0, .int .i64 0, .int .i64 0, .int .i64 0, .int .i64 1, .int .i64 0, .int .u32 0, .int .u32 0, .slice none 0 0, .slice none 0 0] = W := ⟨_, rfl⟩
  have tho := Lib.hid (there_blk Vo.out (k := 11) rfl)
  replace Vf0 := Lib.hid (stayS hw3 neo_f0.symm Vf0.out)
  replace Va := Lib.hid (stayS hw3 neo_a.symm Va.out)
  replace Vo := Lib.hid (setS hw3 Vo.out rfl)
  replace HB := Lib.hid (belS hw3 geo HB.out)
  replace hS := (hS.mono hBZ)
  refine wpAnyH_ready (rs := [9]) (by kernel_rfl) (by simp) (AllReadyH.cons (o := ⟨none, .store 29 (.tmp 1) (.tmp 24), 0, "law.go:14", #[⟨4, .data⟩, ⟨2, .chain⟩, ⟨0, .phase⟩, ⟨1, .phase⟩, ⟨2, .phase⟩, ⟨3, .phase⟩, ⟨4, .phase⟩, ⟨5, .textOnly .lateStores⟩, ⟨6, .textOnly .lateStores⟩, ⟨7, .phase⟩, ⟨8, .phase⟩], none⟩) rfl (fun K hK => ?_) AllReadyH.nil)
  refine op_storeS (by rfl) rfl rfl rfl tho.out (by kernel_rfl) (by simp [Value.oneCell']) hw3 ?_
  replace hS := hw3 ▸ below_setCells geo [.int .i64 2, .int .i64 0, .int .i64 0, .int .i64 0, .int .i64 0, .int .i64 1, .int .i64 0, .int .u32 0, .int .u32 0, .slice none 0 0, .slice none 0 0] 0 _ hS
  obtain ⟨w4, hw4⟩ : ∃ W, w3.setCells (sf0) 0 [.int .i64 0, .int .i64 0, .int .i64 0, .int .i64 0, .int .i64 0, .int .i64 0, .bool false, .bool false, .int .i64 0, .bool false] = W := ⟨_, rfl⟩
  have thf0 := Lib.hid (there_blk Vf0.out (k := 10) rfl)
  replace Vo := Lib.hid (stayS hw4 neo_f0 Vo.out)
  replace Va := Lib.hid (stayS hw4 nef0_a.symm Va.out)
  replace Vf0 := Lib.hid (setS hw4 Vf0.out rfl)
  replace HB := Lib.hid (belS hw4 gef0 HB.out)
  refine Shut.out hK _ _ hS (fun _ => ?_)
  clear hK K
  try simp only [Act.put, List.setIfInBounds_toArray, List.set_cons_zero, List.set_cons_succ]
  refine wpAnyH_ready (rs := [10]) (by kernel_rfl) (by simp) (AllReadyH.cons (o := ⟨none, .store 31 (.tmp 2) (.tmp 25), 0, "law.go:14", #[⟨7, .data⟩, ⟨5, .data⟩, ⟨9, .chain⟩, ⟨0, .phase⟩, ⟨1, .phase⟩, ⟨2, .phase⟩, ⟨3, .phase⟩, ⟨4, .phase⟩, ⟨5, .phase⟩, ⟨6, .textOnly .lateStores⟩, ⟨7, .phase⟩, ⟨8, .phase⟩, ⟨9, .phase⟩], none⟩) rfl (fun K hK => ?_) AllReadyH.nil)
  refine op_storeS (by rfl) rfl rfl rfl thf0.out (by kernel_rfl) (by simp [Value.oneCell']) hw4 ?_
  replace hS := hw4 ▸ below_setCells gef0 [.int .i64 0, .int .i64 0, .int .i64 0, .int .i64 0, .int .i64 0, .int .i64 0, .bool false, .bool false, .int .i64 0, .bool false] 0 _ hS
  obtain ⟨w5, hw5⟩ : ∃ W, w4.setCells (sa) 0 [.bool true, .bool false, .bool false, .int .i64 0, .int .i64 0, .int .u64 0, .slice none 0 0] = W := ⟨_, rfl⟩
  have tha := Lib.hid (there_blk Va.out (k := 7) rfl)
  replace Vo := Lib.hid (stayS hw5 neo_a Vo.out)
  replace Vf0 := Lib.hid (stayS hw5 nef0_a Vf0.out)
  replace Va := Lib.hid (setS hw5 Va.out rfl)
  replace HB := Lib.hid (belS hw5 gea HB.out)
  refine Shut.out hK _ _ hS (fun _ => ?_)
  clear hK K
  try simp only [Act.put, List.setIfInBounds_toArray, List.set_cons_zero, List.set_cons_succ]
  refine wpAnyH_ready (rs := [11]) (by kernel_rfl) (by simp) (AllReadyH.cons (o := ⟨none, .store 38 (.tmp 3) (.tmp 26), 0, "law.go:14", #[⟨8, .data⟩, ⟨6, .data⟩, ⟨10, .chain⟩, ⟨0, .phase⟩, ⟨1, .phase⟩, ⟨2, .phase⟩, ⟨3, .phase⟩, ⟨4, .phase⟩, ⟨5, .phase⟩, ⟨6, .phase⟩, ⟨7, .phase⟩, ⟨8, .phase⟩, ⟨9, .phase⟩, ⟨10, .phase⟩], none⟩) rfl (fun K hK => ?_) AllReadyH.nil)
  refine op_storeS (by rfl) rfl rfl rfl tha.out (by kernel_rfl) (by simp [Value.oneCell']) hw5 ?_
  replace hS := hw5 ▸ below_setCells gea [.bool true, .bool false, .bool false, .int .i64 0, .int .i64 0, .int .u64 0, .slice none 0 0] 0 _ hS
  refine Shut.out hK _ _ hS (fun _ => ?_)
  clear hK K
  try simp only [Act.put, List.setIfInBounds_toArray, List.set_cons_zero, List.set_cons_succ]
  refine wpAnyH_done (by kernel_rfl) ?_ _
  refine NoPanic.normal ?_
  clear hS hBZ gsf0 gsa tho thf0 tha
  clear Vf0
  go_wp2_with fail
  refine (N2.out _).mono ?_
  rintro e w6 ⟨rfl, hb⟩
  replace Vo := Lib.hid (blk_below Vo.out hb (blk_lt Vo.out))
  replace Va := Lib.hid (blk_below Va.out hb (blk_lt Va.out))
  replace HB := Lib.hid (And.intro (HB.out.1.trans (hb.mono HB.out.2)) (Nat.le_trans HB.out.2 hb.size))
  clear hb
  have lto := blk_lt Vo.out
  have lta := blk_lt Va.out
  have gq := HB.out.2
  obtain ⟨w7, hw7⟩ : ∃ W, (w6.alloc (.cells #[.int .i64 0, .int .i64 0, .int .i64 0, .int .i64 0, .int .i64 0, .int .i64 0, .bool false, .bool false, .int .i64 0, .bool false] 31)) = W := ⟨_, rfl⟩
  have hb : Below w6.heap.size w6 w7 := hw7 ▸ ((Below.refl _ _).alloc (Nat.le_refl _) _)
  have hv0 : w7.heap[w6.heap.size]? = some (.cells #[.int .i64 0, .int .i64 0, .int .i64 0, .int .i64 0, .int .i64 0, .int .i64 0, .bool false, .bool false, .int .i64 0, .bool false] 31) := by
    have h0 := heap_alloc_new w6 (.cells #[.int .i64 0, .int .i64 0, .int .i64 0, .int .i64 0, .int .i64 0, .int .i64 0, .bool false, .bool false, .int .i64 0, .bool false] 31)
    rw [show w6.heap.size = w6.heap.size by simp [Nat.add_assoc]] at h0
    rw [← hw7]
    exact h0
  replace Vo := Lib.hid (blk_below Vo.out hb (blk_lt Vo.out))
  replace Va := Lib.hid (blk_below Va.out hb (blk_lt Va.out))
  replace HB := Lib.hid (And.intro (HB.out.1.trans (hb.mono HB.out.2)) (Nat.le_trans HB.out.2 hb.size))
  have Vw := Lib.hid hv0
  have neo_w := Nat.ne_of_lt lto
  have nea_w := Nat.ne_of_lt lta
  have gew := gq
  generalize hsw : w6.heap.size = sw at *
  clear hb gq hv0 lto lta
  obtain ⟨mw8, w8, hw8, hse, VN⟩ := set10 Vw.out (.int .i64 30) (.int .i64 0) (.int .i64 0) (.int .i64 0) (.int .i64 (-1)) (.int .i64 0) (.bool false) (.bool false) (.int .i64 0) (.bool false)
  replace Vo := Lib.hid (stayS hse neo_w Vo.out)
  replace Va := Lib.hid (stayS hse nea_w Va.out)
  replace Vw := VN
  replace HB := Lib.hid (belS hse gew HB.out)
  clear VN hse
  have lto := blk_lt Vo.out
  have lta := blk_lt Va.out
  have ltw := blk_lt Vw.out
  have gq := HB.out.2
  obtain ⟨w9, hw9⟩ : ∃ W, (w8.alloc (.cells #[.bool false, .bool false, .bool false, .int .i64 0, .int .i64 0, .int .u64 0, .slice none 0 0] 38)) = W := ⟨_, rfl⟩
  have hb : Below w8.heap.size w8 w9 := hw9 ▸ ((Below.refl _ _).alloc (Nat.le_refl _) _)
  have hv0 : w9.heap[w8.heap.size]? = some (.cells #[.bool false, .bool false, .bool false, .int .i64 0, .int .i64 0, .int .u64 0, .slice none 0 0] 38) := by
    have h0 := heap_alloc_new w8 (.cells #[.bool false, .bool false, .bool false, .int .i64 0, .int .i64 0, .int .u64 0, .slice none 0 0] 38)
    rw [show w8.heap.size = w8.heap.size by simp [Nat.add_assoc]] at h0
    rw [← hw9]
    exact h0
  replace Vo := Lib.hid (blk_below Vo.out hb (blk_lt Vo.out))
  replace Va := Lib.hid (blk_below Va.out hb (blk_lt Va.out))
  replace Vw := Lib.hid (blk_below Vw.out hb (blk_lt Vw.out))
  replace HB := Lib.hid (And.intro (HB.out.1.trans (hb.mono HB.out.2)) (Nat.le_trans HB.out.2 hb.size))
  have Vb := Lib.hid hv0
  have neo_b := Nat.ne_of_lt lto
  have nea_b := Nat.ne_of_lt lta
  have new_b := Nat.ne_of_lt ltw
  have geb := gq
  generalize hsb : w8.heap.size = sb at *
  clear hb gq hv0 lto lta ltw
  go_wp2
  clear mw8 hw8
  go_loopw [6] (fun iv wr => (iv = .int .i64 0 ∧ Hid (Below w.heap.size w wr ∧ w.heap.size ≤ wr.heap.size) ∧ Hid (wr.heap[w.heap.size]? = some (.cells #[.int .i64 2, .int .i64 0, .int .i64 0, .int .i64 0, .int .i64 0, .int .i64 1, .int .i64 0, .int .u32 0, .int .u32 0, .slice none 0 0, .slice none 0 0] 29)) ∧ Hid (wr.heap[sa]? = some (.cells #[.bool true, .bool false, .bool false, .int .i64 0, .int .i64 0, .int .u64 0, .slice none 0 0] 38)) ∧ Hid (wr.heap[sw]? = some (.cells #[.int .i64 30, .int .i64 0, .int .i64 0, .int .i64 0, .int .i64 (-1), .int .i64 0, .bool false, .bool false, .int .i64 0, .bool false] 31)) ∧ Hid (wr.heap[sb]? = some (.cells #[.bool false, .bool false, .bool false, .int .i64 0, .int .i64 0, .int .u64 0, .slice none 0 0] 38))) ∨ (iv = .int .i64 1 ∧ Hid (Below w.heap.size w wr ∧ w.heap.size ≤ wr.heap.size) ∧ Hid (wr.heap[w.heap.size]? = some (.cells #[.int .i64 2, .int .i64 1, .int .i64 0, .int .i64 0, .int .i64 0, .int .i64 1, .int .i64 0, .int .u32 0, .int .u32 0, .slice none 0 0, .slice none 0 0] 29)) ∧ Hid (wr.heap[sa]? = some (.cells #[.bool true, .bool false, .bool false, .int .i64 0, .int .i64 0, .int .u64 0, .slice none 0 0] 38)) ∧ Hid (wr.heap[sw]? = some (.cells #[.int .i64 30, .int .i64 1, .int .i64 0, .int .i64 0, .int .i64 (-1), .int .i64 0, .bool false, .bool false, .int .i64 0, .bool false] 31)) ∧ Hid (wr.heap[sb]? = some (.cells #[.bool false, .bool false, .bool false, .int .i64 0, .int .i64 0, .int .u64 0, .slice none 0 0] 38))) ∨ (iv = .int .i64 2 ∧ Hid (Below w.heap.size w wr ∧ w.heap.size ≤ wr.heap.size) ∧ Hid (wr.heap[w.heap.size]? = some (.cells #[.int .i64 2, .int .i64 1, .int .i64 0, .int .i64 0, .int .i64 0, .int .i64 (-1048575), .int .i64 0, .int .u32 0, .int .u32 0, .slice none 0 0, .slice none 0 0] 29)) ∧ Hid (wr.heap[sa]? = some (.cells #[.bool true, .bool false, .bool false, .int .i64 0, .int .i64 0, .int .u64 0, .slice none 0 0] 38)) ∧ Hid (wr.heap[sw]? = some (.cells #[.int .i64 30, .int .i64 2, .int .i64 0, .int .i64 0, .int .i64 (-1), .int .i64 1, .bool false, .bool false, .int .i64 0, .bool false] 31)) ∧ Hid (wr.heap[sb]? = some (.cells #[.bool false, .bool false, .bool false, .int .i64 0, .int .i64 0, .int .u64 0, .slice none 0 0] 38))) ∨ (iv = .int .i64 3 ∧ Hid (Below w.heap.size w wr ∧ w.heap.size ≤ wr.heap.size) ∧ Hid (wr.heap[w.heap.size]? = some (.cells #[.int .i64 2, .int .i64 1, .int .i64 0, .int .i64 0, .int .i64 0, .int .i64 (-1048575), .int .i64 1, .int .u32 0, .int .u32 0, .slice none 0 0, .slice none 0 0] 29)) ∧ Hid (wr.heap[sa]? = some (.cells #[.bool true, .bool false, .bool false, .int .i64 0, .int .i64 0, .int .u64 0, .slice none 0 0] 38)) ∧ Hid (wr.heap[sw]? = some (.cells #[.int .i64 30, .int .i64 3, .int .i64 0, .int .i64 0, .int .i64 (-1), .int .i64 1, .bool false, .bool false, .int .i64 3, .bool false] 31)) ∧ Hid (wr.heap[sb]? = some (.cells #[.bool false, .bool false, .bool false, .int .i64 0, .int .i64 0, .int .u64 0, .slice none 0 0] 38)))) (fun iv _ => 3 - (intOf iv).toNat)
  case atStart => exact Or.inl ⟨rfl, HB, Vo, Va, Vw, Vb⟩
  case round =>
    clear HB Vo Va Vw Vb
    rcases hrel with ⟨rfl, HB, Vo, Va, Vw, Vb⟩ | ⟨rfl, HB, Vo, Va, Vw, Vb⟩ | ⟨rfl, HB, Vo, Va, Vw, Vb⟩ | ⟨rfl, HB, Vo, Va, Vw, Vb⟩
    · have co := row11 Vo.out
      have cw := row10 Vw.out
      go_wp2_with fail
      refine (K1.out _).mono ?_
      rintro e w10 ⟨rfl, hb⟩
      clear co cw
      replace Vo := Lib.hid (blk_below Vo.out hb (blk_lt Vo.out))
      replace Va := Lib.hid (blk_below Va.out hb (blk_lt Va.out))
      replace Vw := Lib.hid (blk_below Vw.out hb (blk_lt Vw.out))
      replace Vb := Lib.hid (blk_below Vb.out hb (blk_lt Vb.out))
      replace HB := Lib.hid (And.intro (HB.out.1.trans (hb.mono HB.out.2)) (Nat.le_trans HB.out.2 hb.size))
      clear hb
      obtain ⟨mw11, w11, hw11, hse, VN⟩ := set11 Vo.out (.int .i64 2) (.int .i64 1) (.int .i64 0) (.int .i64 0) (.int .i64 0) (.int .i64 1) (.int .i64 0) (.int .u32 0) (.int .u32 0) (.slice none 0 0) (.slice none 0 0)
      replace Va := Lib.hid (stayS hse neo_a.symm Va.out)
      replace Vw := Lib.hid (stayS hse neo_w.symm Vw.out)
      replace Vb := Lib.hid (stayS hse neo_b.symm Vb.out)
      replace Vo := VN
      replace HB := Lib.hid (belS hse geo HB.out)
      clear VN hse
      obtain ⟨mw12, w12, hw12, hse, VN⟩ := set10 Vw.out (.int .i64 30) (.int .i64 1) (.int .i64 0) (.int .i64 0) (.int .i64 (-1)) (.int .i64 0) (.bool false) (.bool false) (.int .i64 0) (.bool false)
      replace Vo := Lib.hid (stayS hse neo_w Vo.out)
      replace Va := Lib.hid (stayS hse nea_w Va.out)
      replace Vb := Lib.hid (stayS hse new_b.symm Vb.out)
      replace Vw := VN
      replace HB := Lib.hid (belS hse gew HB.out)
      clear VN hse
      obtain ⟨mw13, w13, hw13, hse, VN⟩ := set7 Vb.out (.bool false) (.bool false) (.bool false) (.int .i64 0) (.int .i64 0) (.int .u64 0) (.slice none 0 0)
      replace Vo := Lib.hid (stayS hse neo_b Vo.out)
      replace Va := Lib.hid (stayS hse nea_b Va.out)
      replace Vw := Lib.hid (stayS hse new_b Vw.out)
      replace Vb := VN
      replace HB := Lib.hid (belS hse geb HB.out)
      clear VN hse
      go_wp2
      go_roundw
      case rel => exact Or.inr (Or.inl ⟨by go_num, HB, Vo, Va, Vw, Vb⟩)
      case measure => simp [intOf]
    · have co := row11 Vo.out
      have cw := row10 Vw.out
      go_wp2_with fail
      refine (K2.out _).mono ?_
      rintro e w10 ⟨rfl, hb⟩
      clear co cw
      replace Vo := Lib.hid (blk_below Vo.out hb (blk_lt Vo.out))
      replace Va := Lib.hid (blk_below Va.out hb (blk_lt Va.out))
      replace Vw := Lib.hid (blk_below Vw.out hb (blk_lt Vw.out))
      replace Vb := Lib.hid (blk_below Vb.out hb (blk_lt Vb.out))
      replace HB := Lib.hid (And.intro (HB.out.1.trans (hb.mono HB.out.2)) (Nat.le_trans HB.out.2 hb.size))
      clear hb
      obtain ⟨mw11, w11, hw11, hse, VN⟩ := set11 Vo.out (.int .i64 2) (.int .i64 1) (.int .i64 0) (.int .i64 0) (.int .i64 0) (.int .i64 (-1048575)) (.int .i64 0) (.int .u32 0) (.int .u32 0) (.slice none 0 0) (.slice none 0 0)
      replace Va := Lib.hid (stayS hse neo_a.symm Va.out)
      replace Vw := Lib.hid (stayS hse neo_w.symm Vw.out)
      replace Vb := Lib.hid (stayS hse neo_b.symm Vb.out)
      replace Vo := VN
      replace HB := Lib.hid (belS hse geo HB.out)
      clear VN hse
      obtain ⟨mw12, w12, hw12, hse, VN⟩ := set10 Vw.out (.int .i64 30) (.int .i64 2) (.int .i64 0) (.int .i64 0) (.int .i64 (-1)) (.int .i64 1) (.bool false) (.bool false) (.int .i64 0) (.bool false)
      replace Vo := Lib.hid (stayS hse neo_w Vo.out)
      replace Va := Lib.hid (stayS hse nea_w Va.out)
      replace Vb := Lib.hid (stayS hse new_b.symm Vb.out)
      replace Vw := VN
      replace HB := Lib.hid (belS hse gew HB.out)
      clear VN hse
      obtain ⟨mw13, w13, hw13, hse, VN⟩ := set7 Vb.out (.bool false) (.bool false) (.bool false) (.int .i64 0) (.int .i64 0) (.int .u64 0) (.slice none 0 0)
      replace Vo := Lib.hid (stayS hse neo_b Vo.out)
      replace Va := Lib.hid (stayS hse nea_b Va.out)
      replace Vw := Lib.hid (stayS hse new_b Vw.out)
      replace Vb := VN
      replace HB := Lib.hid (belS hse geb HB.out)
      clear VN hse
      go_wp2
      go_roundw
      case rel => exact Or.inr (Or.inr (Or.inl ⟨by go_num, HB, Vo, Va, Vw, Vb⟩))
      case measure => simp [intOf]
    · have co := row11 Vo.out
      have cw := row10 Vw.out
      go_wp2_with fail
      refine (K3.out _).mono ?_
      rintro e w10 ⟨rfl, hb⟩
      clear co cw
      replace Vo := Lib.hid (blk_below Vo.out hb (blk_lt Vo.out))
      replace Va := Lib.hid (blk_below Va.out hb (blk_lt Va.out))
      replace Vw := Lib.hid (blk_below Vw.out hb (blk_lt Vw.out))
      replace Vb := Lib.hid (blk_below Vb.out hb (blk_lt Vb.out))
      replace HB := Lib.hid (And.intro (HB.out.1.trans (hb.mono HB.out.2)) (Nat.le_trans HB.out.2 hb.size))
      clear hb
      obtain ⟨mw11, w11, hw11, hse, VN⟩ := set11 Vo.out (.int .i64 2) (.int .i64 1) (.int .i64 0) (.int .i64 0) (.int .i64 0) (.int .i64 (-1048575)) (.int .i64 1) (.int .u32 0) (.int .u32 0) (.slice none 0 0) (.slice none 0 0)
      replace Va := Lib.hid (stayS hse neo_a.symm Va.out)
      replace Vw := Lib.hid (stayS hse neo_w.symm Vw.out)
      replace Vb := Lib.hid (stayS hse neo_b.symm Vb.out)
      replace Vo := VN
      replace HB := Lib.hid (belS hse geo HB.out)
      clear VN hse
      obtain ⟨mw12, w12, hw12, hse, VN⟩ := set10 Vw.out (.int .i64 30) (.int .i64 3) (.int .i64 0) (.int .i64 0) (.int .i64 (-1)) (.int .i64 1) (.bool false) (.bool false) (.int .i64 3) (.bool false)
      replace Vo := Lib.hid (stayS hse neo_w Vo.out)
      replace Va := Lib.hid (stayS hse nea_w Va.out)
      replace Vb := Lib.hid (stayS hse new_b.symm Vb.out)
      replace Vw := VN
      replace HB := Lib.hid (belS hse gew HB.out)
      clear VN hse
      obtain ⟨mw13, w13, hw13, hse, VN⟩ := set7 Vb.out (.bool false) (.bool false) (.bool false) (.int .i64 0) (.int .i64 0) (.int .u64 0) (.slice none 0 0)
      replace Vo := Lib.hid (stayS hse neo_b Vo.out)
      replace Va := Lib.hid (stayS hse nea_b Va.out)
      replace Vw := Lib.hid (stayS hse new_b Vw.out)
      replace Vb := VN
      replace HB := Lib.hid (belS hse geb HB.out)
      clear VN hse
      go_wp2
      go_roundw
      case rel => exact Or.inr (Or.inr (Or.inr (⟨by go_num, HB, Vo, Va, Vw, Vb⟩)))
      case measure => simp [intOf]
    · have co := row11 Vo.out
      go_wp2_with fail
      refine (RD.out _).mono ?_
      rintro e w10 ⟨rfl, hb⟩
      clear co
      replace Vo := Lib.hid (blk_below Vo.out hb (blk_lt Vo.out))
      replace Va := Lib.hid (blk_below Va.out hb (blk_lt Va.out))
      replace Vw := Lib.hid (blk_below Vw.out hb (blk_lt Vw.out))
      replace Vb := Lib.hid (blk_below Vb.out hb (blk_lt Vb.out))
      replace HB := Lib.hid (And.intro (HB.out.1.trans (hb.mono HB.out.2)) (Nat.le_trans HB.out.2 hb.size))
      clear hb
      have co := row11 Vo.out
      have ca := row7 Va.out
      have cb := row7 Vb.out
      have cw := row10 Vw.out
      go_wp2_with fail
      refine (N3.out _).mono ?_
      rintro e w11 ⟨rfl, hb⟩
      clear co ca cb cw
      replace Vo := Lib.hid (blk_below Vo.out hb (blk_lt Vo.out))
      replace Va := Lib.hid (blk_below Va.out hb (blk_lt Va.out))
      replace Vw := Lib.hid (blk_below Vw.out hb (blk_lt Vw.out))
      replace Vb := Lib.hid (blk_below Vb.out hb (blk_lt Vb.out))
      replace HB := Lib.hid (And.intro (HB.out.1.trans (hb.mono HB.out.2)) (Nat.le_trans HB.out.2 hb.size))
      clear hb
      clear Va
      clear Vw
      have lto := blk_lt Vo.out
      have ltb := blk_lt Vb.out
      have gq := HB.out.2
      obtain ⟨w12, hw12⟩ : ∃ W, (w11.alloc (.cells #[.int .i64 0, .int .i64 0, .int .i64 0, .int .i64 0, .int .i64 0, .int .i64 0, .bool false, .bool false, .int .i64 0, .bool false] 31)) = W := ⟨_, rfl⟩
      have hb : Below w11.heap.size w11 w12 := hw12 ▸ ((Below.refl _ _).alloc (Nat.le_refl _) _)
      have hv0 : w12.heap[w11.heap.size]? = some (.cells #[.int .i64 0, .int .i64 0, .int .i64 0, .int .i64 0, .int .i64 0, .int .i64 0, .bool false, .bool false, .int .i64 0, .bool false] 31) := by
        have h0 := heap_alloc_new w11 (.cells #[.int .i64 0, .int .i64 0, .int .i64 0, .int .i64 0, .int .i64 0, .int .i64 0, .bool false, .bool false, .int .i64 0, .bool false] 31)
        rw [show w11.heap.size = w11.heap.size by simp [Nat.add_assoc]] at h0
        rw [← hw12]
        exact h0
      replace Vo := Lib.hid (blk_below Vo.out hb (blk_lt Vo.out))
      replace Vb := Lib.hid (blk_below Vb.out hb (blk_lt Vb.out))
      replace HB := Lib.hid (And.intro (HB.out.1.trans (hb.mono HB.out.2)) (Nat.le_trans HB.out.2 hb.size))
      have Vr := Lib.hid hv0
      have neo_r := Nat.ne_of_lt lto
      have neb_r := Nat.ne_of_lt ltb
      have ger := gq
      generalize hsr : w11.heap.size = sr at *
      clear hb gq hv0 lto ltb
      obtain ⟨mw13, w13, hw13, hse, VN⟩ := set10 Vr.out (.int .i64 29) (.int .i64 0) (.int .i64 0) (.int .i64 0) (.int .i64 (-1)) (.int .i64 0) (.bool false) (.bool false) (.int .i64 0) (.bool false)
      replace Vo := Lib.hid (stayS hse neo_r Vo.out)
      replace Vb := Lib.hid (stayS hse neb_r Vb.out)
      replace Vr := VN
      replace HB := Lib.hid (belS hse ger HB.out)
      clear VN hse
      go_wp2
      clear mw13 hw13
      go_loopw [10] (fun iv wr => (iv = .int .i64 0 ∧ Hid (Below w.heap.size w wr ∧ w.heap.size ≤ wr.heap.size) ∧ Hid (wr.heap[w.heap.size]? = some (.cells #[.int .i64 2, .int .i64 1, .int .i64 0, .int .i64 0, .int .i64 0, .int .i64 (-1048575), .int .i64 1, .int .u32 0, .int .u32 0, .slice none 0 0, .slice none 0 0] 29)) ∧ Hid (wr.heap[sb]? = some (.cells #[.bool false, .bool false, .bool false, .int .i64 0, .int .i64 0, .int .u64 0, .slice none 0 0] 38)) ∧ Hid (wr.heap[sr]? = some (.cells #[.int .i64 29, .int .i64 0, .int .i64 0, .int .i64 0, .int .i64 (-1), .int .i64 0, .bool false, .bool false, .int .i64 0, .bool false] 31))) ∨ (iv = .int .i64 1 ∧ Hid (Below w.heap.size w wr ∧ w.heap.size ≤ wr.heap.size) ∧ Hid (wr.heap[w.heap.size]? = some (.cells #[.int .i64 2, .int .i64 1, .int .i64 0, .int .i64 0, .int .i64 0, .int .i64 (-1048576), .int .i64 1, .int .u32 0, .int .u32 0, .slice none 0 0, .slice none 0 0] 29)) ∧ Hid (wr.heap[sb]? = some (.cells #[.bool false, .bool false, .bool false, .int .i64 0, .int .i64 0, .int .u64 0, .slice none 0 0] 38)) ∧ Hid (wr.heap[sr]? = some (.cells #[.int .i64 29, .int .i64 1, .int .i64 0, .int .i64 0, .int .i64 (-1), .int .i64 0, .bool false, .bool false, .int .i64 0, .bool false] 31))) ∨ (iv = .int .i64 2 ∧ Hid (Below w.heap.size w wr ∧ w.heap.size ≤ wr.heap.size) ∧ Hid (wr.heap[w.heap.size]? = some (.cells #[.int .i64 2, .int .i64 1, .int .i64 0, .int .i64 0, .int .i64 0, .int .i64 (-1048576), .int .i64 0, .int .u32 0, .int .u32 0, .slice none 0 0, .slice none 0 0] 29)) ∧ Hid (wr.heap[sb]? = some (.cells #[.bool false, .bool false, .bool false, .int .i64 0, .int .i64 0, .int .u64 0, .slice none 0 0] 38)) ∧ Hid (wr.heap[sr]? = some (.cells #[.int .i64 29, .int .i64 2, .int .i64 0, .int .i64 0, .int .i64 (-1), .int .i64 0, .bool false, .bool false, .int .i64 0, .bool false] 31))) ∨ (iv = .int .i64 3 ∧ Hid (Below w.heap.size w wr ∧ w.heap.size ≤ wr.heap.size) ∧ Hid (wr.heap[w.heap.size]? = some (.cells #[.int .i64 2, .int .i64 1, .int .i64 0, .int .i64 0, .int .i64 0, .int .i64 (-1048576), .int .i64 0, .int .u32 0, .int .u32 0, .slice none 0 0, .slice none 0 0] 29)) ∧ Hid (wr.heap[sb]? = some (.cells #[.bool true, .bool false, .bool false, .int .i64 3, .int .i64 0, .int .u64 0, .slice none 0 0] 38)) ∧ Hid (wr.heap[sr]? = some (.cells #[.int .i64 0, .int .i64 0, .int .i64 0, .int .i64 0, .int .i64 0, .int .i64 0, .bool false, .bool false, .int .i64 0, .bool false] 31)))) (fun iv _ => 3 - (intOf iv).toNat)
      case atStart => exact Or.inl ⟨rfl, HB, Vo, Vb, Vr⟩
      case round =>
        clear HB Vo Vb Vr
        rcases hrel with ⟨rfl, HB, Vo, Vb, Vr⟩ | ⟨rfl, HB, Vo, Vb, Vr⟩ | ⟨rfl, HB, Vo, Vb, Vr⟩ | ⟨rfl, HB, Vo, Vb, Vr⟩
        · have co := row11 Vo.out
          have cr := row10 Vr.out
          go_wp2_with fail
          refine (K4.out _).mono ?_
          rintro e w14 ⟨rfl, hb⟩
          clear co cr
          replace Vo := Lib.hid (blk_below Vo.out hb (blk_lt Vo.out))
          replace Vb := Lib.hid (blk_below Vb.out hb (blk_lt Vb.out))
          replace Vr := Lib.hid (blk_below Vr.out hb (blk_lt Vr.out))
          replace HB := Lib.hid (And.intro (HB.out.1.trans (hb.mono HB.out.2)) (Nat.le_trans HB.out.2 hb.size))
          clear hb
          obtain ⟨mw15, w15, hw15, hse, VN⟩ := set11 Vo.out (.int .i64 2) (.int .i64 1) (.int .i64 0) (.int .i64 0) (.int .i64 0) (.int .i64 (-1048576)) (.int .i64 1) (.int .u32 0) (.int .u32 0) (.slice none 0 0) (.slice none 0 0)
          replace Vb := Lib.hid (stayS hse neo_b.symm Vb.out)
          replace Vr := Lib.hid (stayS hse neo_r.symm Vr.out)
          replace Vo := VN
          replace HB := Lib.hid (belS hse geo HB.out)
          clear VN hse
          obtain ⟨mw16, w16, hw16, hse, VN⟩ := set10 Vr.out (.int .i64 29) (.int .i64 1) (.int .i64 0) (.int .i64 0) (.int .i64 (-1)) (.int .i64 0) (.bool false) (.bool false) (.int .i64 0) (.bool false)
          replace Vo := Lib.hid (stayS hse neo_r Vo.out)
          replace Vb := Lib.hid (stayS hse neb_r Vb.out)
          replace Vr := VN
          replace HB := Lib.hid (belS hse ger HB.out)
          clear VN hse
          obtain ⟨mw17, w17, hw17, hse, VN⟩ := set7 Vb.out (.bool false) (.bool false) (.bool false) (.int .i64 0) (.int .i64 0) (.int .u64 0) (.slice none 0 0)
          replace Vo := Lib.hid (stayS hse neo_b Vo.out)
          replace Vr := Lib.hid (stayS hse neb_r.symm Vr.out)
          replace Vb := VN
          replace HB := Lib.hid (belS hse geb HB.out)
          clear VN hse
          go_wp2
          go_roundw
          case rel => exact Or.inr (Or.inl ⟨by go_num, HB, Vo, Vb, Vr⟩)
          case measure => simp [intOf]
        · have co := row11 Vo.out
          have cr := row10 Vr.out
          go_wp2_with fail
          refine (K5.out _).mono ?_
          rintro e w14 ⟨rfl, hb⟩
          clear co cr
          replace Vo := Lib.hid (blk_below Vo.out hb (blk_lt Vo.out))
          replace Vb := Lib.hid (blk_below Vb.out hb (blk_lt Vb.out))
          replace Vr := Lib.hid (blk_below Vr.out hb (blk_lt Vr.out))
          replace HB := Lib.hid (And.intro (HB.out.1.trans (hb.mono HB.out.2)) (Nat.le_trans HB.out.2 hb.size))
          clear hb
          obtain ⟨mw15, w15, hw15, hse, VN⟩ := set11 Vo.out (.int .i64 2) (.int .i64 1) (.int .i64 0) (.int .i64 0) (.int .i64 0) (.int .i64 (-1048576)) (.int .i64 0) (.int .u32 0) (.int .u32 0) (.slice none 0 0) (.slice none 0 0)
          replace Vb := Lib.hid (stayS hse neo_b.symm Vb.out)
          replace Vr := Lib.hid (stayS hse neo_r.symm Vr.out)
          replace Vo := VN
          replace HB := Lib.hid (belS hse geo HB.out)
          clear VN hse
          obtain ⟨mw16, w16, hw16, hse, VN⟩ := set10 Vr.out (.int .i64 29) (.int .i64 2) (.int .i64 0) (.int .i64 0) (.int .i64 (-1)) (.int .i64 0) (.bool false) (.bool false) (.int .i64 0) (.bool false)
          replace Vo := Lib.hid (stayS hse neo_r Vo.out)
          replace Vb := Lib.hid (stayS hse neb_r Vb.out)
          replace Vr := VN
          replace HB := Lib.hid (belS hse ger HB.out)
          clear VN hse
          obtain ⟨mw17, w17, hw17, hse, VN⟩ := set7 Vb.out (.bool false) (.bool false) (.bool false) (.int .i64 0) (.int .i64 0) (.int .u64 0) (.slice none 0 0)
          replace Vo := Lib.hid (stayS hse neo_b Vo.out)
          replace Vr := Lib.hid (stayS hse neb_r.symm Vr.out)
          replace Vb := VN
          replace HB := Lib.hid (belS hse geb HB.out)
          clear VN hse
          go_wp2
          go_roundw
          case rel => exact Or.inr (Or.inr (Or.inl ⟨by go_num, HB, Vo, Vb, Vr⟩))
          case measure => simp [intOf]
        · have co := row11 Vo.out
          have cr := row10 Vr.out
          go_wp2_with fail
          refine (K6.out _).mono ?_
          rintro e w14 ⟨rfl, hb⟩
          clear co cr
          replace Vo := Lib.hid (blk_below Vo.out hb (blk_lt Vo.out))
          replace Vb := Lib.hid (blk_below Vb.out hb (blk_lt Vb.out))
          replace Vr := Lib.hid (blk_below Vr.out hb (blk_lt Vr.out))
          replace HB := Lib.hid (And.intro (HB.out.1.trans (hb.mono HB.out.2)) (Nat.le_trans HB.out.2 hb.size))
          clear hb
          obtain ⟨mw15, w15, hw15, hse, VN⟩ := set11 Vo.out (.int .i64 2) (.int .i64 1) (.int .i64 0) (.int .i64 0) (.int .i64 0) (.int .i64 (-1048576)) (.int .i64 0) (.int .u32 0) (.int .u32 0) (.slice none 0 0) (.slice none 0 0)
          replace Vb := Lib.hid (stayS hse neo_b.symm Vb.out)
          replace Vr := Lib.hid (stayS hse neo_r.symm Vr.out)
          replace Vo := VN
          replace HB := Lib.hid (belS hse geo HB.out)
          clear VN hse
          obtain ⟨mw16, w16, hw16, hse, VN⟩ := set10 Vr.out (.int .i64 0) (.int .i64 0) (.int .i64 0) (.int .i64 0) (.int .i64 0) (.int .i64 0) (.bool false) (.bool false) (.int .i64 0) (.bool false)
          replace Vo := Lib.hid (stayS hse neo_r Vo.out)
          replace Vb := Lib.hid (stayS hse neb_r Vb.out)
          replace Vr := VN
          replace HB := Lib.hid (belS hse ger HB.out)
          clear VN hse
          obtain ⟨mw17, w17, hw17, hse, VN⟩ := set7 Vb.out (.bool true) (.bool false) (.bool false) (.int .i64 3) (.int .i64 0) (.int .u64 0) (.slice none 0 0)
          replace Vo := Lib.hid (stayS hse neo_b Vo.out)
          replace Vr := Lib.hid (stayS hse neb_r.symm Vr.out)
          replace Vb := VN
          replace HB := Lib.hid (belS hse geb HB.out)
          clear VN hse
          go_wp2
          go_roundw
          case rel => exact Or.inr (Or.inr (Or.inr (⟨by go_num, HB, Vo, Vb, Vr⟩)))
          case measure => simp [intOf]
        · have co := row11 Vo.out
          have cb := row7 Vb.out
          go_wp2_with fail
          refine (N4.out _).mono ?_
          rintro e w14 ⟨rfl, hb⟩
          clear co cb
          replace Vo := Lib.hid (blk_below Vo.out hb (blk_lt Vo.out))
          replace Vb := Lib.hid (blk_below Vb.out hb (blk_lt Vb.out))
          replace Vr := Lib.hid (blk_below Vr.out hb (blk_lt Vr.out))
          replace HB := Lib.hid (And.intro (HB.out.1.trans (hb.mono HB.out.2)) (Nat.le_trans HB.out.2 hb.size))
          clear hb
          clear Vr
          have lto := blk_lt Vo.out
          have ltb := blk_lt Vb.out
          have gq := HB.out.2
          obtain ⟨w15, hw15⟩ : ∃ W, (w14.alloc (.cells #[.int .i64 0, .int .i64 0, .int .i64 0, .int .i64 0, .int .i64 0, .int .i64 0, .bool false, .bool false, .int .i64 0, .bool false] 31)) = W := ⟨_, rfl⟩
          have hb : Below w14.heap.size w14 w15 := hw15 ▸ ((Below.refl _ _).alloc (Nat.le_refl _) _)
          have hv0 : w15.heap[w14.heap.size]? = some (.cells #[.int .i64 0, .int .i64 0, .int .i64 0, .int .i64 0, .int .i64 0, .int .i64 0, .bool false, .bool false, .int .i64 0, .bool false] 31) := by
            have h0 := heap_alloc_new w14 (.cells #[.int .i64 0, .int .i64 0, .int .i64 0, .int .i64 0, .int .i64 0, .int .i64 0, .bool false, .bool false, .int .i64 0, .bool false] 31)
            rw [show w14.heap.size = w14.heap.size by simp [Nat.add_assoc]] at h0
            rw [← hw15]
            exact h0
          replace Vo := Lib.hid (blk_below Vo.out hb (blk_lt Vo.out))
          replace Vb := Lib.hid (blk_below Vb.out hb (blk_lt Vb.out))
          replace HB := Lib.hid (And.intro (HB.out.1.trans (hb.mono HB.out.2)) (Nat.le_trans HB.out.2 hb.size))
          have Vu := Lib.hid hv0
          have neo_u := Nat.ne_of_lt lto
          have neb_u := Nat.ne_of_lt ltb
          have geu := gq
          generalize hsu : w14.heap.size = su at *
          clear hb gq hv0 lto ltb
          obtain ⟨mw16, w16, hw16, hse, VN⟩ := set10 Vu.out (.int .i64 31) (.int .i64 0) (.int .i64 0) (.int .i64 0) (.int .i64 (-1)) (.int .i64 0) (.bool false) (.bool false) (.int .i64 0) (.bool false)
          replace Vo := Lib.hid (stayS hse neo_u Vo.out)
          replace Vb := Lib.hid (stayS hse neb_u Vb.out)
          replace Vu := VN
          replace HB := Lib.hid (belS hse geu HB.out)
          clear VN hse
          go_wp2
          clear mw16 hw16
          go_loopw [12] (fun iv wr => (iv = .int .i64 0 ∧ Hid (Below w.heap.size w wr ∧ w.heap.size ≤ wr.heap.size) ∧ Hid (wr.heap[w.heap.size]? = some (.cells #[.int .i64 2, .int .i64 1, .int .i64 0, .int .i64 0, .int .i64 0, .int .i64 (-1048576), .int .i64 0, .int .u32 0, .int .u32 0, .slice none 0 0, .slice none 0 0] 29)) ∧ Hid (wr.heap[sb]? = some (.cells #[.bool true, .bool false, .bool false, .int .i64 3, .int .i64 0, .int .u64 0, .slice none 0 0] 38)) ∧ Hid (wr.heap[su]? = some (.cells #[.int .i64 31, .int .i64 0, .int .i64 0, .int .i64 0, .int .i64 (-1), .int .i64 0, .bool false, .bool false, .int .i64 0, .bool false] 31))) ∨ (iv = .int .i64 1 ∧ Hid (Below w.heap.size w wr ∧ w.heap.size ≤ wr.heap.size) ∧ Hid (wr.heap[w.heap.size]? = some (.cells #[.int .i64 2, .int .i64 1, .int .i64 0, .int .i64 0, .int .i64 0, .int .i64 0, .int .i64 0, .int .u32 0, .int .u32 0, .slice none 0 0, .slice none 0 0] 29)) ∧ Hid (wr.heap[sb]? = some (.cells #[.bool false, .bool false, .bool false, .int .i64 0, .int .i64 0, .int .u64 0, .slice none 0 0] 38)) ∧ Hid (wr.heap[su]? = some (.cells #[.int .i64 31, .int .i64 1, .int .i64 0, .int .i64 0, .int .i64 (-1), .int .i64 0, .bool false, .bool false, .int .i64 0, .bool false] 31))) ∨ (iv = .int .i64 2 ∧ Hid (Below w.heap.size w wr ∧ w.heap.size ≤ wr.heap.size) ∧ Hid (wr.heap[w.heap.size]? = some (.cells #[.int .i64 2, .int .i64 1, .int .i64 0, .int .i64 0, .int .i64 0, .int .i64 0, .int .i64 0, .int .u32 0, .int .u32 0, .slice none 0 0, .slice none 0 0] 29)) ∧ Hid (wr.heap[sb]? = some (.cells #[.bool false, .bool false, .bool false, .int .i64 0, .int .i64 0, .int .u64 0, .slice none 0 0] 38)) ∧ Hid (wr.heap[su]? = some (.cells #[.int .i64 31, .int .i64 2, .int .i64 0, .int .i64 0, .int .i64 (-1), .int .i64 0, .bool false, .bool false, .int .i64 0, .bool false] 31))) ∨ (iv = .int .i64 3 ∧ Hid (Below w.heap.size w wr ∧ w.heap.size ≤ wr.heap.size) ∧ Hid (wr.heap[w.heap.size]? = some (.cells #[.int .i64 2, .int .i64 0, .int .i64 0, .int .i64 0, .int .i64 0, .int .i64 0, .int .i64 0, .int .u32 0, .int .u32 0, .slice none 0 0, .slice none 0 0] 29)) ∧ Hid (wr.heap[sb]? = some (.cells #[.bool true, .bool false, .bool false, .int .i64 0, .int .i64 0, .int .u64 0, .slice none 0 0] 38)) ∧ Hid (wr.heap[su]? = some (.cells #[.int .i64 0, .int .i64 0, .int .i64 0, .int .i64 0, .int .i64 0, .int .i64 0, .bool false, .bool false, .int .i64 0, .bool false] 31)))) (fun iv _ => 3 - (intOf iv).toNat)
          case atStart => exact Or.inl ⟨rfl, HB, Vo, Vb, Vu⟩
          case round =>
            clear HB Vo Vb Vu
            rcases hrel with ⟨rfl, HB, Vo, Vb, Vu⟩ | ⟨rfl, HB, Vo, Vb, Vu⟩ | ⟨rfl, HB, Vo, Vb, Vu⟩ | ⟨rfl, HB, Vo, Vb, Vu⟩
            · have co := row11 Vo.out
              have cu := row10 Vu.out
              go_wp2_with fail
              refine (K7.out _).mono ?_
              rintro e w17 ⟨rfl, hb⟩
              clear co cu
              replace Vo := Lib.hid (blk_below Vo.out hb (blk_lt Vo.out))
              replace Vb := Lib.hid (blk_below Vb.out hb (blk_lt Vb.out))
              replace Vu := Lib.hid (blk_below Vu.out hb (blk_lt Vu.out))
              replace HB := Lib.hid (And.intro (HB.out.1.trans (hb.mono HB.out.2)) (Nat.le_trans HB.out.2 hb.size))
              clear hb
              obtain ⟨mw18, w18, hw18, hse, VN⟩ := set11 Vo.out (.int .i64 2) (.int .i64 1) (.int .i64 0) (.int .i64 0) (.int .i64 0) (.int .i64 0) (.int .i64 0) (.int .u32 0) (.int .u32 0) (.slice none 0 0) (.slice none 0 0)
              replace Vb := Lib.hid (stayS hse neo_b.symm Vb.out)
              replace Vu := Lib.hid (stayS hse neo_u.symm Vu.out)
              replace Vo := VN
              replace HB := Lib.hid (belS hse geo HB.out)
              clear VN hse
              obtain ⟨mw19, w19, hw19, hse, VN⟩ := set10 Vu.out (.int .i64 31) (.int .i64 1) (.int .i64 0) (.int .i64 0) (.int .i64 (-1)) (.int .i64 0) (.bool false) (.bool false) (.int .i64 0) (.bool false)
              replace Vo := Lib.hid (stayS hse neo_u Vo.out)
              replace Vb := Lib.hid (stayS hse neb_u Vb.out)
              replace Vu := VN
              replace HB := Lib.hid (belS hse geu HB.out)
              clear VN hse
              obtain ⟨mw20, w20, hw20, hse, VN⟩ := set7 Vb.out (.bool false) (.bool false) (.bool false) (.int .i64 0) (.int .i64 0) (.int .u64 0) (.slice none 0 0)
              replace Vo := Lib.hid (stayS hse neo_b Vo.out)
              replace Vu := Lib.hid (stayS hse neb_u.symm Vu.out)
              replace Vb := VN
              replace HB := Lib.hid (belS hse geb HB.out)
              clear VN hse
              go_wp2
              go_roundw
              case rel => exact Or.inr (Or.inl ⟨by go_num, HB, Vo, Vb, Vu⟩)
              case measure => simp [intOf]
            · have co := row11 Vo.out
              have cu := row10 Vu.out
              go_wp2_with fail
              refine (K8.out _).mono ?_
              rintro e w17 ⟨rfl, hb⟩
              clear co cu
              replace Vo := Lib.hid (blk_below Vo.out hb (blk_lt Vo.out))
              replace Vb := Lib.hid (blk_below Vb.out hb (blk_lt Vb.out))
              replace Vu := Lib.hid (blk_below Vu.out hb (blk_lt Vu.out))
              replace HB := Lib.hid (And.intro (HB.out.1.trans (hb.mono HB.out.2)) (Nat.le_trans HB.out.2 hb.size))
              clear hb
              obtain ⟨mw18, w18, hw18, hse, VN⟩ := set11 Vo.out (.int .i64 2) (.int .i64 1) (.int .i64 0) (.int .i64 0) (.int .i64 0) (.int .i64 0) (.int .i64 0) (.int .u32 0) (.int .u32 0) (.slice none 0 0) (.slice none 0 0)
              replace Vb := Lib.hid (stayS hse neo_b.symm Vb.out)
              replace Vu := Lib.hid (stayS hse neo_u.symm Vu.out)
              replace Vo := VN
              replace HB := Lib.hid (belS hse geo HB.out)
              clear VN hse
              obtain ⟨mw19, w19, hw19, hse, VN⟩ := set10 Vu.out (.int .i64 31) (.int .i64 2) (.int .i64 0) (.int .i64 0) (.int .i64 (-1)) (.int .i64 0) (.bool false) (.bool false) (.int .i64 0) (.bool false)
              replace Vo := Lib.hid (stayS hse neo_u Vo.out)
              replace Vb := Lib.hid (stayS hse neb_u Vb.out)
              replace Vu := VN
              replace HB := Lib.hid (belS hse geu HB.out)
              clear VN hse
              obtain ⟨mw20, w20, hw20, hse, VN⟩ := set7 Vb.out (.bool false) (.bool false) (.bool false) (.int .i64 0) (.int .i64 0) (.int .u64 0) (.slice none 0 0)
              replace Vo := Lib.hid (stayS hse neo_b Vo.out)
              replace Vu := Lib.hid (stayS hse neb_u.symm Vu.out)
              replace Vb := VN
              replace HB := Lib.hid (belS hse geb HB.out)
              clear VN hse
              go_wp2
              go_roundw
              case rel => exact Or.inr (Or.inr (Or.inl ⟨by go_num, HB, Vo, Vb, Vu⟩))
              case measure => simp [intOf]
            · have co := row11 Vo.out
              have cu := row10 Vu.out
              go_wp2_with fail
              refine (K9.out _).mono ?_
              rintro e w17 ⟨rfl, hb⟩
              clear co cu
              replace Vo := Lib.hid (blk_below Vo.out hb (blk_lt Vo.out))
              replace Vb := Lib.hid (blk_below Vb.out hb (blk_lt Vb.out))
              replace Vu := Lib.hid (blk_below Vu.out hb (blk_lt Vu.out))
              replace HB := Lib.hid (And.intro (HB.out.1.trans (hb.mono HB.out.2)) (Nat.le_trans HB.out.2 hb.size))
              clear hb
              obtain ⟨mw18, w18, hw18, hse, VN⟩ := set11 Vo.out (.int .i64 2) (.int .i64 0) (.int .i64 0) (.int .i64 0) (.int .i64 0) (.int .i64 0) (.int .i64 0) (.int .u32 0) (.int .u32 0) (.slice none 0 0) (.slice none 0 0)
              replace Vb := Lib.hid (stayS hse neo_b.symm Vb.out)
              replace Vu := Lib.hid (stayS hse neo_u.symm Vu.out)
              replace Vo := VN
              replace HB := Lib.hid (belS hse geo HB.out)
              clear VN hse
              obtain ⟨mw19, w19, hw19, hse, VN⟩ := set10 Vu.out (.int .i64 0) (.int .i64 0) (.int .i64 0) (.int .i64 0) (.int .i64 0) (.int .i64 0) (.bool false) (.bool false) (.int .i64 0) (.bool false)
              replace Vo := Lib.hid (stayS hse neo_u Vo.out)
              replace Vb := Lib.hid (stayS hse neb_u Vb.out)
              replace Vu := VN
              replace HB := Lib.hid (belS hse geu HB.out)
              clear VN hse
              obtain ⟨mw20, w20, hw20, hse, VN⟩ := set7 Vb.out (.bool true) (.bool false) (.bool false) (.int .i64 0) (.int .i64 0) (.int .u64 0) (.slice none 0 0)
              replace Vo := Lib.hid (stayS hse neo_b Vo.out)
              replace Vu := Lib.hid (stayS hse neb_u.symm Vu.out)
              replace Vb := VN
              replace HB := Lib.hid (belS hse geb HB.out)
              clear VN hse
              go_wp2
              go_roundw
              case rel => exact Or.inr (Or.inr (Or.inr (⟨by go_num, HB, Vo, Vb, Vu⟩)))
              case measure => simp [intOf]
            · clear Vu
              go_wp2
              have hBZ := HB.out.2
              refine wp_region_noPanic ?_
              refine wp_region_held_drew (S := (fun wv => Below w.heap.size wr wv)) (by kernel_rfl) ((((Below.refl wr.heap.size wr).drew).mono hBZ)) (fun hS => ?_)
              refine inv_region (fun a0 fu listed a u => ∃ (lq0 cq0 cq1 xq0 xq1 xq2 : Bool) (v114 v115 v116 v113 v117 v118 v119 p13 p14 p15 : Value) (sp1 sp2 sp3 : Nat), listed = #[lq0, cq0, cq1, cq1, cq1, cq1, cq1, xq0, xq1, xq2, false, false, false] ∧ a = ⟨((((((((((a0.tmps.setIfInBounds 114 v114).setIfInBounds 115 v115).setIfInBounds 116 v116).setIfInBounds 113 v113).setIfInBounds 117 v117).setIfInBounds 118 v118).setIfInBounds 119 v119).setIfInBounds 13 p13).setIfInBounds 14 p14).setIfInBounds 15 p15), a0.defers⟩ ∧ (bif lq0 then 0 else 1) + (bif cq0 then 0 else 1) + (bif cq1 then 0 else 5) + (bif xq0 then 0 else 1) + (bif xq1 then 0 else 1) + (bif xq2 then 0 else 1) + 3 ≤ fu ∧ (cq1 = true → lq0 = true) ∧ (cq1 = true → cq0 = true) ∧ Below wr.heap.size wr u ∧ (lq0 = true → v114 = .agg #[.int .i64 2, .int .i64 0, .int .i64 0, .int .i64 0, .int .i64 0, .int .i64 0, .int .i64 0, .int .u32 0, .int .u32 0, .slice none 0 0, .slice none 0 0]) ∧ (cq0 = true → v115 = .agg #[.int .i64 29, .int .i64 0, .int .i64 0, .int .i64 0, .int .i64 (-1), .int .i64 0, .bool false, .bool false, .int .i64 0, .bool false]) ∧ (cq1 = true → v117 = .agg #[.int .i64 2, .int .i64 0, .int .i64 0, .int .i64 0, .int .i64 0, .int .i64 0, .int .i64 0, .int .u32 0, .int .u32 0, .slice none 0 0, .slice none 0 0]) ∧ (cq1 = true → v118 = .agg #[.int .i64 0, .int .i64 0, .int .i64 0, .int .i64 0, .int .i64 0, .int .i64 0, .bool false, .bool false, .int .i64 0, .bool false]) ∧ (cq1 = true → v119 = .agg #[.bool false, .bool false, .bool false, .int .i64 0, .int .i64 1, .int .u64 0, .slice none 0 0]) ∧ (xq0 = true → p13 = .pointer (some ⟨sp1, 0, none⟩) ∧ wr.heap.size ≤ sp1 ∧ u.heap[sp1]? = some (.cells #[.int .i64 0, .int .i64 0, .int .i64 0, .int .i64 0, .int .i64 0, .int .i64 0, .int .i64 0, .int .u32 0, .int .u32 0, .slice none 0 0, .slice none 0 0] 29)) ∧ (xq1 = true → p14 = .pointer (some ⟨sp2, 0, none⟩) ∧ wr.heap.size ≤ sp2 ∧ u.heap[sp2]? = some (.cells #[.int .i64 0, .int .i64 0, .int .i64 0, .int .i64 0, .int .i64 0, .int .i64 0, .bool false, .bool false, .int .i64 0, .bool false] 31)) ∧ (xq2 = true → p15 = .pointer (some ⟨sp3, 0, none⟩) ∧ wr.heap.size ≤ sp3 ∧ u.heap[sp3]? = some (.cells #[.bool false, .bool false, .bool false, .int .i64 0, .int .i64 0, .int .u64 0, .slice none 0 0] 38))) ⟨false, false, false, false, false, false, undef, undef, undef, undef, undef, undef, undef, undef, undef, undef, 0, 0, 0, rfl, (by first | (simp only [List.setIfInBounds_toArray, List.set_cons_zero, List.set_cons_succ]; done) | rfl), (by show _ + _ ≤ _; decide), (fun h => nomatch h), (fun h => nomatch h), ((Below.refl wr.heap.size wr).drew), (fun h => nomatch h), (fun h => nomatch h), (fun h => nomatch h), (fun h => nomatch h), (fun h => nomatch h), (fun h => nomatch h), (fun h => nomatch h), (fun h => nomatch h)⟩ ?_
              clear hS; rintro fu listed a u ⟨lq0, cq0, cq1, xq0, xq1, xq2, v114, v115, v116, v113, v117, v118, v119, p13, p14, p15, sp1, sp2, sp3, rfl, rfl, hn, hc0, hc1, hS, h114, h115, h117, h118, h119, ksp1, ksp2, ksp3⟩ IH
              try simp only [List.setIfInBounds_toArray, List.set_cons_zero, List.set_cons_succ]
              by_cases hall : (lq0 && (cq0 && (cq1 && (xq0 && (xq1 && (xq2)))))) = true
              rotate_left
              · have hbad : ((cq1 && !lq0) || ((cq1 && !cq0) || ((lq0 && (cq0 && (cq1 && (xq0 && (xq1 && (xq2))))))))) = false := inv_or (inv_imp hc0) (inv_or (inv_imp hc1) (inv_not hall))
                obtain ⟨fu, rfl⟩ : ∃ m, fu = m + 1 := ⟨fu - 1, by omega⟩
                refine inv_step (bad := ((cq1 && !lq0) || ((cq1 && !cq0) || ((lq0 && (cq0 && (cq1 && (xq0 && (xq1 && (xq2)))))))))) (fun i => ((i == 0 && !lq0) || ((i == 1 && !cq0) || ((i == 2 && (lq0 && (cq0 && !cq1))) || ((i == 7 && !xq0) || ((i == 8 && !xq1) || ((i == 9 && !xq2)))))))) ((show ∀ lq0 cq0 cq1 xq0 xq1 xq2 : Bool, (((cq1 && !lq0) || ((cq1 && !cq0) || ((lq0 && (cq0 && (cq1 && (xq0 && (xq1 && (xq2))))))))) || (!(Region.ready _ _ #[lq0, cq0, cq1, cq1, cq1, cq1, cq1, xq0, xq1, xq2, false, false, false]).isEmpty && (Region.ready _ _ #[lq0, cq0, cq1, cq1, cq1, cq1, cq1, xq0, xq1, xq2, false, false, false]).all (fun i => ((i == 0 && !lq0) || ((i == 1 && !cq0) || ((i == 2 && (lq0 && (cq0 && !cq1))) || ((i == 7 && !xq0) || ((i == 8 && !xq1) || ((i == 9 && !xq2)))))))))) = true from by intro lq0 cq0 cq1 xq0 xq1 xq2; cases lq0 <;> cases cq0 <;> cases cq1 <;> cases xq0 <;> cases xq1 <;> cases xq2 <;> kernel_rfl) lq0 cq0 cq1 xq0 xq1 xq2) hbad (fun i hi => ?_)
                simp only [Bool.or_eq_true, Bool.and_eq_true, beq_iff_eq, Bool.not_eq_true'] at hi
                clear hall hbad
                rcases hi with ⟨rfl, rfl⟩ | ⟨rfl, rfl⟩ | ⟨rfl, rfl, rfl, rfl⟩ | ⟨rfl, rfl⟩ | ⟨rfl, rfl⟩ | ⟨rfl, rfl⟩
                · skip
                  obtain ⟨lc0, lc1, lc2, lc3, lc4, lc5, lc6, lc7, lc8, lc9, lc10⟩ := row11 (blk_below Vo.out hS (blk_lt Vo.out))
                  refine inv_arm (o := ⟨some 114, .load 29 (.tmp 1), 29, "law.go:35", #[], none⟩) rfl (fun K hK => ?_)
                  go_simp
                  clear lc0 lc1 lc2 lc3 lc4 lc5 lc6 lc7 lc8 lc9 lc10
                  refine Shut.out hK _ _ (hS.mono hBZ) (fun _ => ?_)
                  clear hK K
                  try simp only [Act.put, List.setIfInBounds_toArray, List.set_cons_zero, List.set_cons_succ]
                  exact IH _ _ _ _ (by omega) ⟨true, cq0, cq1, xq0, xq1, xq2, _, v115, v116, v113, v117, v118, v119, p13, p14, p15, sp1, sp2, sp3, rfl, (by (try simp only [List.setIfInBounds_toArray, List.set_cons_zero, List.set_cons_succ]); try rfl), (by simp only [cond_true, cond_false] at hn ⊢; omega), (fun _ => rfl), hc1, hS, (fun _ => rfl), h115, h117, h118, h119, (fun h => ⟨(ksp1 h).1, (ksp1 h).2.1, blk_below (ksp1 h).2.2 (Below.refl _ _) (blk_lt (ksp1 h).2.2)⟩), (fun h => ⟨(ksp2 h).1, (ksp2 h).2.1, blk_below (ksp2 h).2.2 (Below.refl _ _) (blk_lt (ksp2 h).2.2)⟩), (fun h => ⟨(ksp3 h).1, (ksp3 h).2.1, blk_below (ksp3 h).2.2 (Below.refl _ _) (blk_lt (ksp3 h).2.2)⟩)⟩
                · skip
                  refine inv_arm (o := ⟨some 115, .call { callee := .value (.func 20), args := #[.const (Value.int IntKind.i64 29)], argTypes := #[3] }, 31, "law.go:35", #[], none⟩) rfl (fun K hK => ?_)
                  go_simp
                  go_wp2_with fail
                  refine (N3.out _).mono ?_; rintro e u1 ⟨rfl, hb⟩
                  replace hS := hS.trans (hb.mono hS.size)
                  refine Shut.out hK _ _ (hS.mono hBZ) (fun _ => ?_)
                  clear hK K
                  try simp only [Act.put, List.setIfInBounds_toArray, List.set_cons_zero, List.set_cons_succ]
                  exact IH _ _ _ _ (by omega) ⟨lq0, true, cq1, xq0, xq1, xq2, v114, _, v116, v113, v117, v118, v119, p13, p14, p15, sp1, sp2, sp3, rfl, (by (try simp only [List.setIfInBounds_toArray, List.set_cons_zero, List.set_cons_succ]); try rfl), (by simp only [cond_true, cond_false] at hn ⊢; omega), hc0, (fun _ => rfl), hS, h114, (fun _ => rfl), h117, h118, h119, (fun h => ⟨(ksp1 h).1, (ksp1 h).2.1, blk_below (ksp1 h).2.2 hb (blk_lt (ksp1 h).2.2)⟩), (fun h => ⟨(ksp2 h).1, (ksp2 h).2.1, blk_below (ksp2 h).2.2 hb (blk_lt (ksp2 h).2.2)⟩), (fun h => ⟨(ksp3 h).1, (ksp3 h).2.1, blk_below (ksp3 h).2.2 hb (blk_lt (ksp3 h).2.2)⟩)⟩
                · skip
                  obtain rfl := h114 rfl
                  obtain rfl := h115 rfl
                  refine inv_arm (o := ⟨some 116, .call { callee := .value (.func 11), args := #[.tmp 114, .tmp 115], argTypes := #[29, 31] }, 39, "law.go:35", #[⟨0, .data⟩, ⟨1, .data⟩, ⟨1, .chain⟩], none⟩) rfl (fun K hK => ?_)
                  go_simp
                  go_wp2_with fail
                  refine (KA.out _).mono ?_; rintro e u2 ⟨rfl, hb⟩
                  replace hS := hS.trans (hb.mono hS.size)
                  obtain ⟨fu, rfl⟩ : ∃ m, fu = m + 4 := ⟨fu - 4, by simp only [cond_true, cond_false] at hn; omega⟩
                  refine Shut.out hK _ _ (hS.mono hBZ) (fun _ => ?_)
                  clear hK K
                  try simp only [Act.put, List.setIfInBounds_toArray, List.set_cons_zero, List.set_cons_succ]
                  refine wpAnyH_take (i := 3) (oi := ⟨some 113, .move (.tmp 116), 39, "law.go:35", #[⟨2, .data⟩], none⟩) (v := ?_) rfl (by kernel_rfl) ((show ∀ xq0 xq1 xq2 : Bool, Region.free _ _ #[true, true, true, false, false, false, false, xq0, xq1, xq2, false, false, false] 3 = true from by intro xq0 xq1 xq2; cases xq0 <;> cases xq1 <;> cases xq2 <;> kernel_rfl) xq0 xq1 xq2) ((show ∀ xq0 xq1 xq2 : Bool, (Region.ready _ _ #[true, true, true, false, false, false, false, xq0, xq1, xq2, false, false, false]).contains 3 = true from by intro xq0 xq1 xq2; cases xq0 <;> cases xq1 <;> cases xq2 <;> kernel_rfl) xq0 xq1 xq2) (fun _ _ _ h => h) (Or.inl ⟨by rfl, ?_⟩) (hS.mono hBZ) ?_
                  rotate_left
                  · intro wv _; go_simp; try with_reducible rfl
                  try simp only [Act.put, List.setIfInBounds_toArray, List.set_cons_zero, List.set_cons_succ]
                  refine wpAnyH_take (i := 4) (oi := ⟨some 117, .extract (.tmp 113) 0, 29, "law.go:35", #[⟨3, .data⟩], none⟩) (v := ?_) rfl (by kernel_rfl) ((show ∀ xq0 xq1 xq2 : Bool, Region.free _ _ #[true, true, true, true, false, false, false, xq0, xq1, xq2, false, false, false] 4 = true from by intro xq0 xq1 xq2; cases xq0 <;> cases xq1 <;> cases xq2 <;> kernel_rfl) xq0 xq1 xq2) ((show ∀ xq0 xq1 xq2 : Bool, (Region.ready _ _ #[true, true, true, true, false, false, false, xq0, xq1, xq2, false, false, false]).contains 4 = true from by intro xq0 xq1 xq2; cases xq0 <;> cases xq1 <;> cases xq2 <;> kernel_rfl) xq0 xq1 xq2) (fun _ _ _ h => h) (Or.inl ⟨by rfl, ?_⟩) (hS.mono hBZ) ?_
                  rotate_left
                  · intro wv _; go_simp; try with_reducible rfl
                  try simp only [Act.put, List.setIfInBounds_toArray, List.set_cons_zero, List.set_cons_succ]
                  refine wpAnyH_take (i := 5) (oi := ⟨some 118, .extract (.tmp 113) 1, 31, "law.go:35", #[⟨3, .data⟩, ⟨10, .gcOnly .lateStores⟩], none⟩) (v := ?_) rfl (by kernel_rfl) ((show ∀ xq0 xq1 xq2 : Bool, Region.free _ _ #[true, true, true, true, true, false, false, xq0, xq1, xq2, false, false, false] 5 = true from by intro xq0 xq1 xq2; cases xq0 <;> cases xq1 <;> cases xq2 <;> kernel_rfl) xq0 xq1 xq2) ((show ∀ xq0 xq1 xq2 : Bool, (Region.ready _ _ #[true, true, true, true, true, false, false, xq0, xq1, xq2, false, false, false]).contains 5 = true from by intro xq0 xq1 xq2; cases xq0 <;> cases xq1 <;> cases xq2 <;> kernel_rfl) xq0 xq1 xq2) (fun _ _ _ h => h) (Or.inl ⟨by rfl, ?_⟩) (hS.mono hBZ) ?_
                  rotate_left
                  · intro wv _; go_simp; try with_reducible rfl
                  try simp only [Act.put, List.setIfInBounds_toArray, List.set_cons_zero, List.set_cons_succ]
                  refine wpAnyH_take (i := 6) (oi := ⟨some 119, .extract (.tmp 113) 2, 38, "law.go:35", #[⟨3, .data⟩, ⟨11, .gcOnly .lateStores⟩], none⟩) (v := ?_) rfl (by kernel_rfl) ((show ∀ xq0 xq1 xq2 : Bool, Region.free _ _ #[true, true, true, true, true, true, false, xq0, xq1, xq2, false, false, false] 6 = true from by intro xq0 xq1 xq2; cases xq0 <;> cases xq1 <;> cases xq2 <;> kernel_rfl) xq0 xq1 xq2) ((show ∀ xq0 xq1 xq2 : Bool, (Region.ready _ _ #[true, true, true, true, true, true, false, xq0, xq1, xq2, false, false, false]).contains 6 = true from by intro xq0 xq1 xq2; cases xq0 <;> cases xq1 <;> cases xq2 <;> kernel_rfl) xq0 xq1 xq2) (fun _ _ _ h => h) (Or.inl ⟨by rfl, ?_⟩) (hS.mono hBZ) ?_
                  rotate_left
                  · intro wv _; go_simp; try with_reducible rfl
                  try simp only [Act.put, List.setIfInBounds_toArray, List.set_cons_zero, List.set_cons_succ]
                  exact IH _ _ _ _ (by omega) ⟨true, true, true, xq0, xq1, xq2, _, _, _, _, _, _, _, p13, p14, p15, sp1, sp2, sp3, rfl, (by (try simp only [List.setIfInBounds_toArray, List.set_cons_zero, List.set_cons_succ]); try rfl), (by simp only [cond_true, cond_false] at hn ⊢; omega), (fun _ => rfl), (fun _ => rfl), hS, (fun _ => rfl), (fun _ => rfl), (fun _ => rfl), (fun _ => rfl), (fun _ => rfl), (fun h => ⟨(ksp1 h).1, (ksp1 h).2.1, blk_below (ksp1 h).2.2 hb (blk_lt (ksp1 h).2.2)⟩), (fun h => ⟨(ksp2 h).1, (ksp2 h).2.1, blk_below (ksp2 h).2.2 hb (blk_lt (ksp2 h).2.2)⟩), (fun h => ⟨(ksp3 h).1, (ksp3 h).2.1, blk_below (ksp3 h).2.2 hb (blk_lt (ksp3 h).2.2)⟩)⟩
                · skip
                  refine inv_arm (o := ⟨some 13, .alloc 29, 0, "law.go:35", #[], none⟩) rfl (fun K hK => ?_)
                  go_simp
                  have zs := hS.size
                  have hb := (Below.refl u.heap.size u).alloc (Nat.le_refl _) (.cells #[.int .i64 0, .int .i64 0, .int .i64 0, .int .i64 0, .int .i64 0, .int .i64 0, .int .i64 0, .int .u32 0, .int .u32 0, .slice none 0 0, .slice none 0 0] 29)
                  replace hS := hS.trans (hb.mono hS.size)
                  refine Shut.out hK _ _ (hS.mono hBZ) (fun _ => ?_)
                  clear hK K
                  try simp only [Act.put, List.setIfInBounds_toArray, List.set_cons_zero, List.set_cons_succ]
                  exact IH _ _ _ _ (by omega) ⟨lq0, cq0, cq1, true, xq1, xq2, v114, v115, v116, v113, v117, v118, v119, _, p14, p15, u.heap.size, sp2, sp3, rfl, (by (try simp only [List.setIfInBounds_toArray, List.set_cons_zero, List.set_cons_succ]); try rfl), (by simp only [cond_true, cond_false] at hn ⊢; omega), hc0, hc1, hS, h114, h115, h117, h118, h119, (fun _ => ⟨rfl, zs, heap_alloc_new _ _⟩), (fun h => ⟨(ksp2 h).1, (ksp2 h).2.1, blk_below (ksp2 h).2.2 hb (blk_lt (ksp2 h).2.2)⟩), (fun h => ⟨(ksp3 h).1, (ksp3 h).2.1, blk_below (ksp3 h).2.2 hb (blk_lt (ksp3 h).2.2)⟩)⟩
                · skip
                  refine inv_arm (o := ⟨some 14, .alloc 31, 0, "law.go:35", #[], none⟩) rfl (fun K hK => ?_)
                  go_simp
                  have zs := hS.size
                  have hb := (Below.refl u.heap.size u).alloc (Nat.le_refl _) (.cells #[.int .i64 0, .int .i64 0, .int .i64 0, .int .i64 0, .int .i64 0, .int .i64 0, .bool false, .bool false, .int .i64 0, .bool false] 31)
                  replace hS := hS.trans (hb.mono hS.size)
                  refine Shut.out hK _ _ (hS.mono hBZ) (fun _ => ?_)
                  clear hK K
                  try simp only [Act.put, List.setIfInBounds_toArray, List.set_cons_zero, List.set_cons_succ]
                  exact IH _ _ _ _ (by omega) ⟨lq0, cq0, cq1, xq0, true, xq2, v114, v115, v116, v113, v117, v118, v119, p13, _, p15, sp1, u.heap.size, sp3, rfl, (by (try simp only [List.setIfInBounds_toArray, List.set_cons_zero, List.set_cons_succ]); try rfl), (by simp only [cond_true, cond_false] at hn ⊢; omega), hc0, hc1, hS, h114, h115, h117, h118, h119, (fun h => ⟨(ksp1 h).1, (ksp1 h).2.1, blk_below (ksp1 h).2.2 hb (blk_lt (ksp1 h).2.2)⟩), (fun _ => ⟨rfl, zs, heap_alloc_new _ _⟩), (fun h => ⟨(ksp3 h).1, (ksp3 h).2.1, blk_below (ksp3 h).2.2 hb (blk_lt (ksp3 h).2.2)⟩)⟩
                · skip
                  refine inv_arm (o := ⟨some 15, .alloc 38, 0, "law.go:35", #[], none⟩) rfl (fun K hK => ?_)
                  go_simp
                  have zs := hS.size
                  have hb := (Below.refl u.heap.size u).alloc (Nat.le_refl _) (.cells #[.bool false, .bool false, .bool false, .int .i64 0, .int .i64 0, .int .u64 0, .slice none 0 0] 38)
                  replace hS := hS.trans (hb.mono hS.size)
                  refine Shut.out hK _ _ (hS.mono hBZ) (fun _ => ?_)
                  clear hK K
                  try simp only [Act.put, List.setIfInBounds_toArray, List.set_cons_zero, List.set_cons_succ]
                  exact IH _ _ _ _ (by omega) ⟨lq0, cq0, cq1, xq0, xq1, true, v114, v115, v116, v113, v117, v118, v119, p13, p14, _, sp1, sp2, u.heap.size, rfl, (by (try simp only [List.setIfInBounds_toArray, List.set_cons_zero, List.set_cons_succ]); try rfl), (by simp only [cond_true, cond_false] at hn ⊢; omega), hc0, hc1, hS, h114, h115, h117, h118, h119, (fun h => ⟨(ksp1 h).1, (ksp1 h).2.1, blk_below (ksp1 h).2.2 hb (blk_lt (ksp1 h).2.2)⟩), (fun h => ⟨(ksp2 h).1, (ksp2 h).2.1, blk_below (ksp2 h).2.2 hb (blk_lt (ksp2 h).2.2)⟩), (fun _ => ⟨rfl, zs, heap_alloc_new _ _⟩)⟩
              simp only [Bool.and_eq_true] at hall
              obtain ⟨rfl, rfl, rfl, rfl, rfl, rfl⟩ := hall
              obtain rfl := h114 rfl
              obtain rfl := h115 rfl
              obtain rfl := h117 rfl
              obtain rfl := h118 rfl
              obtain rfl := h119 rfl
              obtain ⟨rfl, gsp1, Vsp1⟩ := ksp1 rfl
              obtain ⟨rfl, gsp2, Vsp2⟩ := ksp2 rfl
              obtain ⟨rfl, gsp3, Vsp3⟩ := ksp3 rfl
              obtain ⟨fu, rfl⟩ : ∃ m, fu = m + 3 := ⟨fu - 3, by simp only [cond_true] at hn; omega⟩
              clear IH hn hc0 hc1
              have neo_p1 := Nat.ne_of_lt (Nat.lt_of_lt_of_le (blk_lt Vo.out) gsp1)
              have neb_p1 := Nat.ne_of_lt (Nat.lt_of_lt_of_le (blk_lt Vb.out) gsp1)
              have neo_p2 := Nat.ne_of_lt (Nat.lt_of_lt_of_le (blk_lt Vo.out) gsp2)
              have neb_p2 := Nat.ne_of_lt (Nat.lt_of_lt_of_le (blk_lt Vb.out) gsp2)
              have neo_p3 := Nat.ne_of_lt (Nat.lt_of_lt_of_le (blk_lt Vo.out) gsp3)
              have neb_p3 := Nat.ne_of_lt (Nat.lt_of_lt_of_le (blk_lt Vb.out) gsp3)
              have nep1_p2 : sp1 ≠ sp2 := blk_ne Vsp1 Vsp2 (by decide)
              have nep1_p3 : sp1 ≠ sp3 := blk_ne Vsp1 Vsp3 (by decide)
              have nep2_p3 : sp2 ≠ sp3 := blk_ne Vsp2 Vsp3 (by decide)
              have gep1 := Nat.le_trans HB.out.2 gsp1
              have gep2 := Nat.le_trans HB.out.2 gsp2
              have gep3 := Nat.le_trans HB.out.2 gsp3
              replace Vo := Lib.hid (blk_below Vo.out hS (blk_lt Vo.out))
              replace Vb := Lib.hid (blk_below Vb.out hS (blk_lt Vb.out))
              replace HB := Lib.hid (And.intro (HB.out.1.trans (hS.mono HB.out.2)) (Nat.le_trans HB.out.2 hS.size))
              have Vp1 := Lib.hid Vsp1
              clear Vsp1
              have Vp2 := Lib.hid Vsp2
              clear Vsp2
              have Vp3 := Lib.hid Vsp3
              clear Vsp3
              obtain ⟨w17, hw17⟩ : ∃ W, u.setCells (sp1) 0 [.int .i64 2, .int .i64 0, .int .i64 0, .int .i64 0, .int .i64 0, .int .i64 0, .int .i64 0, .int .u32 0, .int .u32 0, .slice none 0 0, .slice none 0 0] = W := ⟨_, rfl⟩
              have thp1 := Lib.hid (there_blk Vp1.out (k := 11) rfl)
              replace Vo := Lib.hid (stayS hw17 neo_p1 Vo.out)
              replace Vb := Lib.hid (stayS hw17 neb_p1 Vb.out)
              replace Vp2 := Lib.hid (stayS hw17 nep1_p2.symm Vp2.out)
              replace Vp3 := Lib.hid (stayS hw17 nep1_p3.symm Vp3.out)
              replace Vp1 := Lib.hid (setS hw17 Vp1.out rfl)
              replace HB := Lib.hid (belS hw17 gep1 HB.out)
              replace hS := (hS.mono hBZ)
              refine wpAnyH_ready (rs := [10]) (by kernel_rfl) (by simp) (AllReadyH.cons (o := ⟨none, .store 29 (.tmp 13) (.tmp 117), 0, "law.go:35", #[⟨7, .data⟩, ⟨4, .data⟩, ⟨2, .chain⟩, ⟨0, .phase⟩, ⟨1, .phase⟩, ⟨2, .phase⟩, ⟨3, .phase⟩, ⟨4, .phase⟩, ⟨5, .textOnly .lateStores⟩, ⟨6, .textOnly .lateStores⟩, ⟨7, .phase⟩, ⟨8, .phase⟩, ⟨9, .phase⟩], none⟩) rfl (fun K hK => ?_) AllReadyH.nil)
              refine op_storeS (by rfl) rfl rfl rfl thp1.out (by kernel_rfl) (by simp [Value.oneCell']) hw17 ?_
              replace hS := hw17 ▸ below_setCells gep1 [.int .i64 2, .int .i64 0, .int .i64 0, .int .i64 0, .int .i64 0, .int .i64 0, .int .i64 0, .int .u32 0, .int .u32 0, .slice none 0 0, .slice none 0 0] 0 _ hS
              obtain ⟨w18, hw18⟩ : ∃ W, w17.setCells (sp2) 0 [.int .i64 0, .int .i64 0, .int .i64 0, .int .i64 0, .int .i64 0, .int .i64 0, .bool false, .bool false, .int .i64 0, .bool false] = W := ⟨_, rfl⟩
              have thp2 := Lib.hid (there_blk Vp2.out (k := 10) rfl)
              replace Vo := Lib.hid (stayS hw18 neo_p2 Vo.out)
              replace Vb := Lib.hid (stayS hw18 neb_p2 Vb.out)
              replace Vp1 := Lib.hid (stayS hw18 nep1_p2 Vp1.out)
              replace Vp3 := Lib.hid (stayS hw18 nep2_p3.symm Vp3.out)
              replace Vp2 := Lib.hid (setS hw18 Vp2.out rfl)
              replace HB := Lib.hid (belS hw18 gep2 HB.out)
              refine Shut.out hK _ _ hS (fun _ => ?_)
              clear hK K
              try simp only [Act.put, List.setIfInBounds_toArray, List.set_cons_zero, List.set_cons_succ]
              refine wpAnyH_ready (rs := [11]) (by kernel_rfl) (by simp) (AllReadyH.cons (o := ⟨none, .store 31 (.tmp 14) (.tmp 118), 0, "law.go:35", #[⟨8, .data⟩, ⟨5, .data⟩, ⟨10, .chain⟩, ⟨0, .phase⟩, ⟨1, .phase⟩, ⟨2, .phase⟩, ⟨3, .phase⟩, ⟨4, .phase⟩, ⟨5, .phase⟩, ⟨6, .textOnly .lateStores⟩, ⟨7, .phase⟩, ⟨8, .phase⟩, ⟨9, .phase⟩, ⟨10, .phase⟩], none⟩) rfl (fun K hK => ?_) AllReadyH.nil)
              refine op_storeS (by rfl) rfl rfl rfl thp2.out (by kernel_rfl) (by simp [Value.oneCell']) hw18 ?_
              replace hS := hw18 ▸ below_setCells gep2 [.int .i64 0, .int .i64 0, .int .i64 0, .int .i64 0, .int .i64 0, .int .i64 0, .bool false, .bool false, .int .i64 0, .bool false] 0 _ hS
              obtain ⟨w19, hw19⟩ : ∃ W, w18.setCells (sp3) 0 [.bool false, .bool false, .bool false, .int .i64 0, .int .i64 1, .int .u64 0, .slice none 0 0] = W := ⟨_, rfl⟩
              have thp3 := Lib.hid (there_blk Vp3.out (k := 7) rfl)
              replace Vo := Lib.hid (stayS hw19 neo_p3 Vo.out)
              replace Vb := Lib.hid (stayS hw19 neb_p3 Vb.out)
              replace Vp1 := Lib.hid (stayS hw19 nep1_p3 Vp1.out)
              replace Vp2 := Lib.hid (stayS hw19 nep2_p3 Vp2.out)
              replace Vp3 := Lib.hid (setS hw19 Vp3.out rfl)
              replace HB := Lib.hid (belS hw19 gep3 HB.out)
              refine Shut.out hK _ _ hS (fun _ => ?_)
              clear hK K
              try simp only [Act.put, List.setIfInBounds_toArray, List.set_cons_zero, List.set_cons_succ]
              refine wpAnyH_ready (rs := [12]) (by kernel_rfl) (by simp) (AllReadyH.cons (o := ⟨none, .store 38 (.tmp 15) (.tmp 119), 0, "law.go:35", #[⟨9, .data⟩, ⟨6, .data⟩, ⟨11, .chain⟩, ⟨0, .phase⟩, ⟨1, .phase⟩, ⟨2, .phase⟩, ⟨3, .phase⟩, ⟨4, .phase⟩, ⟨5, .phase⟩, ⟨6, .phase⟩, ⟨7, .phase⟩, ⟨8, .phase⟩, ⟨9, .phase⟩, ⟨10, .phase⟩, ⟨11, .phase⟩], none⟩) rfl (fun K hK => ?_) AllReadyH.nil)
              refine op_storeS (by rfl) rfl rfl rfl thp3.out (by kernel_rfl) (by simp [Value.oneCell']) hw19 ?_
              replace hS := hw19 ▸ below_setCells gep3 [.bool false, .bool false, .bool false, .int .i64 0, .int .i64 1, .int .u64 0, .slice none 0 0] 0 _ hS
              refine Shut.out hK _ _ hS (fun _ => ?_)
              clear hK K
              try simp only [Act.put, List.setIfInBounds_toArray, List.set_cons_zero, List.set_cons_succ]
              refine wpAnyH_done (by kernel_rfl) ?_ _
              refine NoPanic.normal ?_
              clear hS hBZ gsp1 gsp2 gsp3 thp1 thp2 thp3
              clear Vp1
              clear Vp2
              go_wp2
              have hBZ := HB.out.2
              refine wp_region_noPanic ?_
              refine wp_region_held_drew (S := (fun wv => Below w.heap.size w19 wv)) (by kernel_rfl) ((((Below.refl w19.heap.size w19).drew).mono hBZ)) (fun hS => ?_)
              refine inv_region (fun a0 fu listed a u => ∃ (lq0 cq0 cq1 xq0 xq1 xq2 : Bool) (v121 v122 v123 v120 v124 v125 v126 p16 p17 p18 : Value) (sq1 sq2 sq3 : Nat), listed = #[lq0, cq0, cq1, cq1, cq1, cq1, cq1, xq0, xq1, xq2, false, false, false] ∧ a = ⟨((((((((((a0.tmps.setIfInBounds 121 v121).setIfInBounds 122 v122).setIfInBounds 123 v123).setIfInBounds 120 v120).setIfInBounds 124 v124).setIfInBounds 125 v125).setIfInBounds 126 v126).setIfInBounds 16 p16).setIfInBounds 17 p17).setIfInBounds 18 p18), a0.defers⟩ ∧ (bif lq0 then 0 else 1) + (bif cq0 then 0 else 1) + (bif cq1 then 0 else 5) + (bif xq0 then 0 else 1) + (bif xq1 then 0 else 1) + (bif xq2 then 0 else 1) + 3 ≤ fu ∧ (cq1 = true → lq0 = true) ∧ (cq1 = true → cq0 = true) ∧ Below w19.heap.size w19 u ∧ (lq0 = true → v121 = .agg #[.int .i64 2, .int .i64 0, .int .i64 0, .int .i64 0, .int .i64 0, .int .i64 0, .int .i64 0, .int .u32 0, .int .u32 0, .slice none 0 0, .slice none 0 0]) ∧ (cq0 = true → v122 = .agg #[.int .i64 31, .int .i64 0, .int .i64 0, .int .i64 0, .int .i64 (-1), .int .i64 0, .bool false, .bool false, .int .i64 0, .bool false]) ∧ (cq1 = true → v124 = .agg #[.int .i64 2, .int .i64 0, .int .i64 0, .int .i64 0, .int .i64 0, .int .i64 0, .int .i64 0, .int .u32 0, .int .u32 0, .slice none 0 0, .slice none 0 0]) ∧ (cq1 = true → v125 = .agg #[.int .i64 0, .int .i64 0, .int .i64 0, .int .i64 0, .int .i64 0, .int .i64 0, .bool false, .bool false, .int .i64 0, .bool false]) ∧ (cq1 = true → v126 = .agg #[.bool false, .bool false, .bool false, .int .i64 0, .int .i64 1, .int .u64 0, .slice none 0 0]) ∧ (xq0 = true → p16 = .pointer (some ⟨sq1, 0, none⟩) ∧ w19.heap.size ≤ sq1 ∧ u.heap[sq1]? = some (.cells #[.int .i64 0, .int .i64 0, .int .i64 0, .int .i64 0, .int .i64 0, .int .i64 0, .int .i64 0, .int .u32 0, .int .u32 0, .slice none 0 0, .slice none 0 0] 29)) ∧ (xq1 = true → p17 = .pointer (some ⟨sq2, 0, none⟩) ∧ w19.heap.size ≤ sq2 ∧ u.heap[sq2]? = some (.cells #[.int .i64 0, .int .i64 0, .int .i64 0, .int .i64 0, .int .i64 0, .int .i64 0, .bool false, .bool false, .int .i64 0, .bool false] 31)) ∧ (xq2 = true → p18 = .pointer (some ⟨sq3, 0, none⟩) ∧ w19.heap.size ≤ sq3 ∧ u.heap[sq3]? = some (.cells #[.bool false, .bool false, .bool false, .int .i64 0, .int .i64 0, .int .u64 0, .slice none 0 0] 38))) ⟨false, false, false, false, false, false, undef, undef, undef, undef, undef, undef, undef, undef, undef, undef, 0, 0, 0, rfl, (by first | (simp only [List.setIfInBounds_toArray, List.set_cons_zero, List.set_cons_succ]; done) | rfl), (by show _ + _ ≤ _; decide), (fun h => nomatch h), (fun h => nomatch h), ((Below.refl w19.heap.size w19).drew), (fun h => nomatch h), (fun h => nomatch h), (fun h => nomatch h), (fun h => nomatch h), (fun h => nomatch h), (fun h => nomatch h), (fun h => nomatch h), (fun h => nomatch h)⟩ ?_
              clear hS; rintro fu listed a u ⟨lq0, cq0, cq1, xq0, xq1, xq2, v121, v122, v123, v120, v124, v125, v126, p16, p17, p18, sq1, sq2, sq3, rfl, rfl, hn, hc0, hc1, hS, h121, h122, h124, h125, h126, ksq1, ksq2, ksq3⟩ IH
              try simp only [List.setIfInBounds_toArray, List.set_cons_zero, List.set_cons_succ]
              by_cases hall : (lq0 && (cq0 && (cq1 && (xq0 && (xq1 && (xq2)))))) = true
              rotate_left
              · have hbad : ((cq1 && !lq0) || ((cq1 && !cq0) || ((lq0 && (cq0 && (cq1 && (xq0 && (xq1 && (xq2))))))))) = false := inv_or (inv_imp hc0) (inv_or (inv_imp hc1) (inv_not hall))
                obtain ⟨fu, rfl⟩ : ∃ m, fu = m + 1 := ⟨fu - 1, by omega⟩
                refine inv_step (bad := ((cq1 && !lq0) || ((cq1 && !cq0) || ((lq0 && (cq0 && (cq1 && (xq0 && (xq1 && (xq2)))))))))) (fun i => ((i == 0 && !lq0) || ((i == 1 && !cq0) || ((i == 2 && (lq0 && (cq0 && !cq1))) || ((i == 7 && !xq0) || ((i == 8 && !xq1) || ((i == 9 && !xq2)))))))) ((show ∀ lq0 cq0 cq1 xq0 xq1 xq2 : Bool, (((cq1 && !lq0) || ((cq1 && !cq0) || ((lq0 && (cq0 && (cq1 && (xq0 && (xq1 && (xq2))))))))) || (!(Region.ready _ _ #[lq0, cq0, cq1, cq1, cq1, cq1, cq1, xq0, xq1, xq2, false, false, false]).isEmpty && (Region.ready _ _ #[lq0, cq0, cq1, cq1, cq1, cq1, cq1, xq0, xq1, xq2, false, false, false]).all (fun i => ((i == 0 && !lq0) || ((i == 1 && !cq0) || ((i == 2 && (lq0 && (cq0 && !cq1))) || ((i == 7 && !xq0) || ((i == 8 && !xq1) || ((i == 9 && !xq2)))))))))) = true from by intro lq0 cq0 cq1 xq0 xq1 xq2; cases lq0 <;> cases cq0 <;> cases cq1 <;> cases xq0 <;> cases xq1 <;> cases xq2 <;> kernel_rfl) lq0 cq0 cq1 xq0 xq1 xq2) hbad (fun i hi => ?_)
                simp only [Bool.or_eq_true, Bool.and_eq_true, beq_iff_eq, Bool.not_eq_true'] at hi
                clear hall hbad
                rcases hi with ⟨rfl, rfl⟩ | ⟨rfl, rfl⟩ | ⟨rfl, rfl, rfl, rfl⟩ | ⟨rfl, rfl⟩ | ⟨rfl, rfl⟩ | ⟨rfl, rfl⟩
                · skip
                  obtain ⟨lc0, lc1, lc2, lc3, lc4, lc5, lc6, lc7, lc8, lc9, lc10⟩ := row11 (blk_below Vo.out hS (blk_lt Vo.out))
                  refine inv_arm (o := ⟨some 121, .load 29 (.tmp 1), 29, "law.go:36", #[], none⟩) rfl (fun K hK => ?_)
                  go_simp
                  clear lc0 lc1 lc2 lc3 lc4 lc5 lc6 lc7 lc8 lc9 lc10
                  refine Shut.out hK _ _ (hS.mono hBZ) (fun _ => ?_)
                  clear hK K
                  try simp only [Act.put, List.setIfInBounds_toArray, List.set_cons_zero, List.set_cons_succ]
                  exact IH _ _ _ _ (by omega) ⟨true, cq0, cq1, xq0, xq1, xq2, _, v122, v123, v120, v124, v125, v126, p16, p17, p18, sq1, sq2, sq3, rfl, (by (try simp only [List.setIfInBounds_toArray, List.set_cons_zero, List.set_cons_succ]); try rfl), (by simp only [cond_true, cond_false] at hn ⊢; omega), (fun _ => rfl), hc1, hS, (fun _ => rfl), h122, h124, h125, h126, (fun h => ⟨(ksq1 h).1, (ksq1 h).2.1, blk_below (ksq1 h).2.2 (Below.refl _ _) (blk_lt (ksq1 h).2.2)⟩), (fun h => ⟨(ksq2 h).1, (ksq2 h).2.1, blk_below (ksq2 h).2.2 (Below.refl _ _) (blk_lt (ksq2 h).2.2)⟩), (fun h => ⟨(ksq3 h).1, (ksq3 h).2.1, blk_below (ksq3 h).2.2 (Below.refl _ _) (blk_lt (ksq3 h).2.2)⟩)⟩
                · skip
                  refine inv_arm (o := ⟨some 122, .call { callee := .value (.func 20), args := #[.const (Value.int IntKind.i64 31)], argTypes := #[3] }, 31, "law.go:36", #[], none⟩) rfl (fun K hK => ?_)
                  go_simp
                  go_wp2_with fail
                  refine (N4.out _).mono ?_; rintro e u1 ⟨rfl, hb⟩
                  replace hS := hS.trans (hb.mono hS.size)
                  refine Shut.out hK _ _ (hS.mono hBZ) (fun _ => ?_)
                  clear hK K
                  try simp only [Act.put, List.setIfInBounds_toArray, List.set_cons_zero, List.set_cons_succ]
                  exact IH _ _ _ _ (by omega) ⟨lq0, true, cq1, xq0, xq1, xq2, v121, _, v123, v120, v124, v125, v126, p16, p17, p18, sq1, sq2, sq3, rfl, (by (try simp only [List.setIfInBounds_toArray, List.set_cons_zero, List.set_cons_succ]); try rfl), (by simp only [cond_true, cond_false] at hn ⊢; omega), hc0, (fun _ => rfl), hS, h121, (fun _ => rfl), h124, h125, h126, (fun h => ⟨(ksq1 h).1, (ksq1 h).2.1, blk_below (ksq1 h).2.2 hb (blk_lt (ksq1 h).2.2)⟩), (fun h => ⟨(ksq2 h).1, (ksq2 h).2.1, blk_below (ksq2 h).2.2 hb (blk_lt (ksq2 h).2.2)⟩), (fun h => ⟨(ksq3 h).1, (ksq3 h).2.1, blk_below (ksq3 h).2.2 hb (blk_lt (ksq3 h).2.2)⟩)⟩
                · skip
                  obtain rfl := h121 rfl
                  obtain rfl := h122 rfl
                  refine inv_arm (o := ⟨some 123, .call { callee := .value (.func 18), args := #[.tmp 121, .tmp 122], argTypes := #[29, 31] }, 39, "law.go:36", #[⟨0, .data⟩, ⟨1, .data⟩, ⟨1, .chain⟩], none⟩) rfl (fun K hK => ?_)
                  go_simp
                  go_wp2_with fail
                  refine (KB.out _).mono ?_; rintro e u2 ⟨rfl, hb⟩
                  replace hS := hS.trans (hb.mono hS.size)
                  obtain ⟨fu, rfl⟩ : ∃ m, fu = m + 4 := ⟨fu - 4, by simp only [cond_true, cond_false] at hn; omega⟩
                  refine Shut.out hK _ _ (hS.mono hBZ) (fun _ => ?_)
                  clear hK K
                  try simp only [Act.put, List.setIfInBounds_toArray, List.set_cons_zero, List.set_cons_succ]
                  refine wpAnyH_take (i := 3) (oi := ⟨some 120, .move (.tmp 123), 39, "law.go:36", #[⟨2, .data⟩], none⟩) (v := ?_) rfl (by kernel_rfl) ((show ∀ xq0 xq1 xq2 : Bool, Region.free _ _ #[true, true, true, false, false, false, false, xq0, xq1, xq2, false, false, false] 3 = true from by intro xq0 xq1 xq2; cases xq0 <;> cases xq1 <;> cases xq2 <;> kernel_rfl) xq0 xq1 xq2) ((show ∀ xq0 xq1 xq2 : Bool, (Region.ready _ _ #[true, true, true, false, false, false, false, xq0, xq1, xq2, false, false, false]).contains 3 = true from by intro xq0 xq1 xq2; cases xq0 <;> cases xq1 <;> cases xq2 <;> kernel_rfl) xq0 xq1 xq2) (fun _ _ _ h => h) (Or.inl ⟨by rfl, ?_⟩) (hS.mono hBZ) ?_
                  rotate_left
                  · intro wv _; go_simp; try with_reducible rfl
                  try simp only [Act.put, List.setIfInBounds_toArray, List.set_cons_zero, List.set_cons_succ]
                  refine wpAnyH_take (i := 4) (oi := ⟨some 124, .extract (.tmp 120) 0, 29, "law.go:36", #[⟨3, .data⟩], none⟩) (v := ?_) rfl (by kernel_rfl) ((show ∀ xq0 xq1 xq2 : Bool, Region.free _ _ #[true, true, true, true, false, false, false, xq0, xq1, xq2, false, false, false] 4 = true from by intro xq0 xq1 xq2; cases xq0 <;> cases xq1 <;> cases xq2 <;> kernel_rfl) xq0 xq1 xq2) ((show ∀ xq0 xq1 xq2 : Bool, (Region.ready _ _ #[true, true, true, true, false, false, false, xq0, xq1, xq2, false, false, false]).contains 4 = true from by intro xq0 xq1 xq2; cases xq0 <;> cases xq1 <;> cases xq2 <;> kernel_rfl) xq0 xq1 xq2) (fun _ _ _ h => h) (Or.inl ⟨by rfl, ?_⟩) (hS.mono hBZ) ?_
                  rotate_left
                  · intro wv _; go_simp; try with_reducible rfl
                  try simp only [Act.put, List.setIfInBounds_toArray, List.set_cons_zero, List.set_cons_succ]
                  refine wpAnyH_take (i := 5) (oi := ⟨some 125, .extract (.tmp 120) 1, 31, "law.go:36", #[⟨3, .data⟩, ⟨10, .gcOnly .lateStores⟩], none⟩) (v := ?_) rfl (by kernel_rfl) ((show ∀ xq0 xq1 xq2 : Bool, Region.free _ _ #[true, true, true, true, true, false, false, xq0, xq1, xq2, false, false, false] 5 = true from by intro xq0 xq1 xq2; cases xq0 <;> cases xq1 <;> cases xq2 <;> kernel_rfl) xq0 xq1 xq2) ((show ∀ xq0 xq1 xq2 : Bool, (Region.ready _ _ #[true, true, true, true, true, false, false, xq0, xq1, xq2, false, false, false]).contains 5 = true from by intro xq0 xq1 xq2; cases xq0 <;> cases xq1 <;> cases xq2 <;> kernel_rfl) xq0 xq1 xq2) (fun _ _ _ h => h) (Or.inl ⟨by rfl, ?_⟩) (hS.mono hBZ) ?_
                  rotate_left
                  · intro wv _; go_simp; try with_reducible rfl
                  try simp only [Act.put, List.setIfInBounds_toArray, List.set_cons_zero, List.set_cons_succ]
                  refine wpAnyH_take (i := 6) (oi := ⟨some 126, .extract (.tmp 120) 2, 38, "law.go:36", #[⟨3, .data⟩, ⟨11, .gcOnly .lateStores⟩], none⟩) (v := ?_) rfl (by kernel_rfl) ((show ∀ xq0 xq1 xq2 : Bool, Region.free _ _ #[true, true, true, true, true, true, false, xq0, xq1, xq2, false, false, false] 6 = true from by intro xq0 xq1 xq2; cases xq0 <;> cases xq1 <;> cases xq2 <;> kernel_rfl) xq0 xq1 xq2) ((show ∀ xq0 xq1 xq2 : Bool, (Region.ready _ _ #[true, true, true, true, true, true, false, xq0, xq1, xq2, false, false, false]).contains 6 = true from by intro xq0 xq1 xq2; cases xq0 <;> cases xq1 <;> cases xq2 <;> kernel_rfl) xq0 xq1 xq2) (fun _ _ _ h => h) (Or.inl ⟨by rfl, ?_⟩) (hS.mono hBZ) ?_
                  rotate_left
                  · intro wv _; go_simp; try with_reducible rfl
                  try simp only [Act.put, List.setIfInBounds_toArray, List.set_cons_zero, List.set_cons_succ]
                  exact IH _ _ _ _ (by omega) ⟨true, true, true, xq0, xq1, xq2, _, _, _, _, _, _, _, p16, p17, p18, sq1, sq2, sq3, rfl, (by (try simp only [List.setIfInBounds_toArray, List.set_cons_zero, List.set_cons_succ]); try rfl), (by simp only [cond_true, cond_false] at hn ⊢; omega), (fun _ => rfl), (fun _ => rfl), hS, (fun _ => rfl), (fun _ => rfl), (fun _ => rfl), (fun _ => rfl), (fun _ => rfl), (fun h => ⟨(ksq1 h).1, (ksq1 h).2.1, blk_below (ksq1 h).2.2 hb (blk_lt (ksq1 h).2.2)⟩), (fun h => ⟨(ksq2 h).1, (ksq2 h).2.1, blk_below (ksq2 h).2.2 hb (blk_lt (ksq2 h).2.2)⟩), (fun h => ⟨(ksq3 h).1, (ksq3 h).2.1, blk_below (ksq3 h).2.2 hb (blk_lt (ksq3 h).2.2)⟩)⟩
                · skip
                  refine inv_arm (o := ⟨some 16, .alloc 29, 0, "law.go:36", #[], none⟩) rfl (fun K hK => ?_)
                  go_simp
                  have zs := hS.size
                  have hb := (Below.refl u.heap.size u).alloc (Nat.le_refl _) (.cells #[.int .i64 0, .int .i64 0, .int .i64 0, .int .i64 0, .int .i64 0, .int .i64 0, .int .i64 0, .int .u32 0, .int .u32 0, .slice none 0 0, .slice none 0 0] 29)
                  replace hS := hS.trans (hb.mono hS.size)
                  refine Shut.out hK _ _ (hS.mono hBZ) (fun _ => ?_)
                  clear hK K
                  try simp only [Act.put, List.setIfInBounds_toArray, List.set_cons_zero, List.set_cons_succ]
                  exact IH _ _ _ _ (by omega) ⟨lq0, cq0, cq1, true, xq1, xq2, v121, v122, v123, v120, v124, v125, v126, _, p17, p18, u.heap.size, sq2, sq3, rfl, (by (try simp only [List.setIfInBounds_toArray, List.set_cons_zero, List.set_cons_succ]); try rfl), (by simp only [cond_true, cond_false] at hn ⊢; omega), hc0, hc1, hS, h121, h122, h124, h125, h126, (fun _ => ⟨rfl, zs, heap_alloc_new _ _⟩), (fun h => ⟨(ksq2 h).1, (ksq2 h).2.1, blk_below (ksq2 h).2.2 hb (blk_lt (ksq2 h).2.2)⟩), (fun h => ⟨(ksq3 h).1, (ksq3 h).2.1, blk_below (ksq3 h).2.2 hb (blk_lt (ksq3 h).2.2)⟩)⟩
                · skip
                  refine inv_arm (o := ⟨some 17, .alloc 31, 0, "law.go:36", #[], none⟩) rfl (fun K hK => ?_)
                  go_simp
                  have zs := hS.size
                  have hb := (Below.refl u.heap.size u).alloc (Nat.le_refl _) (.cells #[.int .i64 0, .int .i64 0, .int .i64 0, .int .i64 0, .int .i64 0, .int .i64 0, .bool false, .bool false, .int .i64 0, .bool false] 31)
                  replace hS := hS.trans (hb.mono hS.size)
                  refine Shut.out hK _ _ (hS.mono hBZ) (fun _ => ?_)
                  clear hK K
                  try simp only [Act.put, List.setIfInBounds_toArray, List.set_cons_zero, List.set_cons_succ]
                  exact IH _ _ _ _ (by omega) ⟨lq0, cq0, cq1, xq0, true, xq2, v121, v122, v123, v120, v124, v125, v126, p16, _, p18, sq1, u.heap.size, sq3, rfl, (by (try simp only [List.setIfInBounds_toArray, List.set_cons_zero, List.set_cons_succ]); try rfl), (by simp only [cond_true, cond_false] at hn ⊢; omega), hc0, hc1, hS, h121, h122, h124, h125, h126, (fun h => ⟨(ksq1 h).1, (ksq1 h).2.1, blk_below (ksq1 h).2.2 hb (blk_lt (ksq1 h).2.2)⟩), (fun _ => ⟨rfl, zs, heap_alloc_new _ _⟩), (fun h => ⟨(ksq3 h).1, (ksq3 h).2.1, blk_below (ksq3 h).2.2 hb (blk_lt (ksq3 h).2.2)⟩)⟩
                · skip
                  refine inv_arm (o := ⟨some 18, .alloc 38, 0, "law.go:36", #[], none⟩) rfl (fun K hK => ?_)
                  go_simp
                  have zs := hS.size
                  have hb := (Below.refl u.heap.size u).alloc (Nat.le_refl _) (.cells #[.bool false, .bool false, .bool false, .int .i64 0, .int .i64 0, .int .u64 0, .slice none 0 0] 38)
                  replace hS := hS.trans (hb.mono hS.size)
                  refine Shut.out hK _ _ (hS.mono hBZ) (fun _ => ?_)
                  clear hK K
                  try simp only [Act.put, List.setIfInBounds_toArray, List.set_cons_zero, List.set_cons_succ]
                  exact IH _ _ _ _ (by omega) ⟨lq0, cq0, cq1, xq0, xq1, true, v121, v122, v123, v120, v124, v125, v126, p16, p17, _, sq1, sq2, u.heap.size, rfl, (by (try simp only [List.setIfInBounds_toArray, List.set_cons_zero, List.set_cons_succ]); try rfl), (by simp only [cond_true, cond_false] at hn ⊢; omega), hc0, hc1, hS, h121, h122, h124, h125, h126, (fun h => ⟨(ksq1 h).1, (ksq1 h).2.1, blk_below (ksq1 h).2.2 hb (blk_lt (ksq1 h).2.2)⟩), (fun h => ⟨(ksq2 h).1, (ksq2 h).2.1, blk_below (ksq2 h).2.2 hb (blk_lt (ksq2 h).2.2)⟩), (fun _ => ⟨rfl, zs, heap_alloc_new _ _⟩)⟩
              simp only [Bool.and_eq_true] at hall
              obtain ⟨rfl, rfl, rfl, rfl, rfl, rfl⟩ := hall
              obtain rfl := h121 rfl
              obtain rfl := h122 rfl
              obtain rfl := h124 rfl
              obtain rfl := h125 rfl
              obtain rfl := h126 rfl
              obtain ⟨rfl, gsq1, Vsq1⟩ := ksq1 rfl
              obtain ⟨rfl, gsq2, Vsq2⟩ := ksq2 rfl
              obtain ⟨rfl, gsq3, Vsq3⟩ := ksq3 rfl
              obtain ⟨fu, rfl⟩ : ∃ m, fu = m + 3 := ⟨fu - 3, by simp only [cond_true] at hn; omega⟩
              clear IH hn hc0 hc1
              have neo_q1 := Nat.ne_of_lt (Nat.lt_of_lt_of_le (blk_lt Vo.out) gsq1)
              have neb_q1 := Nat.ne_of_lt (Nat.lt_of_lt_of_le (blk_lt Vb.out) gsq1)
              have nep3_q1 := Nat.ne_of_lt (Nat.lt_of_lt_of_le (blk_lt Vp3.out) gsq1)
              have neo_q2 := Nat.ne_of_lt (Nat.lt_of_lt_of_le (blk_lt Vo.out) gsq2)
              have neb_q2 := Nat.ne_of_lt (Nat.lt_of_lt_of_le (blk_lt Vb.out) gsq2)
              have nep3_q2 := Nat.ne_of_lt (Nat.lt_of_lt_of_le (blk_lt Vp3.out) gsq2)
              have neo_q3 := Nat.ne_of_lt (Nat.lt_of_lt_of_le (blk_lt Vo.out) gsq3)
              have neb_q3 := Nat.ne_of_lt (Nat.lt_of_lt_of_le (blk_lt Vb.out) gsq3)
              have nep3_q3 := Nat.ne_of_lt (Nat.lt_of_lt_of_le (blk_lt Vp3.out) gsq3)
              have neq1_q2 : sq1 ≠ sq2 := blk_ne Vsq1 Vsq2 (by decide)
              have neq1_q3 : sq1 ≠ sq3 := blk_ne Vsq1 Vsq3 (by decide)
              have neq2_q3 : sq2 ≠ sq3 := blk_ne Vsq2 Vsq3 (by decide)
              have geq1 := Nat.le_trans HB.out.2 gsq1
              have geq2 := Nat.le_trans HB.out.2 gsq2
              have geq3 := Nat.le_trans HB.out.2 gsq3
              replace Vo := Lib.hid (blk_below Vo.out hS (blk_lt Vo.out))
              replace Vb := Lib.hid (blk_below Vb.out hS (blk_lt Vb.out))
              replace Vp3 := Lib.hid (blk_below Vp3.out hS (blk_lt Vp3.out))
              replace HB := Lib.hid (And.intro (HB.out.1.trans (hS.mono HB.out.2)) (Nat.le_trans HB.out.2 hS.size))
              have Vq1 := Lib.hid Vsq1
              clear Vsq1
              have Vq2 := Lib.hid Vsq2
              clear Vsq2
              have Vq3 := Lib.hid Vsq3
              clear Vsq3
              obtain ⟨w20, hw20⟩ : ∃ W, u.setCells (sq1) 0 [.int .i64 2, .int .i64 0, .int .i64 0, .int .i64 0, .int .i64 0, .int .i64 0, .int .i64 0, .int .u32 0, .int .u32 0, .slice none 0 0, .slice none 0 0] = W := ⟨_, rfl⟩
              have thq1 := Lib.hid (there_blk Vq1.out (k := 11) rfl)
              replace Vo := Lib.hid (stayS hw20 neo_q1 Vo.out)
              replace Vb := Lib.hid (stayS hw20 neb_q1 Vb.out)
              replace Vp3 := Lib.hid (stayS hw20 nep3_q1 Vp3.out)
              replace Vq2 := Lib.hid (stayS hw20 neq1_q2.symm Vq2.out)
              replace Vq3 := Lib.hid (stayS hw20 neq1_q3.symm Vq3.out)
              replace Vq1 := Lib.hid (setS hw20 Vq1.out rfl)
              replace HB := Lib.hid (belS hw20 geq1 HB.out)
              replace hS := (hS.mono hBZ)
              refine wpAnyH_ready (rs := [10]) (by kernel_rfl) (by simp) (AllReadyH.cons (o := ⟨none, .store 29 (.tmp 16) (.tmp 124), 0, "law.go:36", #[⟨7, .data⟩, ⟨4, .data⟩, ⟨2, .chain⟩, ⟨0, .phase⟩, ⟨1, .phase⟩, ⟨2, .phase⟩, ⟨3, .phase⟩, ⟨4, .phase⟩, ⟨5, .textOnly .lateStores⟩, ⟨6, .textOnly .lateStores⟩, ⟨7, .phase⟩, ⟨8, .phase⟩, ⟨9, .phase⟩], none⟩) rfl (fun K hK => ?_) AllReadyH.nil)
              refine op_storeS (by rfl) rfl rfl rfl thq1.out (by kernel_rfl) (by simp [Value.oneCell']) hw20 ?_
              replace hS := hw20 ▸ below_setCells geq1 [.int .i64 2, .int .i64 0, .int .i64 0, .int .i64 0, .int .i64 0, .int .i64 0, .int .i64 0, .int .u32 0, .int .u32 0, .slice none 0 0, .slice none 0 0] 0 _ hS
              obtain ⟨w21, hw21⟩ : ∃ W, w20.setCells (sq2) 0 [.int .i64 0, .int .i64 0, .int .i64 0, .int .i64 0, .int .i64 0, .int .i64 0, .bool false, .bool false, .int .i64 0, .bool false] = W := ⟨_, rfl⟩
              have thq2 := Lib.hid (there_blk Vq2.out (k := 10) rfl)
              replace Vo := Lib.hid (stayS hw21 neo_q2 Vo.out)
              replace Vb := Lib.hid (stayS hw21 neb_q2 Vb.out)
              replace Vp3 := Lib.hid (stayS hw21 nep3_q2 Vp3.out)
              replace Vq1 := Lib.hid (stayS hw21 neq1_q2 Vq1.out)
              replace Vq3 := Lib.hid (stayS hw21 neq2_q3.symm Vq3.out)
              replace Vq2 := Lib.hid (setS hw21 Vq2.out rfl)
              replace HB := Lib.hid (belS hw21 geq2 HB.out)
              refine Shut.out hK _ _ hS (fun _ => ?_)
              clear hK K
              try simp only [Act.put, List.setIfInBounds_toArray, List.set_cons_zero, List.set_cons_succ]
              refine wpAnyH_ready (rs := [11]) (by kernel_rfl) (by simp) (AllReadyH.cons (o := ⟨none, .store 31 (.tmp 17) (.tmp 125), 0, "law.go:36", #[⟨8, .data⟩, ⟨5, .data⟩, ⟨10, .chain⟩, ⟨0, .phase⟩, ⟨1, .phase⟩, ⟨2, .phase⟩, ⟨3, .phase⟩, ⟨4, .phase⟩, ⟨5, .phase⟩, ⟨6, .textOnly .lateStores⟩, ⟨7, .phase⟩, ⟨8, .phase⟩, ⟨9, .phase⟩, ⟨10, .phase⟩], none⟩) rfl (fun K hK => ?_) AllReadyH.nil)
              refine op_storeS (by rfl) rfl rfl rfl thq2.out (by kernel_rfl) (by simp [Value.oneCell']) hw21 ?_
              replace hS := hw21 ▸ below_setCells geq2 [.int .i64 0, .int .i64 0, .int .i64 0, .int .i64 0, .int .i64 0, .int .i64 0, .bool false, .bool false, .int .i64 0, .bool false] 0 _ hS
              obtain ⟨w22, hw22⟩ : ∃ W, w21.setCells (sq3) 0 [.bool false, .bool false, .bool false, .int .i64 0, .int .i64 1, .int .u64 0, .slice none 0 0] = W := ⟨_, rfl⟩
              have thq3 := Lib.hid (there_blk Vq3.out (k := 7) rfl)
              replace Vo := Lib.hid (stayS hw22 neo_q3 Vo.out)
              replace Vb := Lib.hid (stayS hw22 neb_q3 Vb.out)
              replace Vp3 := Lib.hid (stayS hw22 nep3_q3 Vp3.out)
              replace Vq1 := Lib.hid (stayS hw22 neq1_q3 Vq1.out)
              replace Vq2 := Lib.hid (stayS hw22 neq2_q3 Vq2.out)
              replace Vq3 := Lib.hid (setS hw22 Vq3.out rfl)
              replace HB := Lib.hid (belS hw22 geq3 HB.out)
              refine Shut.out hK _ _ hS (fun _ => ?_)
              clear hK K
              try simp only [Act.put, List.setIfInBounds_toArray, List.set_cons_zero, List.set_cons_succ]
              refine wpAnyH_ready (rs := [12]) (by kernel_rfl) (by simp) (AllReadyH.cons (o := ⟨none, .store 38 (.tmp 18) (.tmp 126), 0, "law.go:36", #[⟨9, .data⟩, ⟨6, .data⟩, ⟨11, .chain⟩, ⟨0, .phase⟩, ⟨1, .phase⟩, ⟨2, .phase⟩, ⟨3, .phase⟩, ⟨4, .phase⟩, ⟨5, .phase⟩, ⟨6, .phase⟩, ⟨7, .phase⟩, ⟨8, .phase⟩, ⟨9, .phase⟩, ⟨10, .phase⟩, ⟨11, .phase⟩], none⟩) rfl (fun K hK => ?_) AllReadyH.nil)
              refine op_storeS (by rfl) rfl rfl rfl thq3.out (by kernel_rfl) (by simp [Value.oneCell']) hw22 ?_
              replace hS := hw22 ▸ below_setCells geq3 [.bool false, .bool false, .bool false, .int .i64 0, .int .i64 1, .int .u64 0, .slice none 0 0] 0 _ hS
              refine Shut.out hK _ _ hS (fun _ => ?_)
              clear hK K
              try simp only [Act.put, List.setIfInBounds_toArray, List.set_cons_zero, List.set_cons_succ]
              refine wpAnyH_done (by kernel_rfl) ?_ _
              refine NoPanic.normal ?_
              clear hS hBZ gsq1 gsq2 gsq3 thq1 thq2 thq3
              clear Vq1
              clear Vq2
              have co := row11 Vo.out
              have cb := row7 Vb.out
              have cp3 := row7 Vp3.out
              have cq3 := row7 Vq3.out
              go_wp2
              go_ret
              exact ⟨rfl, HB.out.1⟩
end Go.Proofs.Ytpkegfochfkkcaa
