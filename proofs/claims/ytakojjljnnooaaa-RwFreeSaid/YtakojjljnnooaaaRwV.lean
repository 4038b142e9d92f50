/- The walk of RwFree: it answers true, over any world; a condition: how many readers is a byte. -/
import Derived.Test.YtakojjljnnooaaaRwS
namespace Go.Proofs.Ytakojjljnnooaaa
set_option linter.unusedVariables false
set_option linter.unusedSimpArgs false
open Go.RowKit
set_option maxRecDepth 100000 in
set_option maxHeartbeats 16000000 in
theorem free16_walk (nn now : Int) (w : World) (f0 : 0 ≤ nn) (f1 : nn < 256) : Calls Try.prog 5 #[.int .u8 nn, .int .i64 now] w fun e w' => e = .returned (.bool true) ∧ Below w.heap.size w w' := by
  obtain ⟨m, hm⟩ : ∃ m : Nat, nn = (m : Int) := ⟨nn.toNat, by omega⟩
  subst hm
  have hm1 : m < 256 := by omega
  have hwm : IntKind.i64.wrap (m : Int) = (m : Int) := by rw [IntKind.wrap_i64]; omega
  have AL := Lib.hid alive16
  have K1 := Lib.hid (show ∀ (v u : Int) (hv : 0 ≤ v ∧ v < 256 ∧ u = v + 1) (W : World), Calls Try.prog 9 #[.agg #[.int .i64 2, .int .i64 0, .int .i64 0, .int .i64 0, .int .i64 0, .int .i64 v, .int .i64 0, .int .u32 0, .int .u32 0, .slice none 0 0, .slice none 0 0], .agg #[.int .i64 28, .int .i64 0, .int .i64 0, .int .i64 0, .int .i64 (-1), .int .i64 0, .bool false, .bool false, .int .i64 0, .bool false]] W (fun e w' => e = .returned (.tuple #[.agg #[.int .i64 2, .int .i64 0, .int .i64 0, .int .i64 0, .int .i64 0, .int .i64 u, .int .i64 0, .int .u32 0, .int .u32 0, .slice none 0 0, .slice none 0 0], .agg #[.int .i64 0, .int .i64 0, .int .i64 0, .int .i64 0, .int .i64 0, .int .i64 0, .bool false, .bool false, .int .i64 0, .bool false], .agg #[.bool true, .bool false, .bool false, .int .i64 0, .int .i64 0, .int .u64 0, .slice none 0 0]]) ∧ Below W.heap.size W w') from fun v u hv W => by
    have h := rwRLock_nil 2 0 0 0 0 v 0 0 0 (⟨28, 0, 0, 0, -1, 0, false, false, 0, false⟩ : MFr) ⟨by kernel_rfl, (by rw [IntKind.wrap_i64]; omega), by kernel_rfl⟩ W
    rw [show rlockW 0 v 0 (⟨28, 0, 0, 0, -1, 0, false, false, 0, false⟩ : MFr) = ((0, u, 0), (⟨0, 0, 0, 0, 0, 0, false, false, 0, false⟩ : MFr), (⟨true, 0, false, 0⟩ : MAct)) from (by
      have e : IntKind.i64.wrap (v + 1) = u := by rw [IntKind.wrap_i64]; omega
      unfold rlockW
      rw [if_neg (by decide), if_neg (fun h => h rfl), e, if_neg (by omega)]
      rfl)] at h
    exact h)
  have K2 := Lib.hid (show ∀ (v u : Int) (hv : 0 < v ∧ v < 257 ∧ u = v - 1) (W : World), Calls Try.prog 11 #[.agg #[.int .i64 2, .int .i64 0, .int .i64 0, .int .i64 0, .int .i64 0, .int .i64 v, .int .i64 0, .int .u32 0, .int .u32 0, .slice none 0 0, .slice none 0 0], .agg #[.int .i64 29, .int .i64 0, .int .i64 0, .int .i64 0, .int .i64 (-1), .int .i64 0, .bool false, .bool false, .int .i64 0, .bool false]] W (fun e w' => e = .returned (.tuple #[.agg #[.int .i64 2, .int .i64 0, .int .i64 0, .int .i64 0, .int .i64 0, .int .i64 u, .int .i64 0, .int .u32 0, .int .u32 0, .slice none 0 0, .slice none 0 0], .agg #[.int .i64 0, .int .i64 0, .int .i64 0, .int .i64 0, .int .i64 0, .int .i64 0, .bool false, .bool false, .int .i64 0, .bool false], .agg #[.bool true, .bool false, .bool false, .int .i64 0, .int .i64 0, .int .u64 0, .slice none 0 0]]) ∧ Below W.heap.size W w') from fun v u hv W => by
    have h := rwRUnlock_nil 2 0 0 0 0 v 0 0 0 (⟨29, 0, 0, 0, -1, 0, false, false, 0, false⟩ : MFr) ⟨by kernel_rfl, (by rw [IntKind.wrap_i64]; omega), by kernel_rfl⟩ W
    rw [show runlockW 0 v 0 (⟨29, 0, 0, 0, -1, 0, false, false, 0, false⟩ : MFr) = ((0, u, 0), (⟨0, 0, 0, 0, 0, 0, false, false, 0, false⟩ : MFr), (⟨true, 0, false, 0⟩ : MAct)) from (by
      have e : IntKind.i64.wrap (v - 1) = u := by rw [IntKind.wrap_i64]; omega
      unfold runlockW
      rw [if_pos rfl, e, if_neg (by omega), if_neg (by omega)]
      rfl)] at h
    exact h)
  have K3 := Lib.hid (show ∀ (W : World), Calls Try.prog 16 #[.agg #[.int .i64 2, .int .i64 0, .int .i64 0, .int .i64 0, .int .i64 0, .int .i64 0, .int .i64 0, .int .u32 0, .int .u32 0, .slice none 0 0, .slice none 0 0], .agg #[.int .i64 30, .int .i64 0, .int .i64 0, .int .i64 0, .int .i64 (-1), .int .i64 0, .bool false, .bool false, .int .i64 0, .bool false], .int .i64 now, .int .i64 9] W (fun e w' => e = .returned (.tuple #[.agg #[.int .i64 2, .int .i64 1, .int .i64 0, .int .i64 0, .int .i64 0, .int .i64 0, .int .i64 0, .int .u32 0, .int .u32 0, .slice none 0 0, .slice none 0 0], .agg #[.int .i64 30, .int .i64 1, .int .i64 0, .int .i64 0, .int .i64 (-1), .int .i64 0, .bool false, .bool false, .int .i64 0, .bool false], .agg #[.bool false, .bool false, .bool false, .int .i64 0, .int .i64 0, .int .u64 0, .slice none 0 0]]) ∧ Below W.heap.size W w') from fun W => by
    have h := rwWLock_nil 2 0 0 0 0 0 0 0 0 (⟨30, 0, 0, 0, -1, 0, false, false, 0, false⟩ : MFr) now 9 ⟨by kernel_rfl, by kernel_rfl, by kernel_rfl⟩ W
    rw [show wlockW 0 0 0 (⟨30, 0, 0, 0, -1, 0, false, false, 0, false⟩ : MFr) now 9 = ((1, 0, 0), (⟨30, 1, 0, 0, -1, 0, false, false, 0, false⟩ : MFr), (⟨false, 0, false, 0⟩ : MAct)) from (by rfl)] at h
    exact h)
  have K4 := Lib.hid (show ∀ (W : World), Calls Try.prog 16 #[.agg #[.int .i64 2, .int .i64 1, .int .i64 0, .int .i64 0, .int .i64 0, .int .i64 0, .int .i64 0, .int .u32 0, .int .u32 0, .slice none 0 0, .slice none 0 0], .agg #[.int .i64 30, .int .i64 1, .int .i64 0, .int .i64 0, .int .i64 (-1), .int .i64 0, .bool false, .bool false, .int .i64 0, .bool false], .int .i64 now, .int .i64 9] W (fun e w' => e = .returned (.tuple #[.agg #[.int .i64 2, .int .i64 1, .int .i64 0, .int .i64 0, .int .i64 0, .int .i64 (-1048576), .int .i64 0, .int .u32 0, .int .u32 0, .slice none 0 0, .slice none 0 0], .agg #[.int .i64 0, .int .i64 0, .int .i64 0, .int .i64 0, .int .i64 0, .int .i64 0, .bool false, .bool false, .int .i64 0, .bool false], .agg #[.bool true, .bool false, .bool false, .int .i64 0, .int .i64 0, .int .u64 0, .slice none 0 0]]) ∧ Below W.heap.size W w') from fun W => by
    have h := rwWLock_nil 2 1 0 0 0 0 0 0 0 (⟨30, 1, 0, 0, -1, 0, false, false, 0, false⟩ : MFr) now 9 ⟨by kernel_rfl, by kernel_rfl, by kernel_rfl⟩ W
    rw [show wlockW 1 0 0 (⟨30, 1, 0, 0, -1, 0, false, false, 0, false⟩ : MFr) now 9 = ((1, (-1048576), 0), (⟨0, 0, 0, 0, 0, 0, false, false, 0, false⟩ : MFr), (⟨true, 0, false, 0⟩ : MAct)) from (by rfl)] at h
    exact h)
  have K5 := Lib.hid (show ∀ (W : World), Calls Try.prog 18 #[.agg #[.int .i64 2, .int .i64 1, .int .i64 0, .int .i64 0, .int .i64 0, .int .i64 (-1048576), .int .i64 0, .int .u32 0, .int .u32 0, .slice none 0 0, .slice none 0 0], .agg #[.int .i64 31, .int .i64 0, .int .i64 0, .int .i64 0, .int .i64 (-1), .int .i64 0, .bool false, .bool false, .int .i64 0, .bool false]] W (fun e w' => e = .returned (.tuple #[.agg #[.int .i64 2, .int .i64 1, .int .i64 0, .int .i64 0, .int .i64 0, .int .i64 0, .int .i64 0, .int .u32 0, .int .u32 0, .slice none 0 0, .slice none 0 0], .agg #[.int .i64 31, .int .i64 1, .int .i64 0, .int .i64 0, .int .i64 (-1), .int .i64 0, .bool false, .bool false, .int .i64 0, .bool false], .agg #[.bool false, .bool false, .bool false, .int .i64 0, .int .i64 0, .int .u64 0, .slice none 0 0]]) ∧ Below W.heap.size W w') from fun W => by
    have h := rwWUnlock_nil 2 1 0 0 0 (-1048576) 0 0 0 (⟨31, 0, 0, 0, -1, 0, false, false, 0, false⟩ : MFr) ⟨by kernel_rfl, by kernel_rfl, by kernel_rfl⟩ W
    rw [show wunlockW 1 (-1048576) 0 (⟨31, 0, 0, 0, -1, 0, false, false, 0, false⟩ : MFr) = ((1, 0, 0), (⟨31, 1, 0, 0, -1, 0, false, false, 0, false⟩ : MFr), (⟨false, 0, false, 0⟩ : MAct)) from (by kernel_rfl)] at h
    exact h)
  have K6 := Lib.hid (show ∀ (W : World), Calls Try.prog 18 #[.agg #[.int .i64 2, .int .i64 1, .int .i64 0, .int .i64 0, .int .i64 0, .int .i64 0, .int .i64 0, .int .u32 0, .int .u32 0, .slice none 0 0, .slice none 0 0], .agg #[.int .i64 31, .int .i64 1, .int .i64 0, .int .i64 0, .int .i64 (-1), .int .i64 0, .bool false, .bool false, .int .i64 0, .bool false]] W (fun e w' => e = .returned (.tuple #[.agg #[.int .i64 2, .int .i64 1, .int .i64 0, .int .i64 0, .int .i64 0, .int .i64 0, .int .i64 0, .int .u32 0, .int .u32 0, .slice none 0 0, .slice none 0 0], .agg #[.int .i64 31, .int .i64 2, .int .i64 0, .int .i64 0, .int .i64 (-1), .int .i64 0, .bool false, .bool false, .int .i64 0, .bool false], .agg #[.bool false, .bool false, .bool false, .int .i64 0, .int .i64 0, .int .u64 0, .slice none 0 0]]) ∧ Below W.heap.size W w') from fun W => by
    have h := rwWUnlock_nil 2 1 0 0 0 0 0 0 0 (⟨31, 1, 0, 0, -1, 0, false, false, 0, false⟩ : MFr) ⟨by kernel_rfl, by kernel_rfl, by kernel_rfl⟩ W
    rw [show wunlockW 1 0 0 (⟨31, 1, 0, 0, -1, 0, false, false, 0, false⟩ : MFr) = ((1, 0, 0), (⟨31, 2, 0, 0, -1, 0, false, false, 0, false⟩ : MFr), (⟨false, 0, false, 0⟩ : MAct)) from (by kernel_rfl)] at h
    exact h)
  have K7 := Lib.hid (show ∀ (W : World), Calls Try.prog 18 #[.agg #[.int .i64 2, .int .i64 1, .int .i64 0, .int .i64 0, .int .i64 0, .int .i64 0, .int .i64 0, .int .u32 0, .int .u32 0, .slice none 0 0, .slice none 0 0], .agg #[.int .i64 31, .int .i64 2, .int .i64 0, .int .i64 0, .int .i64 (-1), .int .i64 0, .bool false, .bool false, .int .i64 0, .bool false]] W (fun e w' => e = .returned (.tuple #[.agg #[.int .i64 2, .int .i64 0, .int .i64 0, .int .i64 0, .int .i64 0, .int .i64 0, .int .i64 0, .int .u32 0, .int .u32 0, .slice none 0 0, .slice none 0 0], .agg #[.int .i64 0, .int .i64 0, .int .i64 0, .int .i64 0, .int .i64 0, .int .i64 0, .bool false, .bool false, .int .i64 0, .bool false], .agg #[.bool true, .bool false, .bool false, .int .i64 0, .int .i64 0, .int .u64 0, .slice none 0 0]]) ∧ Below W.heap.size W w') from fun W => by
    have h := rwWUnlock_nil 2 1 0 0 0 0 0 0 0 (⟨31, 2, 0, 0, -1, 0, false, false, 0, false⟩ : MFr) ⟨by kernel_rfl, by kernel_rfl, by kernel_rfl⟩ W
    rw [show wunlockW 1 0 0 (⟨31, 2, 0, 0, -1, 0, false, false, 0, false⟩ : MFr) = ((0, 0, 0), (⟨0, 0, 0, 0, 0, 0, false, false, 0, false⟩ : MFr), (⟨true, 0, false, 0⟩ : MAct)) from (by kernel_rfl)] at h
    exact h)
  have N1 := Lib.hid (show ∀ W : World, Calls Try.prog 20 #[.int .i64 28] W (fun e w' => e = .returned (.agg #[.int .i64 28, .int .i64 0, .int .i64 0, .int .i64 0, .int .i64 (-1), .int .i64 0, .bool false, .bool false, .int .i64 0, .bool false]) ∧ Below W.heap.size W w') from fun W => refBegin15_any 28 W)
  have N2 := Lib.hid (show ∀ W : World, Calls Try.prog 20 #[.int .i64 30] W (fun e w' => e = .returned (.agg #[.int .i64 30, .int .i64 0, .int .i64 0, .int .i64 0, .int .i64 (-1), .int .i64 0, .bool false, .bool false, .int .i64 0, .bool false]) ∧ Below W.heap.size W w') from fun W => refBegin15_any 30 W)
  have N3 := Lib.hid (show ∀ W : World, Calls Try.prog 20 #[.int .i64 29] W (fun e w' => e = .returned (.agg #[.int .i64 29, .int .i64 0, .int .i64 0, .int .i64 0, .int .i64 (-1), .int .i64 0, .bool false, .bool false, .int .i64 0, .bool false]) ∧ Below W.heap.size W w') from fun W => refBegin15_any 29 W)
  have N4 := Lib.hid (show ∀ W : World, Calls Try.prog 20 #[.int .i64 31] W (fun e w' => e = .returned (.agg #[.int .i64 31, .int .i64 0, .int .i64 0, .int .i64 0, .int .i64 (-1), .int .i64 0, .bool false, .bool false, .int .i64 0, .bool false]) ∧ Below W.heap.size W w') from fun W => refBegin15_any 31 W)
  have R1 := Lib.hid (show ∀ (v : Int) (hv : 0 ≤ v) (W : World), Calls Try.prog 13 #[.agg #[.int .i64 2, .int .i64 0, .int .i64 0, .int .i64 0, .int .i64 0, .int .i64 v, .int .i64 0, .int .u32 0, .int .u32 0, .slice none 0 0, .slice none 0 0]] W (fun e w' => e = .returned (.tuple #[.int .i64 v, .bool false]) ∧ Below W.heap.size W w') from fun v hv W => by have h := rwReaders_any 2 0 0 0 0 v 0 0 0 none 0 0 none 0 0 W; rw [if_neg (by omega), decide_eq_false (by omega)] at h; exact h)
  have R2 := Lib.hid (show ∀ (W : World), Calls Try.prog 13 #[.agg #[.int .i64 2, .int .i64 1, .int .i64 0, .int .i64 0, .int .i64 0, .int .i64 (-1048576), .int .i64 0, .int .u32 0, .int .u32 0, .slice none 0 0, .slice none 0 0]] W (fun e w' => e = .returned (.tuple #[.int .i64 0, .bool true]) ∧ Below W.heap.size W w') from fun W => rwReaders_any 2 1 0 0 0 (-1048576) 0 0 0 none 0 0 none 0 0 W)
  have hw1 := w6_self 0 0 0 0 0 0
  have hw2 := w6_eq 0 0 0 0 0 0
  have hmm : ((m : Int) != (m : Int)) = false := by simp
  have hm0 : (0 : Int) ≤ (m : Int) := by omega
  have HB := Lib.hid (And.intro (Below.refl w.heap.size w) (Nat.le_refl w.heap.size))
  go_enter Try.func5, Try.ntmps5
  go_wp2_with fail
  refine (AL.out _).mono ?_
  rintro e w1 ⟨rfl, hb⟩
  replace HB := Lib.hid (And.intro (HB.out.1.trans (hb.mono HB.out.2)) (Nat.le_trans HB.out.2 hb.size))
  clear hb
  have gq := HB.out.2
  obtain ⟨w2, hw2⟩ : ∃ W, (w1.alloc (.cells #[.int .i64 0, .int .i64 0, .int .i64 0, .int .i64 0, .int .i64 0, .int .i64 0, .int .i64 0, .int .u32 0, .int .u32 0, .slice none 0 0, .slice none 0 0] 29)) = W := ⟨_, rfl⟩
  have hb : Below w1.heap.size w1 w2 := hw2 ▸ ((Below.refl _ _).alloc (Nat.le_refl _) _)
  have hv0 : w2.heap[w1.heap.size]? = some (.cells #[.int .i64 0, .int .i64 0, .int .i64 0, .int .i64 0, .int .i64 0, .int .i64 0, .int .i64 0, .int .u32 0, .int .u32 0, .slice none 0 0, .slice none 0 0] 29) := by
    have h0 := heap_alloc_new w1 (.cells #[.int .i64 0, .int .i64 0, .int .i64 0, .int .i64 0, .int .i64 0, .int .i64 0, .int .i64 0, .int .u32 0, .int .u32 0, .slice none 0 0, .slice none 0 0] 29)
    rw [show w1.heap.size = w1.heap.size by simp [Nat.add_assoc]] at h0
    rw [← hw2]
    exact h0
  replace HB := Lib.hid (And.intro (HB.out.1.trans (hb.mono HB.out.2)) (Nat.le_trans HB.out.2 hb.size))
  have Vo := Lib.hid hv0
  have geo := gq
  generalize hso : w1.heap.size = so at *
  clear hb gq hv0
  obtain ⟨pco0, pco1, pco2, pco3, pco4, pco5, pco6, pco7, pco8, pco9, pco10⟩ := row11 Vo.out
  obtain ⟨pfo0, pfo1, pfo2, pfo3, pfo4, pfo5, pfo6, pfo7, pfo8, pfo9, pfo10⟩ := frz11 Vo.out
  obtain ⟨w3, hw3⟩ : ∃ W, (((((((((((w2.setCell ⟨so, 0, none⟩ (.int .i64 2)).setCell ⟨so, 1, none⟩ (.int .i64 0)).setCell ⟨so, 2, none⟩ (.int .i64 0)).setCell ⟨so, 3, none⟩ (.int .i64 0)).setCell ⟨so, 4, none⟩ (.int .i64 0)).setCell ⟨so, 5, none⟩ (.int .i64 0)).setCell ⟨so, 6, none⟩ (.int .i64 0)).setCell ⟨so, 7, none⟩ (.int .u32 0)).setCell ⟨so, 8, none⟩ (.int .u32 0)).setCell ⟨so, 9, none⟩ (.slice none 0 0)).setCell ⟨so, 10, none⟩ (.slice none 0 0)) = W := ⟨_, rfl⟩
  have hse : w2.setCells (so) 0 [.int .i64 2, .int .i64 0, .int .i64 0, .int .i64 0, .int .i64 0, .int .i64 0, .int .i64 0, .int .u32 0, .int .u32 0, .slice none 0 0, .slice none 0 0] = w3 := hw3
  have Vo2 : w3.heap[so]? = some (.cells #[.int .i64 2, .int .i64 0, .int .i64 0, .int .i64 0, .int .i64 0, .int .i64 0, .int .i64 0, .int .u32 0, .int .u32 0, .slice none 0 0, .slice none 0 0] 29) := hse ▸ heap_setCells [.int .i64 2, .int .i64 0, .int .i64 0, .int .i64 0, .int .i64 0, .int .i64 0, .int .i64 0, .int .u32 0, .int .u32 0, .slice none 0 0, .slice none 0 0] w2 [] [.int .i64 0, .int .i64 0, .int .i64 0, .int .i64 0, .int .i64 0, .int .i64 0, .int .i64 0, .int .u32 0, .int .u32 0, .slice none 0 0, .slice none 0 0] rfl Vo.out
  have hbb : Below _ _ w3 := hse ▸ below_setCells geo [.int .i64 2, .int .i64 0, .int .i64 0, .int .i64 0, .int .i64 0, .int .i64 0, .int .i64 0, .int .u32 0, .int .u32 0, .slice none 0 0, .slice none 0 0] 0 w2 HB.out.1
  have hbs : w3.heap.size = w2.heap.size := by rw [← hse, size_setCells]
  replace Vo := Lib.hid Vo2
  clear Vo2
  replace HB := Lib.hid (And.intro hbb (show _ ≤ w3.heap.size by rw [hbs]; exact HB.out.2))
  clear hbb hbs hse
  go_wp2
  clear pco0 pco1 pco2 pco3 pco4 pco5 pco6 pco7 pco8 pco9 pco10 pfo0 pfo1 pfo2 pfo3 pfo4 pfo5 pfo6 pfo7 pfo8 pfo9 pfo10 hw3
  go_loopw [6] (fun iv wr => ∃ (i : Nat) (v : Int), iv = .int .i64 (i : Int) ∧ i ≤ m ∧ v = (i : Int) ∧ Hid (Below w.heap.size w wr ∧ w.heap.size ≤ wr.heap.size) ∧ Hid (wr.heap[so]? = some (.cells #[.int .i64 2, .int .i64 0, .int .i64 0, .int .i64 0, .int .i64 0, .int .i64 v, .int .i64 0, .int .u32 0, .int .u32 0, .slice none 0 0, .slice none 0 0] 29))) (fun iv _ => m - (intOf iv).toNat)
  case atStart => exact ⟨0, _, rfl, by omega, rfl, HB, Vo⟩
  case round =>
    clear HB Vo
    obtain ⟨i, v, rfl, hi, hv, HB, Vo⟩ := hrel
    by_cases hlt : i < m
    · have c1 : decide ((i : Int) < (m : Int)) = true := by simpa using hlt
      have c1n : decide (i < m) = true := by simpa using hlt
      obtain ⟨y1, hu⟩ : ∃ y, y = v + 1 := ⟨_, rfl⟩
      have KC := Lib.hid (K1.out v y1 (by omega))
      have HI := Lib.hid (And.intro hlt (And.intro hv (And.intro hu hm1)))
      clear hlt hi hv hu
      go_wp2
      refine wp_region_noPanic ?_
      refine wp_region_held_drew (S := (fun wv => Below wr.heap.size wr wv)) (by kernel_rfl) ((Below.refl wr.heap.size wr).drew) (fun hS => ?_)
      refine wpAnyH_take (i := 0) (oi := ⟨some 35, .load 29 (.tmp 5), 29, "law.go:78", #[], none⟩) (v := .agg (([.int .i64 2, .int .i64 0, .int .i64 0, .int .i64 0, .int .i64 0, .int .i64 v, .int .i64 0, .int .u32 0, .int .u32 0, .slice none 0 0, .slice none 0 0] : List Value)).toArray) rfl (by kernel_rfl) (by kernel_rfl) (by kernel_rfl) (fun _ _ _ h => h) (yieldsIf_load_mid (by rfl) _ _ (by rfl) (so) (0) (by rfl) (([.int .i64 2, .int .i64 0, .int .i64 0, .int .i64 0, .int .i64 0, .int .i64 v, .int .i64 0, .int .u32 0, .int .u32 0, .slice none 0 0, .slice none 0 0] : List Value)) _ (fun wv hS => blk_rngl (blk_below Vo.out hS (blk_lt Vo.out))) Try.underlying29 (by rfl) (by kernel_rfl)) hS ?_
      try simp only [Act.put, List.setIfInBounds_toArray, List.set_cons_zero, List.set_cons_succ]
      refine inv_region (fun a0 fu listed a u => ∃ (cq0 cq1 xq0 xq1 xq2 : Bool) (v36 v37 v34 v38 v39 v40 p7 p8 p9 : Value) (sx sg sa : Nat), listed = #[true, cq0, cq1, cq1, cq1, cq1, cq1, xq0, xq1, xq2, false, false, false] ∧ a = ⟨(((((((((a0.tmps.setIfInBounds 36 v36).setIfInBounds 37 v37).setIfInBounds 34 v34).setIfInBounds 38 v38).setIfInBounds 39 v39).setIfInBounds 40 v40).setIfInBounds 7 p7).setIfInBounds 8 p8).setIfInBounds 9 p9), a0.defers⟩ ∧ (bif cq0 then 0 else 1) + (bif cq1 then 0 else 5) + (bif xq0 then 0 else 1) + (bif xq1 then 0 else 1) + (bif xq2 then 0 else 1) + 3 ≤ fu ∧ (cq1 = true → cq0 = true) ∧ Below wr.heap.size wr u ∧ (cq0 = true → v36 = .agg #[.int .i64 28, .int .i64 0, .int .i64 0, .int .i64 0, .int .i64 (-1), .int .i64 0, .bool false, .bool false, .int .i64 0, .bool false]) ∧ (cq1 = true → v38 = .agg #[.int .i64 2, .int .i64 0, .int .i64 0, .int .i64 0, .int .i64 0, .int .i64 y1, .int .i64 0, .int .u32 0, .int .u32 0, .slice none 0 0, .slice none 0 0]) ∧ (cq1 = true → v39 = .agg #[.int .i64 0, .int .i64 0, .int .i64 0, .int .i64 0, .int .i64 0, .int .i64 0, .bool false, .bool false, .int .i64 0, .bool false]) ∧ (cq1 = true → v40 = .agg #[.bool true, .bool false, .bool false, .int .i64 0, .int .i64 0, .int .u64 0, .slice none 0 0]) ∧ (xq0 = true → p7 = .pointer (some ⟨sx, 0, none⟩) ∧ wr.heap.size ≤ sx ∧ u.heap[sx]? = some (.cells #[.int .i64 0, .int .i64 0, .int .i64 0, .int .i64 0, .int .i64 0, .int .i64 0, .int .i64 0, .int .u32 0, .int .u32 0, .slice none 0 0, .slice none 0 0] 29)) ∧ (xq1 = true → p8 = .pointer (some ⟨sg, 0, none⟩) ∧ wr.heap.size ≤ sg ∧ u.heap[sg]? = some (.cells #[.int .i64 0, .int .i64 0, .int .i64 0, .int .i64 0, .int .i64 0, .int .i64 0, .bool false, .bool false, .int .i64 0, .bool false] 31)) ∧ (xq2 = true → p9 = .pointer (some ⟨sa, 0, none⟩) ∧ wr.heap.size ≤ sa ∧ u.heap[sa]? = some (.cells #[.bool false, .bool false, .bool false, .int .i64 0, .int .i64 0, .int .u64 0, .slice none 0 0] 38))) ⟨false, false, false, false, false, u36, u37, u34, u38, u39, u40, u7, u8, u9, 0, 0, 0, rfl, (by first | (simp only [List.setIfInBounds_toArray, List.set_cons_zero, List.set_cons_succ]; done) | rfl), (by show _ + _ ≤ _; decide), (fun h => nomatch h), hS, (fun h => nomatch h), (fun h => nomatch h), (fun h => nomatch h), (fun h => nomatch h), (fun h => nomatch h), (fun h => nomatch h), (fun h => nomatch h)⟩ ?_
      clear hS; rintro fu listed a u ⟨cq0, cq1, xq0, xq1, xq2, v36, v37, v34, v38, v39, v40, p7, p8, p9, sx, sg, sa, rfl, rfl, hn, hc0, hS, h36, h38, h39, h40, ksx, ksg, ksa⟩ IH
      try simp only [List.setIfInBounds_toArray, List.set_cons_zero, List.set_cons_succ]
      by_cases hall : (cq0 && (cq1 && (xq0 && (xq1 && (xq2))))) = true
      rotate_left
      · have hbad : ((cq1 && !cq0) || ((cq0 && (cq1 && (xq0 && (xq1 && (xq2))))))) = false := inv_or (inv_imp hc0) (inv_not hall)
        obtain ⟨fu, rfl⟩ : ∃ m, fu = m + 1 := ⟨fu - 1, by omega⟩
        refine inv_step (bad := ((cq1 && !cq0) || ((cq0 && (cq1 && (xq0 && (xq1 && (xq2)))))))) (fun i => ((i == 1 && !cq0) || ((i == 2 && (cq0 && !cq1)) || ((i == 7 && !xq0) || ((i == 8 && !xq1) || ((i == 9 && !xq2))))))) ((show ∀ cq0 cq1 xq0 xq1 xq2 : Bool, (((cq1 && !cq0) || ((cq0 && (cq1 && (xq0 && (xq1 && (xq2))))))) || (!(Region.ready _ _ #[true, cq0, cq1, cq1, cq1, cq1, cq1, xq0, xq1, xq2, false, false, false]).isEmpty && (Region.ready _ _ #[true, cq0, cq1, cq1, cq1, cq1, cq1, xq0, xq1, xq2, false, false, false]).all (fun i => ((i == 1 && !cq0) || ((i == 2 && (cq0 && !cq1)) || ((i == 7 && !xq0) || ((i == 8 && !xq1) || ((i == 9 && !xq2))))))))) = true from by intro cq0 cq1 xq0 xq1 xq2; cases cq0 <;> cases cq1 <;> cases xq0 <;> cases xq1 <;> cases xq2 <;> kernel_rfl) cq0 cq1 xq0 xq1 xq2) hbad (fun i hi => ?_)
        simp only [Bool.or_eq_true, Bool.and_eq_true, beq_iff_eq, Bool.not_eq_true'] at hi
        clear hall hbad
        rcases hi with ⟨rfl, rfl⟩ | ⟨rfl, rfl, rfl⟩ | ⟨rfl, rfl⟩ | ⟨rfl, rfl⟩ | ⟨rfl, rfl⟩
        · skip
          refine inv_arm (o := ⟨some 36, .call { callee := .value (.func 20), args := #[.const (Value.int IntKind.i64 28)], argTypes := #[3] }, 31, "law.go:78", #[], none⟩) rfl (fun K hK => ?_)
          go_simp
          go_wp2_with fail
          refine (N1.out _).mono ?_; rintro e u1 ⟨rfl, hb⟩
          replace hS := hS.trans (hb.mono hS.size)
          refine Shut.out hK _ _ hS (fun _ => ?_)
          clear hK K
          try simp only [Act.put, List.setIfInBounds_toArray, List.set_cons_zero, List.set_cons_succ]
          exact IH _ _ _ _ (by omega) ⟨true, cq1, xq0, xq1, xq2, _, v37, v34, v38, v39, v40, p7, p8, p9, sx, sg, sa, rfl, (by (try simp only [List.setIfInBounds_toArray, List.set_cons_zero, List.set_cons_succ]); try rfl), (by simp only [cond_true, cond_false] at hn ⊢; omega), (fun _ => rfl), hS, (fun _ => rfl), h38, h39, h40, (fun h => ⟨(ksx h).1, (ksx h).2.1, blk_below (ksx h).2.2 hb (blk_lt (ksx h).2.2)⟩), (fun h => ⟨(ksg h).1, (ksg h).2.1, blk_below (ksg h).2.2 hb (blk_lt (ksg h).2.2)⟩), (fun h => ⟨(ksa h).1, (ksa h).2.1, blk_below (ksa h).2.2 hb (blk_lt (ksa h).2.2)⟩)⟩
        · skip
          obtain rfl := h36 rfl
          refine inv_arm (o := ⟨some 37, .call { callee := .value (.func 9), args := #[.tmp 35, .tmp 36], argTypes := #[29, 31] }, 39, "law.go:78", #[⟨0, .data⟩, ⟨1, .data⟩, ⟨1, .chain⟩], none⟩) rfl (fun K hK => ?_)
          go_simp
          go_wp2_with fail
          refine (KC.out _).mono ?_; rintro e u2 ⟨rfl, hb⟩
          replace hS := hS.trans (hb.mono hS.size)
          obtain ⟨fu, rfl⟩ : ∃ m, fu = m + 4 := ⟨fu - 4, by simp only [cond_true, cond_false] at hn; omega⟩
          refine Shut.out hK _ _ hS (fun _ => ?_)
          clear hK K
          try simp only [Act.put, List.setIfInBounds_toArray, List.set_cons_zero, List.set_cons_succ]
          refine wpAnyH_take (i := 3) (oi := ⟨some 34, .move (.tmp 37), 39, "law.go:78", #[⟨2, .data⟩], none⟩) (v := ?_) rfl (by kernel_rfl) ((show ∀ xq0 xq1 xq2 : Bool, Region.free _ _ #[true, true, true, false, false, false, false, xq0, xq1, xq2, false, false, false] 3 = true from by intro xq0 xq1 xq2; cases xq0 <;> cases xq1 <;> cases xq2 <;> kernel_rfl) xq0 xq1 xq2) ((show ∀ xq0 xq1 xq2 : Bool, (Region.ready _ _ #[true, true, true, false, false, false, false, xq0, xq1, xq2, false, false, false]).contains 3 = true from by intro xq0 xq1 xq2; cases xq0 <;> cases xq1 <;> cases xq2 <;> kernel_rfl) xq0 xq1 xq2) (fun _ _ _ h => h) (Or.inl ⟨by rfl, ?_⟩) hS ?_
          rotate_left
          · intro wv _; go_simp; try with_reducible rfl
          try simp only [Act.put, List.setIfInBounds_toArray, List.set_cons_zero, List.set_cons_succ]
          refine wpAnyH_take (i := 4) (oi := ⟨some 38, .extract (.tmp 34) 0, 29, "law.go:78", #[⟨3, .data⟩], none⟩) (v := ?_) rfl (by kernel_rfl) ((show ∀ xq0 xq1 xq2 : Bool, Region.free _ _ #[true, true, true, true, false, false, false, xq0, xq1, xq2, false, false, false] 4 = true from by intro xq0 xq1 xq2; cases xq0 <;> cases xq1 <;> cases xq2 <;> kernel_rfl) xq0 xq1 xq2) ((show ∀ xq0 xq1 xq2 : Bool, (Region.ready _ _ #[true, true, true, true, false, false, false, xq0, xq1, xq2, false, false, false]).contains 4 = true from by intro xq0 xq1 xq2; cases xq0 <;> cases xq1 <;> cases xq2 <;> kernel_rfl) xq0 xq1 xq2) (fun _ _ _ h => h) (Or.inl ⟨by rfl, ?_⟩) hS ?_
          rotate_left
          · intro wv _; go_simp; try with_reducible rfl
          try simp only [Act.put, List.setIfInBounds_toArray, List.set_cons_zero, List.set_cons_succ]
          refine wpAnyH_take (i := 5) (oi := ⟨some 39, .extract (.tmp 34) 1, 31, "law.go:78", #[⟨3, .data⟩, ⟨10, .gcOnly .lateStores⟩], none⟩) (v := ?_) rfl (by kernel_rfl) ((show ∀ xq0 xq1 xq2 : Bool, Region.free _ _ #[true, true, true, true, true, false, false, xq0, xq1, xq2, false, false, false] 5 = true from by intro xq0 xq1 xq2; cases xq0 <;> cases xq1 <;> cases xq2 <;> kernel_rfl) xq0 xq1 xq2) ((show ∀ xq0 xq1 xq2 : Bool, (Region.ready _ _ #[true, true, true, true, true, false, false, xq0, xq1, xq2, false, false, false]).contains 5 = true from by intro xq0 xq1 xq2; cases xq0 <;> cases xq1 <;> cases xq2 <;> kernel_rfl) xq0 xq1 xq2) (fun _ _ _ h => h) (Or.inl ⟨by rfl, ?_⟩) hS ?_
          rotate_left
          · intro wv _; go_simp; try with_reducible rfl
          try simp only [Act.put, List.setIfInBounds_toArray, List.set_cons_zero, List.set_cons_succ]
          refine wpAnyH_take (i := 6) (oi := ⟨some 40, .extract (.tmp 34) 2, 38, "law.go:78", #[⟨3, .data⟩, ⟨11, .gcOnly .lateStores⟩], none⟩) (v := ?_) rfl (by kernel_rfl) ((show ∀ xq0 xq1 xq2 : Bool, Region.free _ _ #[true, true, true, true, true, true, false, xq0, xq1, xq2, false, false, false] 6 = true from by intro xq0 xq1 xq2; cases xq0 <;> cases xq1 <;> cases xq2 <;> kernel_rfl) xq0 xq1 xq2) ((show ∀ xq0 xq1 xq2 : Bool, (Region.ready _ _ #[true, true, true, true, true, true, false, xq0, xq1, xq2, false, false, false]).contains 6 = true from by intro xq0 xq1 xq2; cases xq0 <;> cases xq1 <;> cases xq2 <;> kernel_rfl) xq0 xq1 xq2) (fun _ _ _ h => h) (Or.inl ⟨by rfl, ?_⟩) hS ?_
          rotate_left
          · intro wv _; go_simp; try with_reducible rfl
          try simp only [Act.put, List.setIfInBounds_toArray, List.set_cons_zero, List.set_cons_succ]
          exact IH _ _ _ _ (by omega) ⟨true, true, xq0, xq1, xq2, _, _, _, _, _, _, p7, p8, p9, sx, sg, sa, rfl, (by (try simp only [List.setIfInBounds_toArray, List.set_cons_zero, List.set_cons_succ]); try rfl), (by simp only [cond_true, cond_false] at hn ⊢; omega), (fun _ => rfl), hS, (fun _ => rfl), (fun _ => rfl), (fun _ => rfl), (fun _ => rfl), (fun h => ⟨(ksx h).1, (ksx h).2.1, blk_below (ksx h).2.2 hb (blk_lt (ksx h).2.2)⟩), (fun h => ⟨(ksg h).1, (ksg h).2.1, blk_below (ksg h).2.2 hb (blk_lt (ksg h).2.2)⟩), (fun h => ⟨(ksa h).1, (ksa h).2.1, blk_below (ksa h).2.2 hb (blk_lt (ksa h).2.2)⟩)⟩
        · skip
          refine inv_arm (o := ⟨some 7, .alloc 29, 0, "law.go:78", #[], none⟩) rfl (fun K hK => ?_)
          go_simp
          have zs := hS.size
          have hb := (Below.refl u.heap.size u).alloc (Nat.le_refl _) (.cells #[.int .i64 0, .int .i64 0, .int .i64 0, .int .i64 0, .int .i64 0, .int .i64 0, .int .i64 0, .int .u32 0, .int .u32 0, .slice none 0 0, .slice none 0 0] 29)
          replace hS := hS.trans (hb.mono hS.size)
          refine Shut.out hK _ _ hS (fun _ => ?_)
          clear hK K
          try simp only [Act.put, List.setIfInBounds_toArray, List.set_cons_zero, List.set_cons_succ]
          exact IH _ _ _ _ (by omega) ⟨cq0, cq1, true, xq1, xq2, v36, v37, v34, v38, v39, v40, _, p8, p9, u.heap.size, sg, sa, rfl, (by (try simp only [List.setIfInBounds_toArray, List.set_cons_zero, List.set_cons_succ]); try rfl), (by simp only [cond_true, cond_false] at hn ⊢; omega), hc0, hS, h36, h38, h39, h40, (fun _ => ⟨rfl, zs, heap_alloc_new _ _⟩), (fun h => ⟨(ksg h).1, (ksg h).2.1, blk_below (ksg h).2.2 hb (blk_lt (ksg h).2.2)⟩), (fun h => ⟨(ksa h).1, (ksa h).2.1, blk_below (ksa h).2.2 hb (blk_lt (ksa h).2.2)⟩)⟩
        · skip
          refine inv_arm (o := ⟨some 8, .alloc 31, 0, "law.go:78", #[], none⟩) rfl (fun K hK => ?_)
          go_simp
          have zs := hS.size
          have hb := (Below.refl u.heap.size u).alloc (Nat.le_refl _) (.cells #[.int .i64 0, .int .i64 0, .int .i64 0, .int .i64 0, .int .i64 0, .int .i64 0, .bool false, .bool false, .int .i64 0, .bool false] 31)
          replace hS := hS.trans (hb.mono hS.size)
          refine Shut.out hK _ _ hS (fun _ => ?_)
          clear hK K
          try simp only [Act.put, List.setIfInBounds_toArray, List.set_cons_zero, List.set_cons_succ]
          exact IH _ _ _ _ (by omega) ⟨cq0, cq1, xq0, true, xq2, v36, v37, v34, v38, v39, v40, p7, _, p9, sx, u.heap.size, sa, rfl, (by (try simp only [List.setIfInBounds_toArray, List.set_cons_zero, List.set_cons_succ]); try rfl), (by simp only [cond_true, cond_false] at hn ⊢; omega), hc0, hS, h36, h38, h39, h40, (fun h => ⟨(ksx h).1, (ksx h).2.1, blk_below (ksx h).2.2 hb (blk_lt (ksx h).2.2)⟩), (fun _ => ⟨rfl, zs, heap_alloc_new _ _⟩), (fun h => ⟨(ksa h).1, (ksa h).2.1, blk_below (ksa h).2.2 hb (blk_lt (ksa h).2.2)⟩)⟩
        · skip
          refine inv_arm (o := ⟨some 9, .alloc 38, 0, "law.go:78", #[], none⟩) rfl (fun K hK => ?_)
          go_simp
          have zs := hS.size
          have hb := (Below.refl u.heap.size u).alloc (Nat.le_refl _) (.cells #[.bool false, .bool false, .bool false, .int .i64 0, .int .i64 0, .int .u64 0, .slice none 0 0] 38)
          replace hS := hS.trans (hb.mono hS.size)
          refine Shut.out hK _ _ hS (fun _ => ?_)
          clear hK K
          try simp only [Act.put, List.setIfInBounds_toArray, List.set_cons_zero, List.set_cons_succ]
          exact IH _ _ _ _ (by omega) ⟨cq0, cq1, xq0, xq1, true, v36, v37, v34, v38, v39, v40, p7, p8, _, sx, sg, u.heap.size, rfl, (by (try simp only [List.setIfInBounds_toArray, List.set_cons_zero, List.set_cons_succ]); try rfl), (by simp only [cond_true, cond_false] at hn ⊢; omega), hc0, hS, h36, h38, h39, h40, (fun h => ⟨(ksx h).1, (ksx h).2.1, blk_below (ksx h).2.2 hb (blk_lt (ksx h).2.2)⟩), (fun h => ⟨(ksg h).1, (ksg h).2.1, blk_below (ksg h).2.2 hb (blk_lt (ksg h).2.2)⟩), (fun _ => ⟨rfl, zs, heap_alloc_new _ _⟩)⟩
      simp only [Bool.and_eq_true] at hall
      obtain ⟨rfl, rfl, rfl, rfl, rfl⟩ := hall
      obtain rfl := h36 rfl
      obtain rfl := h38 rfl
      obtain rfl := h39 rfl
      obtain rfl := h40 rfl
      obtain ⟨rfl, gsx, Vsx⟩ := ksx rfl
      obtain ⟨rfl, gsg, Vsg⟩ := ksg rfl
      obtain ⟨rfl, gsa, Vsa⟩ := ksa rfl
      obtain ⟨fu, rfl⟩ : ∃ m, fu = m + 3 := ⟨fu - 3, by simp only [cond_true] at hn; omega⟩
      clear IH hn hc0
      have neo_x := Nat.ne_of_lt (Nat.lt_of_lt_of_le (blk_lt Vo.out) gsx)
      have neo_g := Nat.ne_of_lt (Nat.lt_of_lt_of_le (blk_lt Vo.out) gsg)
      have neo_a := Nat.ne_of_lt (Nat.lt_of_lt_of_le (blk_lt Vo.out) gsa)
      have nex_g : sx ≠ sg := blk_ne Vsx Vsg (by decide)
      have nex_a : sx ≠ sa := blk_ne Vsx Vsa (by decide)
      have neg_a : sg ≠ sa := blk_ne Vsg Vsa (by decide)
      have gex := Nat.le_trans HB.out.2 gsx
      have geg := Nat.le_trans HB.out.2 gsg
      have gea := Nat.le_trans HB.out.2 gsa
      replace Vo := Lib.hid (blk_below Vo.out hS (blk_lt Vo.out))
      replace HB := Lib.hid (And.intro (HB.out.1.trans (hS.mono HB.out.2)) (Nat.le_trans HB.out.2 hS.size))
      have Vx := Lib.hid Vsx
      clear Vsx
      have Vg := Lib.hid Vsg
      clear Vsg
      have Va := Lib.hid Vsa
      clear Vsa
      obtain ⟨w4, hw4⟩ : ∃ W, u.setCells (sx) 0 [.int .i64 2, .int .i64 0, .int .i64 0, .int .i64 0, .int .i64 0, .int .i64 y1, .int .i64 0, .int .u32 0, .int .u32 0, .slice none 0 0, .slice none 0 0] = W := ⟨_, rfl⟩
      have Vo2 := (hw4 ▸ heap_setCells_ne neo_x [.int .i64 2, .int .i64 0, .int .i64 0, .int .i64 0, .int .i64 0, .int .i64 y1, .int .i64 0, .int .u32 0, .int .u32 0, .slice none 0 0, .slice none 0 0] 0 u : w4.heap[so]? = _).trans Vo.out
      have Vg2 := (hw4 ▸ heap_setCells_ne nex_g.symm [.int .i64 2, .int .i64 0, .int .i64 0, .int .i64 0, .int .i64 0, .int .i64 y1, .int .i64 0, .int .u32 0, .int .u32 0, .slice none 0 0, .slice none 0 0] 0 u : w4.heap[sg]? = _).trans Vg.out
      have Va2 := (hw4 ▸ heap_setCells_ne nex_a.symm [.int .i64 2, .int .i64 0, .int .i64 0, .int .i64 0, .int .i64 0, .int .i64 y1, .int .i64 0, .int .u32 0, .int .u32 0, .slice none 0 0, .slice none 0 0] 0 u : w4.heap[sa]? = _).trans Va.out
      have Vx2 : w4.heap[sx]? = some (.cells #[.int .i64 2, .int .i64 0, .int .i64 0, .int .i64 0, .int .i64 0, .int .i64 y1, .int .i64 0, .int .u32 0, .int .u32 0, .slice none 0 0, .slice none 0 0] 29) := hw4 ▸ heap_setCells [.int .i64 2, .int .i64 0, .int .i64 0, .int .i64 0, .int .i64 0, .int .i64 y1, .int .i64 0, .int .u32 0, .int .u32 0, .slice none 0 0, .slice none 0 0] u [] [.int .i64 0, .int .i64 0, .int .i64 0, .int .i64 0, .int .i64 0, .int .i64 0, .int .i64 0, .int .u32 0, .int .u32 0, .slice none 0 0, .slice none 0 0] rfl Vx.out
      have hbb : Below _ _ w4 := hw4 ▸ below_setCells gex [.int .i64 2, .int .i64 0, .int .i64 0, .int .i64 0, .int .i64 0, .int .i64 y1, .int .i64 0, .int .u32 0, .int .u32 0, .slice none 0 0, .slice none 0 0] 0 u HB.out.1
      have hbs : w4.heap.size = u.heap.size := by rw [← hw4, size_setCells]
      have thx := Lib.hid (there_blk Vx.out (k := 11) rfl)
      replace Vo := Lib.hid Vo2
      clear Vo2
      replace Vx := Lib.hid Vx2
      clear Vx2
      replace Vg := Lib.hid Vg2
      clear Vg2
      replace Va := Lib.hid Va2
      clear Va2
      replace HB := Lib.hid (And.intro hbb (show _ ≤ w4.heap.size by rw [hbs]; exact HB.out.2))
      clear hbb hbs
      refine wpAnyH_ready (rs := [10]) (by kernel_rfl) (by simp) (AllReadyH.cons (o := ⟨none, .store 29 (.tmp 7) (.tmp 38), 0, "law.go:78", #[⟨7, .data⟩, ⟨4, .data⟩, ⟨2, .chain⟩, ⟨0, .phase⟩, ⟨1, .phase⟩, ⟨2, .phase⟩, ⟨3, .phase⟩, ⟨4, .phase⟩, ⟨5, .textOnly .lateStores⟩, ⟨6, .textOnly .lateStores⟩, ⟨7, .phase⟩, ⟨8, .phase⟩, ⟨9, .phase⟩], none⟩) rfl (fun K hK => ?_) AllReadyH.nil)
      refine op_storeS (by rfl) rfl rfl rfl thx.out (by kernel_rfl) (by simp [Value.oneCell']) hw4 ?_
      replace hS := hw4 ▸ below_setCells gsx [.int .i64 2, .int .i64 0, .int .i64 0, .int .i64 0, .int .i64 0, .int .i64 y1, .int .i64 0, .int .u32 0, .int .u32 0, .slice none 0 0, .slice none 0 0] 0 _ hS
      obtain ⟨w5, hw5⟩ : ∃ W, w4.setCells (sg) 0 [.int .i64 0, .int .i64 0, .int .i64 0, .int .i64 0, .int .i64 0, .int .i64 0, .bool false, .bool false, .int .i64 0, .bool false] = W := ⟨_, rfl⟩
      have Vo2 := (hw5 ▸ heap_setCells_ne neo_g [.int .i64 0, .int .i64 0, .int .i64 0, .int .i64 0, .int .i64 0, .int .i64 0, .bool false, .bool false, .int .i64 0, .bool false] 0 w4 : w5.heap[so]? = _).trans Vo.out
      have Vx2 := (hw5 ▸ heap_setCells_ne nex_g [.int .i64 0, .int .i64 0, .int .i64 0, .int .i64 0, .int .i64 0, .int .i64 0, .bool false, .bool false, .int .i64 0, .bool false] 0 w4 : w5.heap[sx]? = _).trans Vx.out
      have Va2 := (hw5 ▸ heap_setCells_ne neg_a.symm [.int .i64 0, .int .i64 0, .int .i64 0, .int .i64 0, .int .i64 0, .int .i64 0, .bool false, .bool false, .int .i64 0, .bool false] 0 w4 : w5.heap[sa]? = _).trans Va.out
      have Vg2 : w5.heap[sg]? = some (.cells #[.int .i64 0, .int .i64 0, .int .i64 0, .int .i64 0, .int .i64 0, .int .i64 0, .bool false, .bool false, .int .i64 0, .bool false] 31) := hw5 ▸ heap_setCells [.int .i64 0, .int .i64 0, .int .i64 0, .int .i64 0, .int .i64 0, .int .i64 0, .bool false, .bool false, .int .i64 0, .bool false] w4 [] [.int .i64 0, .int .i64 0, .int .i64 0, .int .i64 0, .int .i64 0, .int .i64 0, .bool false, .bool false, .int .i64 0, .bool false] rfl Vg.out
      have hbb : Below _ _ w5 := hw5 ▸ below_setCells geg [.int .i64 0, .int .i64 0, .int .i64 0, .int .i64 0, .int .i64 0, .int .i64 0, .bool false, .bool false, .int .i64 0, .bool false] 0 w4 HB.out.1
      have hbs : w5.heap.size = w4.heap.size := by rw [← hw5, size_setCells]
      have thg := Lib.hid (there_blk Vg.out (k := 10) rfl)
      replace Vo := Lib.hid Vo2
      clear Vo2
      replace Vx := Lib.hid Vx2
      clear Vx2
      replace Vg := Lib.hid Vg2
      clear Vg2
      replace Va := Lib.hid Va2
      clear Va2
      replace HB := Lib.hid (And.intro hbb (show _ ≤ w5.heap.size by rw [hbs]; exact HB.out.2))
      clear hbb hbs
      refine Shut.out hK _ _ hS (fun _ => ?_)
      clear hK K
      try simp only [Act.put, List.setIfInBounds_toArray, List.set_cons_zero, List.set_cons_succ]
      refine wpAnyH_ready (rs := [11]) (by kernel_rfl) (by simp) (AllReadyH.cons (o := ⟨none, .store 31 (.tmp 8) (.tmp 39), 0, "law.go:78", #[⟨8, .data⟩, ⟨5, .data⟩, ⟨10, .chain⟩, ⟨0, .phase⟩, ⟨1, .phase⟩, ⟨2, .phase⟩, ⟨3, .phase⟩, ⟨4, .phase⟩, ⟨5, .phase⟩, ⟨6, .textOnly .lateStores⟩, ⟨7, .phase⟩, ⟨8, .phase⟩, ⟨9, .phase⟩, ⟨10, .phase⟩], none⟩) rfl (fun K hK => ?_) AllReadyH.nil)
      refine op_storeS (by rfl) rfl rfl rfl thg.out (by kernel_rfl) (by simp [Value.oneCell']) hw5 ?_
      replace hS := hw5 ▸ below_setCells gsg [.int .i64 0, .int .i64 0, .int .i64 0, .int .i64 0, .int .i64 0, .int .i64 0, .bool false, .bool false, .int .i64 0, .bool false] 0 _ hS
      obtain ⟨w6, hw6⟩ : ∃ W, w5.setCells (sa) 0 [.bool true, .bool false, .bool false, .int .i64 0, .int .i64 0, .int .u64 0, .slice none 0 0] = W := ⟨_, rfl⟩
      have Vo2 := (hw6 ▸ heap_setCells_ne neo_a [.bool true, .bool false, .bool false, .int .i64 0, .int .i64 0, .int .u64 0, .slice none 0 0] 0 w5 : w6.heap[so]? = _).trans Vo.out
      have Vx2 := (hw6 ▸ heap_setCells_ne nex_a [.bool true, .bool false, .bool false, .int .i64 0, .int .i64 0, .int .u64 0, .slice none 0 0] 0 w5 : w6.heap[sx]? = _).trans Vx.out
      have Vg2 := (hw6 ▸ heap_setCells_ne neg_a [.bool true, .bool false, .bool false, .int .i64 0, .int .i64 0, .int .u64 0, .slice none 0 0] 0 w5 : w6.heap[sg]? = _).trans Vg.out
      have Va2 : w6.heap[sa]? = some (.cells #[.bool true, .bool false, .bool false, .int .i64 0, .int .i64 0, .int .u64 0, .slice none 0 0] 38) := hw6 ▸ heap_setCells [.bool true, .bool false, .bool false, .int .i64 0, .int .i64 0, .int .u64 0, .slice none 0 0] w5 [] [.bool false, .bool false, .bool false, .int .i64 0, .int .i64 0, .int .u64 0, .slice none 0 0] rfl Va.out
      have hbb : Below _ _ w6 := hw6 ▸ below_setCells gea [.bool true, .bool false, .bool false, .int .i64 0, .int .i64 0, .int .u64 0, .slice none 0 0] 0 w5 HB.out.1
      have hbs : w6.heap.size = w5.heap.size := by rw [← hw6, size_setCells]
      have tha := Lib.hid (there_blk Va.out (k := 7) rfl)
      replace Vo := Lib.hid Vo2
      clear Vo2
      replace Vx := Lib.hid Vx2
      clear Vx2
      replace Vg := Lib.hid Vg2
      clear Vg2
      replace Va := Lib.hid Va2
      clear Va2
      replace HB := Lib.hid (And.intro hbb (show _ ≤ w6.heap.size by rw [hbs]; exact HB.out.2))
      clear hbb hbs
      refine Shut.out hK _ _ hS (fun _ => ?_)
      clear hK K
      try simp only [Act.put, List.setIfInBounds_toArray, List.set_cons_zero, List.set_cons_succ]
      refine wpAnyH_ready (rs := [12]) (by kernel_rfl) (by simp) (AllReadyH.cons (o := ⟨none, .store 38 (.tmp 9) (.tmp 40), 0, "law.go:78", #[⟨9, .data⟩, ⟨6, .data⟩, ⟨11, .chain⟩, ⟨0, .phase⟩, ⟨1, .phase⟩, ⟨2, .phase⟩, ⟨3, .phase⟩, ⟨4, .phase⟩, ⟨5, .phase⟩, ⟨6, .phase⟩, ⟨7, .phase⟩, ⟨8, .phase⟩, ⟨9, .phase⟩, ⟨10, .phase⟩, ⟨11, .phase⟩], none⟩) rfl (fun K hK => ?_) AllReadyH.nil)
      refine op_storeS (by rfl) rfl rfl rfl tha.out (by kernel_rfl) (by simp [Value.oneCell']) hw6 ?_
      replace hS := hw6 ▸ below_setCells gsa [.bool true, .bool false, .bool false, .int .i64 0, .int .i64 0, .int .u64 0, .slice none 0 0] 0 _ hS
      refine Shut.out hK _ _ hS (fun _ => ?_)
      clear hK K
      try simp only [Act.put, List.setIfInBounds_toArray, List.set_cons_zero, List.set_cons_succ]
      refine wpAnyH_done (by kernel_rfl) ?_ _
      refine NoPanic.normal ?_
      clear hS gsx gsg gsa thx thg tha
      obtain ⟨ca0, ca1, ca2, ca3, ca4, ca5, ca6⟩ := row7 Va.out
      obtain ⟨cg0, cg1, cg2, cg3, cg4, cg5, cg6, cg7, cg8, cg9⟩ := row10 Vg.out
      obtain ⟨cx0, cx1, cx2, cx3, cx4, cx5, cx6, cx7, cx8, cx9, cx10⟩ := row11 Vx.out
      obtain ⟨pco0, pco1, pco2, pco3, pco4, pco5, pco6, pco7, pco8, pco9, pco10⟩ := row11 Vo.out
      obtain ⟨pfo0, pfo1, pfo2, pfo3, pfo4, pfo5, pfo6, pfo7, pfo8, pfo9, pfo10⟩ := frz11 Vo.out
      obtain ⟨w7, hw7⟩ : ∃ W, (((((((((((w6.setCell ⟨so, 0, none⟩ (.int .i64 2)).setCell ⟨so, 1, none⟩ (.int .i64 0)).setCell ⟨so, 2, none⟩ (.int .i64 0)).setCell ⟨so, 3, none⟩ (.int .i64 0)).setCell ⟨so, 4, none⟩ (.int .i64 0)).setCell ⟨so, 5, none⟩ (.int .i64 y1)).setCell ⟨so, 6, none⟩ (.int .i64 0)).setCell ⟨so, 7, none⟩ (.int .u32 0)).setCell ⟨so, 8, none⟩ (.int .u32 0)).setCell ⟨so, 9, none⟩ (.slice none 0 0)).setCell ⟨so, 10, none⟩ (.slice none 0 0)) = W := ⟨_, rfl⟩
      have hse : w6.setCells (so) 0 [.int .i64 2, .int .i64 0, .int .i64 0, .int .i64 0, .int .i64 0, .int .i64 y1, .int .i64 0, .int .u32 0, .int .u32 0, .slice none 0 0, .slice none 0 0] = w7 := hw7
      have Vx2 : w7.heap[sx]? = some (.cells #[.int .i64 2, .int .i64 0, .int .i64 0, .int .i64 0, .int .i64 0, .int .i64 y1, .int .i64 0, .int .u32 0, .int .u32 0, .slice none 0 0, .slice none 0 0] 29) := hse ▸ (heap_setCells_ne neo_x.symm [.int .i64 2, .int .i64 0, .int .i64 0, .int .i64 0, .int .i64 0, .int .i64 y1, .int .i64 0, .int .u32 0, .int .u32 0, .slice none 0 0, .slice none 0 0] 0 w6).trans Vx.out
      have Vg2 : w7.heap[sg]? = some (.cells #[.int .i64 0, .int .i64 0, .int .i64 0, .int .i64 0, .int .i64 0, .int .i64 0, .bool false, .bool false, .int .i64 0, .bool false] 31) := hse ▸ (heap_setCells_ne neo_g.symm [.int .i64 2, .int .i64 0, .int .i64 0, .int .i64 0, .int .i64 0, .int .i64 y1, .int .i64 0, .int .u32 0, .int .u32 0, .slice none 0 0, .slice none 0 0] 0 w6).trans Vg.out
      have Va2 : w7.heap[sa]? = some (.cells #[.bool true, .bool false, .bool false, .int .i64 0, .int .i64 0, .int .u64 0, .slice none 0 0] 38) := hse ▸ (heap_setCells_ne neo_a.symm [.int .i64 2, .int .i64 0, .int .i64 0, .int .i64 0, .int .i64 0, .int .i64 y1, .int .i64 0, .int .u32 0, .int .u32 0, .slice none 0 0, .slice none 0 0] 0 w6).trans Va.out
      have Vo2 : w7.heap[so]? = some (.cells #[.int .i64 2, .int .i64 0, .int .i64 0, .int .i64 0, .int .i64 0, .int .i64 y1, .int .i64 0, .int .u32 0, .int .u32 0, .slice none 0 0, .slice none 0 0] 29) := hse ▸ heap_setCells [.int .i64 2, .int .i64 0, .int .i64 0, .int .i64 0, .int .i64 0, .int .i64 y1, .int .i64 0, .int .u32 0, .int .u32 0, .slice none 0 0, .slice none 0 0] w6 [] [.int .i64 2, .int .i64 0, .int .i64 0, .int .i64 0, .int .i64 0, .int .i64 v, .int .i64 0, .int .u32 0, .int .u32 0, .slice none 0 0, .slice none 0 0] rfl Vo.out
      have hbb : Below _ _ w7 := hse ▸ below_setCells geo [.int .i64 2, .int .i64 0, .int .i64 0, .int .i64 0, .int .i64 0, .int .i64 y1, .int .i64 0, .int .u32 0, .int .u32 0, .slice none 0 0, .slice none 0 0] 0 w6 HB.out.1
      have hbs : w7.heap.size = w6.heap.size := by rw [← hse, size_setCells]
      replace Vo := Lib.hid Vo2
      clear Vo2
      replace Vx := Lib.hid Vx2
      clear Vx2
      replace Vg := Lib.hid Vg2
      clear Vg2
      replace Va := Lib.hid Va2
      clear Va2
      replace HB := Lib.hid (And.intro hbb (show _ ≤ w7.heap.size by rw [hbs]; exact HB.out.2))
      clear hbb hbs hse
      have i0 : (0 : Int) ≤ (i : Int) := by omega
      have i1 : (i : Int) < 256 := by have h := HI.out; omega
      go_wp2
      go_roundw
      case rel =>
        obtain ⟨q1, q2, q3, q4⟩ := HI.out
        exact ⟨i + 1, y1, by go_num, by omega, by omega, HB, Vo⟩
      case measure =>
        obtain ⟨q1, q2, q3, q4⟩ := HI.out
        simp [intOf]; omega
    · have c1 : decide ((i : Int) < (m : Int)) = false := by simp; omega
      have c1n : decide (i < m) = false := by simp; omega
      have hvm : v = (m : Int) := by omega
      clear hlt hi
      subst hvm
      have R1m := Lib.hid (R1.out (m : Int) hm0)
      clear hv
      obtain ⟨co0, co1, co2, co3, co4, co5, co6, co7, co8, co9, co10⟩ := row11 Vo.out
      go_wp2_with fail
      refine (R1m.out _).mono ?_
      rintro e w4 ⟨rfl, hb⟩
      clear co0 co1 co2 co3 co4 co5 co6 co7 co8 co9 co10
      replace Vo := Lib.hid (blk_below Vo.out hb (blk_lt Vo.out))
      replace HB := Lib.hid (And.intro (HB.out.1.trans (hb.mono HB.out.2)) (Nat.le_trans HB.out.2 hb.size))
      clear hb
      go_wp2
      go_loopw [12] (fun iv wr => ∃ (i : Nat) (v : Int), iv = .int .i64 (i : Int) ∧ i ≤ m ∧ v = (m : Int) - (i : Int) ∧ Hid (Below w.heap.size w wr ∧ w.heap.size ≤ wr.heap.size) ∧ Hid (wr.heap[so]? = some (.cells #[.int .i64 2, .int .i64 0, .int .i64 0, .int .i64 0, .int .i64 0, .int .i64 v, .int .i64 0, .int .u32 0, .int .u32 0, .slice none 0 0, .slice none 0 0] 29))) (fun iv _ => m - (intOf iv).toNat)
      case atStart => exact ⟨0, _, rfl, by omega, (by simp), HB, Vo⟩
      case round =>
        clear HB Vo
        obtain ⟨i, v, rfl, hi, hv, HB, Vo⟩ := hrel
        by_cases hlt : i < m
        · have c1 : decide ((i : Int) < (m : Int)) = true := by simpa using hlt
          have c1n : decide (i < m) = true := by simpa using hlt
          obtain ⟨y1, hu⟩ : ∃ y, y = v - 1 := ⟨_, rfl⟩
          have KC := Lib.hid (K2.out v y1 (by omega))
          have HI := Lib.hid (And.intro hlt (And.intro hv (And.intro hu hm1)))
          clear hlt hi hv hu
          go_wp2
          refine wp_region_noPanic ?_
          refine wp_region_held_drew (S := (fun wv => Below wr.heap.size wr wv)) (by kernel_rfl) ((Below.refl wr.heap.size wr).drew) (fun hS => ?_)
          refine wpAnyH_take (i := 0) (oi := ⟨some 69, .load 29 (.tmp 5), 29, "law.go:89", #[], none⟩) (v := .agg (([.int .i64 2, .int .i64 0, .int .i64 0, .int .i64 0, .int .i64 0, .int .i64 v, .int .i64 0, .int .u32 0, .int .u32 0, .slice none 0 0, .slice none 0 0] : List Value)).toArray) rfl (by kernel_rfl) (by kernel_rfl) (by kernel_rfl) (fun _ _ _ h => h) (yieldsIf_load_mid (by rfl) _ _ (by rfl) (so) (0) (by rfl) (([.int .i64 2, .int .i64 0, .int .i64 0, .int .i64 0, .int .i64 0, .int .i64 v, .int .i64 0, .int .u32 0, .int .u32 0, .slice none 0 0, .slice none 0 0] : List Value)) _ (fun wv hS => blk_rngl (blk_below Vo.out hS (blk_lt Vo.out))) Try.underlying29 (by rfl) (by kernel_rfl)) hS ?_
          try simp only [Act.put, List.setIfInBounds_toArray, List.set_cons_zero, List.set_cons_succ]
          refine inv_region (fun a0 fu listed a u => ∃ (cq0 cq1 xq0 xq1 xq2 : Bool) (v70 v71 v68 v72 v73 v74 p13 p14 p15 : Value) (sx sg sa : Nat), listed = #[true, cq0, cq1, cq1, cq1, cq1, cq1, xq0, xq1, xq2, false, false, false] ∧ a = ⟨(((((((((a0.tmps.setIfInBounds 70 v70).setIfInBounds 71 v71).setIfInBounds 68 v68).setIfInBounds 72 v72).setIfInBounds 73 v73).setIfInBounds 74 v74).setIfInBounds 13 p13).setIfInBounds 14 p14).setIfInBounds 15 p15), a0.defers⟩ ∧ (bif cq0 then 0 else 1) + (bif cq1 then 0 else 5) + (bif xq0 then 0 else 1) + (bif xq1 then 0 else 1) + (bif xq2 then 0 else 1) + 3 ≤ fu ∧ (cq1 = true → cq0 = true) ∧ Below wr.heap.size wr u ∧ (cq0 = true → v70 = .agg #[.int .i64 29, .int .i64 0, .int .i64 0, .int .i64 0, .int .i64 (-1), .int .i64 0, .bool false, .bool false, .int .i64 0, .bool false]) ∧ (cq1 = true → v72 = .agg #[.int .i64 2, .int .i64 0, .int .i64 0, .int .i64 0, .int .i64 0, .int .i64 y1, .int .i64 0, .int .u32 0, .int .u32 0, .slice none 0 0, .slice none 0 0]) ∧ (cq1 = true → v73 = .agg #[.int .i64 0, .int .i64 0, .int .i64 0, .int .i64 0, .int .i64 0, .int .i64 0, .bool false, .bool false, .int .i64 0, .bool false]) ∧ (cq1 = true → v74 = .agg #[.bool true, .bool false, .bool false, .int .i64 0, .int .i64 0, .int .u64 0, .slice none 0 0]) ∧ (xq0 = true → p13 = .pointer (some ⟨sx, 0, none⟩) ∧ wr.heap.size ≤ sx ∧ u.heap[sx]? = some (.cells #[.int .i64 0, .int .i64 0, .int .i64 0, .int .i64 0, .int .i64 0, .int .i64 0, .int .i64 0, .int .u32 0, .int .u32 0, .slice none 0 0, .slice none 0 0] 29)) ∧ (xq1 = true → p14 = .pointer (some ⟨sg, 0, none⟩) ∧ wr.heap.size ≤ sg ∧ u.heap[sg]? = some (.cells #[.int .i64 0, .int .i64 0, .int .i64 0, .int .i64 0, .int .i64 0, .int .i64 0, .bool false, .bool false, .int .i64 0, .bool false] 31)) ∧ (xq2 = true → p15 = .pointer (some ⟨sa, 0, none⟩) ∧ wr.heap.size ≤ sa ∧ u.heap[sa]? = some (.cells #[.bool false, .bool false, .bool false, .int .i64 0, .int .i64 0, .int .u64 0, .slice none 0 0] 38))) ⟨false, false, false, false, false, u70, u71, u68, u72, u73, u74, u13, u14, u15, 0, 0, 0, rfl, (by first | (simp only [List.setIfInBounds_toArray, List.set_cons_zero, List.set_cons_succ]; done) | rfl), (by show _ + _ ≤ _; decide), (fun h => nomatch h), hS, (fun h => nomatch h), (fun h => nomatch h), (fun h => nomatch h), (fun h => nomatch h), (fun h => nomatch h), (fun h => nomatch h), (fun h => nomatch h)⟩ ?_
          clear hS; rintro fu listed a u ⟨cq0, cq1, xq0, xq1, xq2, v70, v71, v68, v72, v73, v74, p13, p14, p15, sx, sg, sa, rfl, rfl, hn, hc0, hS, h70, h72, h73, h74, ksx, ksg, ksa⟩ IH
          try simp only [List.setIfInBounds_toArray, List.set_cons_zero, List.set_cons_succ]
          by_cases hall : (cq0 && (cq1 && (xq0 && (xq1 && (xq2))))) = true
          rotate_left
          · have hbad : ((cq1 && !cq0) || ((cq0 && (cq1 && (xq0 && (xq1 && (xq2))))))) = false := inv_or (inv_imp hc0) (inv_not hall)
            obtain ⟨fu, rfl⟩ : ∃ m, fu = m + 1 := ⟨fu - 1, by omega⟩
            refine inv_step (bad := ((cq1 && !cq0) || ((cq0 && (cq1 && (xq0 && (xq1 && (xq2)))))))) (fun i => ((i == 1 && !cq0) || ((i == 2 && (cq0 && !cq1)) || ((i == 7 && !xq0) || ((i == 8 && !xq1) || ((i == 9 && !xq2))))))) ((show ∀ cq0 cq1 xq0 xq1 xq2 : Bool, (((cq1 && !cq0) || ((cq0 && (cq1 && (xq0 && (xq1 && (xq2))))))) || (!(Region.ready _ _ #[true, cq0, cq1, cq1, cq1, cq1, cq1, xq0, xq1, xq2, false, false, false]).isEmpty && (Region.ready _ _ #[true, cq0, cq1, cq1, cq1, cq1, cq1, xq0, xq1, xq2, false, false, false]).all (fun i => ((i == 1 && !cq0) || ((i == 2 && (cq0 && !cq1)) || ((i == 7 && !xq0) || ((i == 8 && !xq1) || ((i == 9 && !xq2))))))))) = true from by intro cq0 cq1 xq0 xq1 xq2; cases cq0 <;> cases cq1 <;> cases xq0 <;> cases xq1 <;> cases xq2 <;> kernel_rfl) cq0 cq1 xq0 xq1 xq2) hbad (fun i hi => ?_)
            simp only [Bool.or_eq_true, Bool.and_eq_true, beq_iff_eq, Bool.not_eq_true'] at hi
            clear hall hbad
            rcases hi with ⟨rfl, rfl⟩ | ⟨rfl, rfl, rfl⟩ | ⟨rfl, rfl⟩ | ⟨rfl, rfl⟩ | ⟨rfl, rfl⟩
            · skip
              refine inv_arm (o := ⟨some 70, .call { callee := .value (.func 20), args := #[.const (Value.int IntKind.i64 29)], argTypes := #[3] }, 31, "law.go:89", #[], none⟩) rfl (fun K hK => ?_)
              go_simp
              go_wp2_with fail
              refine (N3.out _).mono ?_; rintro e u1 ⟨rfl, hb⟩
              replace hS := hS.trans (hb.mono hS.size)
              refine Shut.out hK _ _ hS (fun _ => ?_)
              clear hK K
              try simp only [Act.put, List.setIfInBounds_toArray, List.set_cons_zero, List.set_cons_succ]
              exact IH _ _ _ _ (by omega) ⟨true, cq1, xq0, xq1, xq2, _, v71, v68, v72, v73, v74, p13, p14, p15, sx, sg, sa, rfl, (by (try simp only [List.setIfInBounds_toArray, List.set_cons_zero, List.set_cons_succ]); try rfl), (by simp only [cond_true, cond_false] at hn ⊢; omega), (fun _ => rfl), hS, (fun _ => rfl), h72, h73, h74, (fun h => ⟨(ksx h).1, (ksx h).2.1, blk_below (ksx h).2.2 hb (blk_lt (ksx h).2.2)⟩), (fun h => ⟨(ksg h).1, (ksg h).2.1, blk_below (ksg h).2.2 hb (blk_lt (ksg h).2.2)⟩), (fun h => ⟨(ksa h).1, (ksa h).2.1, blk_below (ksa h).2.2 hb (blk_lt (ksa h).2.2)⟩)⟩
            · skip
              obtain rfl := h70 rfl
              refine inv_arm (o := ⟨some 71, .call { callee := .value (.func 11), args := #[.tmp 69, .tmp 70], argTypes := #[29, 31] }, 39, "law.go:89", #[⟨0, .data⟩, ⟨1, .data⟩, ⟨1, .chain⟩], none⟩) rfl (fun K hK => ?_)
              go_simp
              go_wp2_with fail
              refine (KC.out _).mono ?_; rintro e u2 ⟨rfl, hb⟩
              replace hS := hS.trans (hb.mono hS.size)
              obtain ⟨fu, rfl⟩ : ∃ m, fu = m + 4 := ⟨fu - 4, by simp only [cond_true, cond_false] at hn; omega⟩
              refine Shut.out hK _ _ hS (fun _ => ?_)
              clear hK K
              try simp only [Act.put, List.setIfInBounds_toArray, List.set_cons_zero, List.set_cons_succ]
              refine wpAnyH_take (i := 3) (oi := ⟨some 68, .move (.tmp 71), 39, "law.go:89", #[⟨2, .data⟩], none⟩) (v := ?_) rfl (by kernel_rfl) ((show ∀ xq0 xq1 xq2 : Bool, Region.free _ _ #[true, true, true, false, false, false, false, xq0, xq1, xq2, false, false, false] 3 = true from by intro xq0 xq1 xq2; cases xq0 <;> cases xq1 <;> cases xq2 <;> kernel_rfl) xq0 xq1 xq2) ((show ∀ xq0 xq1 xq2 : Bool, (Region.ready _ _ #[true, true, true, false, false, false, false, xq0, xq1, xq2, false, false, false]).contains 3 = true from by intro xq0 xq1 xq2; cases xq0 <;> cases xq1 <;> cases xq2 <;> kernel_rfl) xq0 xq1 xq2) (fun _ _ _ h => h) (Or.inl ⟨by rfl, ?_⟩) hS ?_
              rotate_left
              · intro wv _; go_simp; try with_reducible rfl
              try simp only [Act.put, List.setIfInBounds_toArray, List.set_cons_zero, List.set_cons_succ]
              refine wpAnyH_take (i := 4) (oi := ⟨some 72, .extract (.tmp 68) 0, 29, "law.go:89", #[⟨3, .data⟩], none⟩) (v := ?_) rfl (by kernel_rfl) ((show ∀ xq0 xq1 xq2 : Bool, Region.free _ _ #[true, true, true, true, false, false, false, xq0, xq1, xq2, false, false, false] 4 = true from by intro xq0 xq1 xq2; cases xq0 <;> cases xq1 <;> cases xq2 <;> kernel_rfl) xq0 xq1 xq2) ((show ∀ xq0 xq1 xq2 : Bool, (Region.ready _ _ #[true, true, true, true, false, false, false, xq0, xq1, xq2, false, false, false]).contains 4 = true from by intro xq0 xq1 xq2; cases xq0 <;> cases xq1 <;> cases xq2 <;> kernel_rfl) xq0 xq1 xq2) (fun _ _ _ h => h) (Or.inl ⟨by rfl, ?_⟩) hS ?_
              rotate_left
              · intro wv _; go_simp; try with_reducible rfl
              try simp only [Act.put, List.setIfInBounds_toArray, List.set_cons_zero, List.set_cons_succ]
              refine wpAnyH_take (i := 5) (oi := ⟨some 73, .extract (.tmp 68) 1, 31, "law.go:89", #[⟨3, .data⟩, ⟨10, .gcOnly .lateStores⟩], none⟩) (v := ?_) rfl (by kernel_rfl) ((show ∀ xq0 xq1 xq2 : Bool, Region.free _ _ #[true, true, true, true, true, false, false, xq0, xq1, xq2, false, false, false] 5 = true from by intro xq0 xq1 xq2; cases xq0 <;> cases xq1 <;> cases xq2 <;> kernel_rfl) xq0 xq1 xq2) ((show ∀ xq0 xq1 xq2 : Bool, (Region.ready _ _ #[true, true, true, true, true, false, false, xq0, xq1, xq2, false, false, false]).contains 5 = true from by intro xq0 xq1 xq2; cases xq0 <;> cases xq1 <;> cases xq2 <;> kernel_rfl) xq0 xq1 xq2) (fun _ _ _ h => h) (Or.inl ⟨by rfl, ?_⟩) hS ?_
              rotate_left
              · intro wv _; go_simp; try with_reducible rfl
              try simp only [Act.put, List.setIfInBounds_toArray, List.set_cons_zero, List.set_cons_succ]
              refine wpAnyH_take (i := 6) (oi := ⟨some 74, .extract (.tmp 68) 2, 38, "law.go:89", #[⟨3, .data⟩, ⟨11, .gcOnly .lateStores⟩], none⟩) (v := ?_) rfl (by kernel_rfl) ((show ∀ xq0 xq1 xq2 : Bool, Region.free _ _ #[true, true, true, true, true, true, false, xq0, xq1, xq2, false, false, false] 6 = true from by intro xq0 xq1 xq2; cases xq0 <;> cases xq1 <;> cases xq2 <;> kernel_rfl) xq0 xq1 xq2) ((show ∀ xq0 xq1 xq2 : Bool, (Region.ready _ _ #[true, true, true, true, true, true, false, xq0, xq1, xq2, false, false, false]).contains 6 = true from by intro xq0 xq1 xq2; cases xq0 <;> cases xq1 <;> cases xq2 <;> kernel_rfl) xq0 xq1 xq2) (fun _ _ _ h => h) (Or.inl ⟨by rfl, ?_⟩) hS ?_
              rotate_left
              · intro wv _; go_simp; try with_reducible rfl
              try simp only [Act.put, List.setIfInBounds_toArray, List.set_cons_zero, List.set_cons_succ]
              exact IH _ _ _ _ (by omega) ⟨true, true, xq0, xq1, xq2, _, _, _, _, _, _, p13, p14, p15, sx, sg, sa, rfl, (by (try simp only [List.setIfInBounds_toArray, List.set_cons_zero, List.set_cons_succ]); try rfl), (by simp only [cond_true, cond_false] at hn ⊢; omega), (fun _ => rfl), hS, (fun _ => rfl), (fun _ => rfl), (fun _ => rfl), (fun _ => rfl), (fun h => ⟨(ksx h).1, (ksx h).2.1, blk_below (ksx h).2.2 hb (blk_lt (ksx h).2.2)⟩), (fun h => ⟨(ksg h).1, (ksg h).2.1, blk_below (ksg h).2.2 hb (blk_lt (ksg h).2.2)⟩), (fun h => ⟨(ksa h).1, (ksa h).2.1, blk_below (ksa h).2.2 hb (blk_lt (ksa h).2.2)⟩)⟩
            · skip
              refine inv_arm (o := ⟨some 13, .alloc 29, 0, "law.go:89", #[], none⟩) rfl (fun K hK => ?_)
              go_simp
              have zs := hS.size
              have hb := (Below.refl u.heap.size u).alloc (Nat.le_refl _) (.cells #[.int .i64 0, .int .i64 0, .int .i64 0, .int .i64 0, .int .i64 0, .int .i64 0, .int .i64 0, .int .u32 0, .int .u32 0, .slice none 0 0, .slice none 0 0] 29)
              replace hS := hS.trans (hb.mono hS.size)
              refine Shut.out hK _ _ hS (fun _ => ?_)
              clear hK K
              try simp only [Act.put, List.setIfInBounds_toArray, List.set_cons_zero, List.set_cons_succ]
              exact IH _ _ _ _ (by omega) ⟨cq0, cq1, true, xq1, xq2, v70, v71, v68, v72, v73, v74, _, p14, p15, u.heap.size, sg, sa, rfl, (by (try simp only [List.setIfInBounds_toArray, List.set_cons_zero, List.set_cons_succ]); try rfl), (by simp only [cond_true, cond_false] at hn ⊢; omega), hc0, hS, h70, h72, h73, h74, (fun _ => ⟨rfl, zs, heap_alloc_new _ _⟩), (fun h => ⟨(ksg h).1, (ksg h).2.1, blk_below (ksg h).2.2 hb (blk_lt (ksg h).2.2)⟩), (fun h => ⟨(ksa h).1, (ksa h).2.1, blk_below (ksa h).2.2 hb (blk_lt (ksa h).2.2)⟩)⟩
            · skip
              refine inv_arm (o := ⟨some 14, .alloc 31, 0, "law.go:89", #[], none⟩) rfl (fun K hK => ?_)
              go_simp
              have zs := hS.size
              have hb := (Below.refl u.heap.size u).alloc (Nat.le_refl _) (.cells #[.int .i64 0, .int .i64 0, .int .i64 0, .int .i64 0, .int .i64 0, .int .i64 0, .bool false, .bool false, .int .i64 0, .bool false] 31)
              replace hS := hS.trans (hb.mono hS.size)
              refine Shut.out hK _ _ hS (fun _ => ?_)
              clear hK K
              try simp only [Act.put, List.setIfInBounds_toArray, List.set_cons_zero, List.set_cons_succ]
              exact IH _ _ _ _ (by omega) ⟨cq0, cq1, xq0, true, xq2, v70, v71, v68, v72, v73, v74, p13, _, p15, sx, u.heap.size, sa, rfl, (by (try simp only [List.setIfInBounds_toArray, List.set_cons_zero, List.set_cons_succ]); try rfl), (by simp only [cond_true, cond_false] at hn ⊢; omega), hc0, hS, h70, h72, h73, h74, (fun h => ⟨(ksx h).1, (ksx h).2.1, blk_below (ksx h).2.2 hb (blk_lt (ksx h).2.2)⟩), (fun _ => ⟨rfl, zs, heap_alloc_new _ _⟩), (fun h => ⟨(ksa h).1, (ksa h).2.1, blk_below (ksa h).2.2 hb (blk_lt (ksa h).2.2)⟩)⟩
            · skip
              refine inv_arm (o := ⟨some 15, .alloc 38, 0, "law.go:89", #[], none⟩) rfl (fun K hK => ?_)
              go_simp
              have zs := hS.size
              have hb := (Below.refl u.heap.size u).alloc (Nat.le_refl _) (.cells #[.bool false, .bool false, .bool false, .int .i64 0, .int .i64 0, .int .u64 0, .slice none 0 0] 38)
              replace hS := hS.trans (hb.mono hS.size)
              refine Shut.out hK _ _ hS (fun _ => ?_)
              clear hK K
              try simp only [Act.put, List.setIfInBounds_toArray, List.set_cons_zero, List.set_cons_succ]
              exact IH _ _ _ _ (by omega) ⟨cq0, cq1, xq0, xq1, true, v70, v71, v68, v72, v73, v74, p13, p14, _, sx, sg, u.heap.size, rfl, (by (try simp only [List.setIfInBounds_toArray, List.set_cons_zero, List.set_cons_succ]); try rfl), (by simp only [cond_true, cond_false] at hn ⊢; omega), hc0, hS, h70, h72, h73, h74, (fun h => ⟨(ksx h).1, (ksx h).2.1, blk_below (ksx h).2.2 hb (blk_lt (ksx h).2.2)⟩), (fun h => ⟨(ksg h).1, (ksg h).2.1, blk_below (ksg h).2.2 hb (blk_lt (ksg h).2.2)⟩), (fun _ => ⟨rfl, zs, heap_alloc_new _ _⟩)⟩
          simp only [Bool.and_eq_true] at hall
          obtain ⟨rfl, rfl, rfl, rfl, rfl⟩ := hall
          obtain rfl := h70 rfl
          obtain rfl := h72 rfl
          obtain rfl := h73 rfl
          obtain rfl := h74 rfl
          obtain ⟨rfl, gsx, Vsx⟩ := ksx rfl
          obtain ⟨rfl, gsg, Vsg⟩ := ksg rfl
          obtain ⟨rfl, gsa, Vsa⟩ := ksa rfl
          obtain ⟨fu, rfl⟩ : ∃ m, fu = m + 3 := ⟨fu - 3, by simp only [cond_true] at hn; omega⟩
          clear IH hn hc0
          have neo_x := Nat.ne_of_lt (Nat.lt_of_lt_of_le (blk_lt Vo.out) gsx)
          have neo_g := Nat.ne_of_lt (Nat.lt_of_lt_of_le (blk_lt Vo.out) gsg)
          have neo_a := Nat.ne_of_lt (Nat.lt_of_lt_of_le (blk_lt Vo.out) gsa)
          have nex_g : sx ≠ sg := blk_ne Vsx Vsg (by decide)
          have nex_a : sx ≠ sa := blk_ne Vsx Vsa (by decide)
          have neg_a : sg ≠ sa := blk_ne Vsg Vsa (by decide)
          have gex := Nat.le_trans HB.out.2 gsx
          have geg := Nat.le_trans HB.out.2 gsg
          have gea := Nat.le_trans HB.out.2 gsa
          replace Vo := Lib.hid (blk_below Vo.out hS (blk_lt Vo.out))
          replace HB := Lib.hid (And.intro (HB.out.1.trans (hS.mono HB.out.2)) (Nat.le_trans HB.out.2 hS.size))
          have Vx := Lib.hid Vsx
          clear Vsx
          have Vg := Lib.hid Vsg
          clear Vsg
          have Va := Lib.hid Vsa
          clear Vsa
          obtain ⟨w5, hw5⟩ : ∃ W, u.setCells (sx) 0 [.int .i64 2, .int .i64 0, .int .i64 0, .int .i64 0, .int .i64 0, .int .i64 y1, .int .i64 0, .int .u32 0, .int .u32 0, .slice none 0 0, .slice none 0 0] = W := ⟨_, rfl⟩
          have Vo2 := (hw5 ▸ heap_setCells_ne neo_x [.int .i64 2, .int .i64 0, .int .i64 0, .int .i64 0, .int .i64 0, .int .i64 y1, .int .i64 0, .int .u32 0, .int .u32 0, .slice none 0 0, .slice none 0 0] 0 u : w5.heap[so]? = _).trans Vo.out
          have Vg2 := (hw5 ▸ heap_setCells_ne nex_g.symm [.int .i64 2, .int .i64 0, .int .i64 0, .int .i64 0, .int .i64 0, .int .i64 y1, .int .i64 0, .int .u32 0, .int .u32 0, .slice none 0 0, .slice none 0 0] 0 u : w5.heap[sg]? = _).trans Vg.out
          have Va2 := (hw5 ▸ heap_setCells_ne nex_a.symm [.int .i64 2, .int .i64 0, .int .i64 0, .int .i64 0, .int .i64 0, .int .i64 y1, .int .i64 0, .int .u32 0, .int .u32 0, .slice none 0 0, .slice none 0 0] 0 u : w5.heap[sa]? = _).trans Va.out
          have Vx2 : w5.heap[sx]? = some (.cells #[.int .i64 2, .int .i64 0, .int .i64 0, .int .i64 0, .int .i64 0, .int .i64 y1, .int .i64 0, .int .u32 0, .int .u32 0, .slice none 0 0, .slice none 0 0] 29) := hw5 ▸ heap_setCells [.int .i64 2, .int .i64 0, .int .i64 0, .int .i64 0, .int .i64 0, .int .i64 y1, .int .i64 0, .int .u32 0, .int .u32 0, .slice none 0 0, .slice none 0 0] u [] [.int .i64 0, .int .i64 0, .int .i64 0, .int .i64 0, .int .i64 0, .int .i64 0, .int .i64 0, .int .u32 0, .int .u32 0, .slice none 0 0, .slice none 0 0] rfl Vx.out
          have hbb : Below _ _ w5 := hw5 ▸ below_setCells gex [.int .i64 2, .int .i64 0, .int .i64 0, .int .i64 0, .int .i64 0, .int .i64 y1, .int .i64 0, .int .u32 0, .int .u32 0, .slice none 0 0, .slice none 0 0] 0 u HB.out.1
          have hbs : w5.heap.size = u.heap.size := by rw [← hw5, size_setCells]
          have thx := Lib.hid (there_blk Vx.out (k := 11) rfl)
          replace Vo := Lib.hid Vo2
          clear Vo2
          replace Vx := Lib.hid Vx2
          clear Vx2
          replace Vg := Lib.hid Vg2
          clear Vg2
          replace Va := Lib.hid Va2
          clear Va2
          replace HB := Lib.hid (And.intro hbb (show _ ≤ w5.heap.size by rw [hbs]; exact HB.out.2))
          clear hbb hbs
          refine wpAnyH_ready (rs := [10]) (by kernel_rfl) (by simp) (AllReadyH.cons (o := ⟨none, .store 29 (.tmp 13) (.tmp 72), 0, "law.go:89", #[⟨7, .data⟩, ⟨4, .data⟩, ⟨2, .chain⟩, ⟨0, .phase⟩, ⟨1, .phase⟩, ⟨2, .phase⟩, ⟨3, .phase⟩, ⟨4, .phase⟩, ⟨5, .textOnly .lateStores⟩, ⟨6, .textOnly .lateStores⟩, ⟨7, .phase⟩, ⟨8, .phase⟩, ⟨9, .phase⟩], none⟩) rfl (fun K hK => ?_) AllReadyH.nil)
          refine op_storeS (by rfl) rfl rfl rfl thx.out (by kernel_rfl) (by simp [Value.oneCell']) hw5 ?_
          replace hS := hw5 ▸ below_setCells gsx [.int .i64 2, .int .i64 0, .int .i64 0, .int .i64 0, .int .i64 0, .int .i64 y1, .int .i64 0, .int .u32 0, .int .u32 0, .slice none 0 0, .slice none 0 0] 0 _ hS
          obtain ⟨w6, hw6⟩ : ∃ W, w5.setCells (sg) 0 [.int .i64 0, .int .i64 0, .int .i64 0, .int .i64 0, .int .i64 0, .int .i64 0, .bool false, .bool false, .int .i64 0, .bool false] = W := ⟨_, rfl⟩
          have Vo2 := (hw6 ▸ heap_setCells_ne neo_g [.int .i64 0, .int .i64 0, .int .i64 0, .int .i64 0, .int .i64 0, .int .i64 0, .bool false, .bool false, .int .i64 0, .bool false] 0 w5 : w6.heap[so]? = _).trans Vo.out
          have Vx2 := (hw6 ▸ heap_setCells_ne nex_g [.int .i64 0, .int .i64 0, .int .i64 0, .int .i64 0, .int .i64 0, .int .i64 0, .bool false, .bool false, .int .i64 0, .bool false] 0 w5 : w6.heap[sx]? = _).trans Vx.out
          have Va2 := (hw6 ▸ heap_setCells_ne neg_a.symm [.int .i64 0, .int .i64 0, .int .i64 0, .int .i64 0, .int .i64 0, .int .i64 0, .bool false, .bool false, .int .i64 0, .bool false] 0 w5 : w6.heap[sa]? = _).trans Va.out
          have Vg2 : w6.heap[sg]? = some (.cells #[.int .i64 0, .int .i64 0, .int .i64 0, .int .i64 0, .int .i64 0, .int .i64 0, .bool false, .bool false, .int .i64 0, .bool false] 31) := hw6 ▸ heap_setCells [.int .i64 0, .int .i64 0, .int .i64 0, .int .i64 0, .int .i64 0, .int .i64 0, .bool false, .bool false, .int .i64 0, .bool false] w5 [] [.int .i64 0, .int .i64 0, .int .i64 0, .int .i64 0, .int .i64 0, .int .i64 0, .bool false, .bool false, .int .i64 0, .bool false] rfl Vg.out
          have hbb : Below _ _ w6 := hw6 ▸ below_setCells geg [.int .i64 0, .int .i64 0, .int .i64 0, .int .i64 0, .int .i64 0, .int .i64 0, .bool false, .bool false, .int .i64 0, .bool false] 0 w5 HB.out.1
          have hbs : w6.heap.size = w5.heap.size := by rw [← hw6, size_setCells]
          have thg := Lib.hid (there_blk Vg.out (k := 10) rfl)
          replace Vo := Lib.hid Vo2
          clear Vo2
          replace Vx := Lib.hid Vx2
          clear Vx2
          replace Vg := Lib.hid Vg2
          clear Vg2
          replace Va := Lib.hid Va2
          clear Va2
          replace HB := Lib.hid (And.intro hbb (show _ ≤ w6.heap.size by rw [hbs]; exact HB.out.2))
          clear hbb hbs
          refine Shut.out hK _ _ hS (fun _ => ?_)
          clear hK K
          try simp only [Act.put, List.setIfInBounds_toArray, List.set_cons_zero, List.set_cons_succ]
          refine wpAnyH_ready (rs := [11]) (by kernel_rfl) (by simp) (AllReadyH.cons (o := ⟨none, .store 31 (.tmp 14) (.tmp 73), 0, "law.go:89", #[⟨8, .data⟩, ⟨5, .data⟩, ⟨10, .chain⟩, ⟨0, .phase⟩, ⟨1, .phase⟩, ⟨2, .phase⟩, ⟨3, .phase⟩, ⟨4, .phase⟩, ⟨5, .phase⟩, ⟨6, .textOnly .lateStores⟩, ⟨7, .phase⟩, ⟨8, .phase⟩, ⟨9, .phase⟩, ⟨10, .phase⟩], none⟩) rfl (fun K hK => ?_) AllReadyH.nil)
          refine op_storeS (by rfl) rfl rfl rfl thg.out (by kernel_rfl) (by simp [Value.oneCell']) hw6 ?_
          replace hS := hw6 ▸ below_setCells gsg [.int .i64 0, .int .i64 0, .int .i64 0, .int .i64 0, .int .i64 0, .int .i64 0, .bool false, .bool false, .int .i64 0, .bool false] 0 _ hS
          obtain ⟨w7, hw7⟩ : ∃ W, w6.setCells (sa) 0 [.bool true, .bool false, .bool false, .int .i64 0, .int .i64 0, .int .u64 0, .slice none 0 0] = W := ⟨_, rfl⟩
          have Vo2 := (hw7 ▸ heap_setCells_ne neo_a [.bool true, .bool false, .bool false, .int .i64 0, .int .i64 0, .int .u64 0, .slice none 0 0] 0 w6 : w7.heap[so]? = _).trans Vo.out
          have Vx2 := (hw7 ▸ heap_setCells_ne nex_a [.bool true, .bool false, .bool false, .int .i64 0, .int .i64 0, .int .u64 0, .slice none 0 0] 0 w6 : w7.heap[sx]? = _).trans Vx.out
          have Vg2 := (hw7 ▸ heap_setCells_ne neg_a [.bool true, .bool false, .bool false, .int .i64 0, .int .i64 0, .int .u64 0, .slice none 0 0] 0 w6 : w7.heap[sg]? = _).trans Vg.out
          have Va2 : w7.heap[sa]? = some (.cells #[.bool true, .bool false, .bool false, .int .i64 0, .int .i64 0, .int .u64 0, .slice none 0 0] 38) := hw7 ▸ heap_setCells [.bool true, .bool false, .bool false, .int .i64 0, .int .i64 0, .int .u64 0, .slice none 0 0] w6 [] [.bool false, .bool false, .bool false, .int .i64 0, .int .i64 0, .int .u64 0, .slice none 0 0] rfl Va.out
          have hbb : Below _ _ w7 := hw7 ▸ below_setCells gea [.bool true, .bool false, .bool false, .int .i64 0, .int .i64 0, .int .u64 0, .slice none 0 0] 0 w6 HB.out.1
          have hbs : w7.heap.size = w6.heap.size := by rw [← hw7, size_setCells]
          have tha := Lib.hid (there_blk Va.out (k := 7) rfl)
          replace Vo := Lib.hid Vo2
          clear Vo2
          replace Vx := Lib.hid Vx2
          clear Vx2
          replace Vg := Lib.hid Vg2
          clear Vg2
          replace Va := Lib.hid Va2
          clear Va2
          replace HB := Lib.hid (And.intro hbb (show _ ≤ w7.heap.size by rw [hbs]; exact HB.out.2))
          clear hbb hbs
          refine Shut.out hK _ _ hS (fun _ => ?_)
          clear hK K
          try simp only [Act.put, List.setIfInBounds_toArray, List.set_cons_zero, List.set_cons_succ]
          refine wpAnyH_ready (rs := [12]) (by kernel_rfl) (by simp) (AllReadyH.cons (o := ⟨none, .store 38 (.tmp 15) (.tmp 74), 0, "law.go:89", #[⟨9, .data⟩, ⟨6, .data⟩, ⟨11, .chain⟩, ⟨0, .phase⟩, ⟨1, .phase⟩, ⟨2, .phase⟩, ⟨3, .phase⟩, ⟨4, .phase⟩, ⟨5, .phase⟩, ⟨6, .phase⟩, ⟨7, .phase⟩, ⟨8, .phase⟩, ⟨9, .phase⟩, ⟨10, .phase⟩, ⟨11, .phase⟩], none⟩) rfl (fun K hK => ?_) AllReadyH.nil)
          refine op_storeS (by rfl) rfl rfl rfl tha.out (by kernel_rfl) (by simp [Value.oneCell']) hw7 ?_
          replace hS := hw7 ▸ below_setCells gsa [.bool true, .bool false, .bool false, .int .i64 0, .int .i64 0, .int .u64 0, .slice none 0 0] 0 _ hS
          refine Shut.out hK _ _ hS (fun _ => ?_)
          clear hK K
          try simp only [Act.put, List.setIfInBounds_toArray, List.set_cons_zero, List.set_cons_succ]
          refine wpAnyH_done (by kernel_rfl) ?_ _
          refine NoPanic.normal ?_
          clear hS gsx gsg gsa thx thg tha
          obtain ⟨ca0, ca1, ca2, ca3, ca4, ca5, ca6⟩ := row7 Va.out
          obtain ⟨cg0, cg1, cg2, cg3, cg4, cg5, cg6, cg7, cg8, cg9⟩ := row10 Vg.out
          obtain ⟨cx0, cx1, cx2, cx3, cx4, cx5, cx6, cx7, cx8, cx9, cx10⟩ := row11 Vx.out
          obtain ⟨pco0, pco1, pco2, pco3, pco4, pco5, pco6, pco7, pco8, pco9, pco10⟩ := row11 Vo.out
          obtain ⟨pfo0, pfo1, pfo2, pfo3, pfo4, pfo5, pfo6, pfo7, pfo8, pfo9, pfo10⟩ := frz11 Vo.out
          obtain ⟨w8, hw8⟩ : ∃ W, (((((((((((w7.setCell ⟨so, 0, none⟩ (.int .i64 2)).setCell ⟨so, 1, none⟩ (.int .i64 0)).setCell ⟨so, 2, none⟩ (.int .i64 0)).setCell ⟨so, 3, none⟩ (.int .i64 0)).setCell ⟨so, 4, none⟩ (.int .i64 0)).setCell ⟨so, 5, none⟩ (.int .i64 y1)).setCell ⟨so, 6, none⟩ (.int .i64 0)).setCell ⟨so, 7, none⟩ (.int .u32 0)).setCell ⟨so, 8, none⟩ (.int .u32 0)).setCell ⟨so, 9, none⟩ (.slice none 0 0)).setCell ⟨so, 10, none⟩ (.slice none 0 0)) = W := ⟨_, rfl⟩
          have hse : w7.setCells (so) 0 [.int .i64 2, .int .i64 0, .int .i64 0, .int .i64 0, .int .i64 0, .int .i64 y1, .int .i64 0, .int .u32 0, .int .u32 0, .slice none 0 0, .slice none 0 0] = w8 := hw8
          have Vx2 : w8.heap[sx]? = some (.cells #[.int .i64 2, .int .i64 0, .int .i64 0, .int .i64 0, .int .i64 0, .int .i64 y1, .int .i64 0, .int .u32 0, .int .u32 0, .slice none 0 0, .slice none 0 0] 29) := hse ▸ (heap_setCells_ne neo_x.symm [.int .i64 2, .int .i64 0, .int .i64 0, .int .i64 0, .int .i64 0, .int .i64 y1, .int .i64 0, .int .u32 0, .int .u32 0, .slice none 0 0, .slice none 0 0] 0 w7).trans Vx.out
          have Vg2 : w8.heap[sg]? = some (.cells #[.int .i64 0, .int .i64 0, .int .i64 0, .int .i64 0, .int .i64 0, .int .i64 0, .bool false, .bool false, .int .i64 0, .bool false] 31) := hse ▸ (heap_setCells_ne neo_g.symm [.int .i64 2, .int .i64 0, .int .i64 0, .int .i64 0, .int .i64 0, .int .i64 y1, .int .i64 0, .int .u32 0, .int .u32 0, .slice none 0 0, .slice none 0 0] 0 w7).trans Vg.out
          have Va2 : w8.heap[sa]? = some (.cells #[.bool true, .bool false, .bool false, .int .i64 0, .int .i64 0, .int .u64 0, .slice none 0 0] 38) := hse ▸ (heap_setCells_ne neo_a.symm [.int .i64 2, .int .i64 0, .int .i64 0, .int .i64 0, .int .i64 0, .int .i64 y1, .int .i64 0, .int .u32 0, .int .u32 0, .slice none 0 0, .slice none 0 0] 0 w7).trans Va.out
          have Vo2 : w8.heap[so]? = some (.cells #[.int .i64 2, .int .i64 0, .int .i64 0, .int .i64 0, .int .i64 0, .int .i64 y1, .int .i64 0, .int .u32 0, .int .u32 0, .slice none 0 0, .slice none 0 0] 29) := hse ▸ heap_setCells [.int .i64 2, .int .i64 0, .int .i64 0, .int .i64 0, .int .i64 0, .int .i64 y1, .int .i64 0, .int .u32 0, .int .u32 0, .slice none 0 0, .slice none 0 0] w7 [] [.int .i64 2, .int .i64 0, .int .i64 0, .int .i64 0, .int .i64 0, .int .i64 v, .int .i64 0, .int .u32 0, .int .u32 0, .slice none 0 0, .slice none 0 0] rfl Vo.out
          have hbb : Below _ _ w8 := hse ▸ below_setCells geo [.int .i64 2, .int .i64 0, .int .i64 0, .int .i64 0, .int .i64 0, .int .i64 y1, .int .i64 0, .int .u32 0, .int .u32 0, .slice none 0 0, .slice none 0 0] 0 w7 HB.out.1
          have hbs : w8.heap.size = w7.heap.size := by rw [← hse, size_setCells]
          replace Vo := Lib.hid Vo2
          clear Vo2
          replace Vx := Lib.hid Vx2
          clear Vx2
          replace Vg := Lib.hid Vg2
          clear Vg2
          replace Va := Lib.hid Va2
          clear Va2
          replace HB := Lib.hid (And.intro hbb (show _ ≤ w8.heap.size by rw [hbs]; exact HB.out.2))
          clear hbb hbs hse
          have i0 : (0 : Int) ≤ (i : Int) := by omega
          have i1 : (i : Int) < 256 := by have h := HI.out; omega
          go_wp2
          go_roundw
          case rel =>
            obtain ⟨q1, q2, q3, q4⟩ := HI.out
            exact ⟨i + 1, y1, by go_num, by omega, by omega, HB, Vo⟩
          case measure =>
            obtain ⟨q1, q2, q3, q4⟩ := HI.out
            simp [intOf]; omega
        · have c1 : decide ((i : Int) < (m : Int)) = false := by simp; omega
          have c1n : decide (i < m) = false := by simp; omega
          have hv0 : v = 0 := by omega
          clear hlt hi hv
          subst hv0
          obtain ⟨co0, co1, co2, co3, co4, co5, co6, co7, co8, co9, co10⟩ := row11 Vo.out
          go_wp2_with fail
          refine (N2.out _).mono ?_
          rintro e w5 ⟨rfl, hb⟩
          clear co0 co1 co2 co3 co4 co5 co6 co7 co8 co9 co10
          replace Vo := Lib.hid (blk_below Vo.out hb (blk_lt Vo.out))
          replace HB := Lib.hid (And.intro (HB.out.1.trans (hb.mono HB.out.2)) (Nat.le_trans HB.out.2 hb.size))
          clear hb
          have lto := blk_lt Vo.out
          have gq := HB.out.2
          obtain ⟨w6, hw6⟩ : ∃ W, (w5.alloc (.cells #[.int .i64 0, .int .i64 0, .int .i64 0, .int .i64 0, .int .i64 0, .int .i64 0, .bool false, .bool false, .int .i64 0, .bool false] 31)) = W := ⟨_, rfl⟩
          have hb : Below w5.heap.size w5 w6 := hw6 ▸ ((Below.refl _ _).alloc (Nat.le_refl _) _)
          have hv0 : w6.heap[w5.heap.size]? = some (.cells #[.int .i64 0, .int .i64 0, .int .i64 0, .int .i64 0, .int .i64 0, .int .i64 0, .bool false, .bool false, .int .i64 0, .bool false] 31) := by
            have h0 := heap_alloc_new w5 (.cells #[.int .i64 0, .int .i64 0, .int .i64 0, .int .i64 0, .int .i64 0, .int .i64 0, .bool false, .bool false, .int .i64 0, .bool false] 31)
            rw [show w5.heap.size = w5.heap.size by simp [Nat.add_assoc]] at h0
            rw [← hw6]
            exact h0
          replace Vo := Lib.hid (blk_below Vo.out hb (blk_lt Vo.out))
          replace HB := Lib.hid (And.intro (HB.out.1.trans (hb.mono HB.out.2)) (Nat.le_trans HB.out.2 hb.size))
          have Vf := Lib.hid hv0
          have neo_f := Nat.ne_of_lt lto
          have gef := gq
          generalize hsf : w5.heap.size = sf at *
          clear hb gq hv0 lto
          obtain ⟨pcf0, pcf1, pcf2, pcf3, pcf4, pcf5, pcf6, pcf7, pcf8, pcf9⟩ := row10 Vf.out
          obtain ⟨pff0, pff1, pff2, pff3, pff4, pff5, pff6, pff7, pff8, pff9⟩ := frz10 Vf.out
          obtain ⟨w7, hw7⟩ : ∃ W, ((((((((((w6.setCell ⟨sf, 0, none⟩ (.int .i64 30)).setCell ⟨sf, 1, none⟩ (.int .i64 0)).setCell ⟨sf, 2, none⟩ (.int .i64 0)).setCell ⟨sf, 3, none⟩ (.int .i64 0)).setCell ⟨sf, 4, none⟩ (.int .i64 (-1))).setCell ⟨sf, 5, none⟩ (.int .i64 0)).setCell ⟨sf, 6, none⟩ (.bool false)).setCell ⟨sf, 7, none⟩ (.bool false)).setCell ⟨sf, 8, none⟩ (.int .i64 0)).setCell ⟨sf, 9, none⟩ (.bool false)) = W := ⟨_, rfl⟩
          have hse : w6.setCells (sf) 0 [.int .i64 30, .int .i64 0, .int .i64 0, .int .i64 0, .int .i64 (-1), .int .i64 0, .bool false, .bool false, .int .i64 0, .bool false] = w7 := hw7
          have Vo2 : w7.heap[so]? = some (.cells #[.int .i64 2, .int .i64 0, .int .i64 0, .int .i64 0, .int .i64 0, .int .i64 0, .int .i64 0, .int .u32 0, .int .u32 0, .slice none 0 0, .slice none 0 0] 29) := hse ▸ (heap_setCells_ne neo_f [.int .i64 30, .int .i64 0, .int .i64 0, .int .i64 0, .int .i64 (-1), .int .i64 0, .bool false, .bool false, .int .i64 0, .bool false] 0 w6).trans Vo.out
          have Vf2 : w7.heap[sf]? = some (.cells #[.int .i64 30, .int .i64 0, .int .i64 0, .int .i64 0, .int .i64 (-1), .int .i64 0, .bool false, .bool false, .int .i64 0, .bool false] 31) := hse ▸ heap_setCells [.int .i64 30, .int .i64 0, .int .i64 0, .int .i64 0, .int .i64 (-1), .int .i64 0, .bool false, .bool false, .int .i64 0, .bool false] w6 [] [.int .i64 0, .int .i64 0, .int .i64 0, .int .i64 0, .int .i64 0, .int .i64 0, .bool false, .bool false, .int .i64 0, .bool false] rfl Vf.out
          have hbb : Below _ _ w7 := hse ▸ below_setCells gef [.int .i64 30, .int .i64 0, .int .i64 0, .int .i64 0, .int .i64 (-1), .int .i64 0, .bool false, .bool false, .int .i64 0, .bool false] 0 w6 HB.out.1
          have hbs : w7.heap.size = w6.heap.size := by rw [← hse, size_setCells]
          replace Vo := Lib.hid Vo2
          clear Vo2
          replace Vf := Lib.hid Vf2
          clear Vf2
          replace HB := Lib.hid (And.intro hbb (show _ ≤ w7.heap.size by rw [hbs]; exact HB.out.2))
          clear hbb hbs hse
          obtain ⟨co0, co1, co2, co3, co4, co5, co6, co7, co8, co9, co10⟩ := row11 Vo.out
          obtain ⟨cf0, cf1, cf2, cf3, cf4, cf5, cf6, cf7, cf8, cf9⟩ := row10 Vf.out
          go_wp2_with fail
          refine (K3.out _).mono ?_
          rintro e w8 ⟨rfl, hb⟩
          clear pcf0 pcf1 pcf2 pcf3 pcf4 pcf5 pcf6 pcf7 pcf8 pcf9 pff0 pff1 pff2 pff3 pff4 pff5 pff6 pff7 pff8 pff9 hw7 co0 co1 co2 co3 co4 co5 co6 co7 co8 co9 co10 cf0 cf1 cf2 cf3 cf4 cf5 cf6 cf7 cf8 cf9
          replace Vo := Lib.hid (blk_below Vo.out hb (blk_lt Vo.out))
          replace Vf := Lib.hid (blk_below Vf.out hb (blk_lt Vf.out))
          replace HB := Lib.hid (And.intro (HB.out.1.trans (hb.mono HB.out.2)) (Nat.le_trans HB.out.2 hb.size))
          clear hb
          have lto := blk_lt Vo.out
          have ltf := blk_lt Vf.out
          have gq := HB.out.2
          obtain ⟨w9, hw9⟩ : ∃ W, (w8.alloc (.cells #[.bool false, .bool false, .bool false, .int .i64 0, .int .i64 0, .int .u64 0, .slice none 0 0] 38)) = W := ⟨_, rfl⟩
          have hb : Below w8.heap.size w8 w9 := hw9 ▸ ((Below.refl _ _).alloc (Nat.le_refl _) _)
          have hv0 : w9.heap[w8.heap.size]? = some (.cells #[.bool false, .bool false, .bool false, .int .i64 0, .int .i64 0, .int .u64 0, .slice none 0 0] 38) := by
            have h0 := heap_alloc_new w8 (.cells #[.bool false, .bool false, .bool false, .int .i64 0, .int .i64 0, .int .u64 0, .slice none 0 0] 38)
            rw [show w8.heap.size = w8.heap.size by simp [Nat.add_assoc]] at h0
            rw [← hw9]
            exact h0
          replace Vo := Lib.hid (blk_below Vo.out hb (blk_lt Vo.out))
          replace Vf := Lib.hid (blk_below Vf.out hb (blk_lt Vf.out))
          replace HB := Lib.hid (And.intro (HB.out.1.trans (hb.mono HB.out.2)) (Nat.le_trans HB.out.2 hb.size))
          have Va := Lib.hid hv0
          have neo_a := Nat.ne_of_lt lto
          have nef_a := Nat.ne_of_lt ltf
          have gea := gq
          generalize hsa : w8.heap.size = sa at *
          clear hb gq hv0 lto ltf
          obtain ⟨pco0, pco1, pco2, pco3, pco4, pco5, pco6, pco7, pco8, pco9, pco10⟩ := row11 Vo.out
          obtain ⟨pfo0, pfo1, pfo2, pfo3, pfo4, pfo5, pfo6, pfo7, pfo8, pfo9, pfo10⟩ := frz11 Vo.out
          obtain ⟨w10, hw10⟩ : ∃ W, (((((((((((w9.setCell ⟨so, 0, none⟩ (.int .i64 2)).setCell ⟨so, 1, none⟩ (.int .i64 1)).setCell ⟨so, 2, none⟩ (.int .i64 0)).setCell ⟨so, 3, none⟩ (.int .i64 0)).setCell ⟨so, 4, none⟩ (.int .i64 0)).setCell ⟨so, 5, none⟩ (.int .i64 0)).setCell ⟨so, 6, none⟩ (.int .i64 0)).setCell ⟨so, 7, none⟩ (.int .u32 0)).setCell ⟨so, 8, none⟩ (.int .u32 0)).setCell ⟨so, 9, none⟩ (.slice none 0 0)).setCell ⟨so, 10, none⟩ (.slice none 0 0)) = W := ⟨_, rfl⟩
          have hse : w9.setCells (so) 0 [.int .i64 2, .int .i64 1, .int .i64 0, .int .i64 0, .int .i64 0, .int .i64 0, .int .i64 0, .int .u32 0, .int .u32 0, .slice none 0 0, .slice none 0 0] = w10 := hw10
          have Vf2 : w10.heap[sf]? = some (.cells #[.int .i64 30, .int .i64 0, .int .i64 0, .int .i64 0, .int .i64 (-1), .int .i64 0, .bool false, .bool false, .int .i64 0, .bool false] 31) := hse ▸ (heap_setCells_ne neo_f.symm [.int .i64 2, .int .i64 1, .int .i64 0, .int .i64 0, .int .i64 0, .int .i64 0, .int .i64 0, .int .u32 0, .int .u32 0, .slice none 0 0, .slice none 0 0] 0 w9).trans Vf.out
          have Va2 : w10.heap[sa]? = some (.cells #[.bool false, .bool false, .bool false, .int .i64 0, .int .i64 0, .int .u64 0, .slice none 0 0] 38) := hse ▸ (heap_setCells_ne neo_a.symm [.int .i64 2, .int .i64 1, .int .i64 0, .int .i64 0, .int .i64 0, .int .i64 0, .int .i64 0, .int .u32 0, .int .u32 0, .slice none 0 0, .slice none 0 0] 0 w9).trans Va.out
          have Vo2 : w10.heap[so]? = some (.cells #[.int .i64 2, .int .i64 1, .int .i64 0, .int .i64 0, .int .i64 0, .int .i64 0, .int .i64 0, .int .u32 0, .int .u32 0, .slice none 0 0, .slice none 0 0] 29) := hse ▸ heap_setCells [.int .i64 2, .int .i64 1, .int .i64 0, .int .i64 0, .int .i64 0, .int .i64 0, .int .i64 0, .int .u32 0, .int .u32 0, .slice none 0 0, .slice none 0 0] w9 [] [.int .i64 2, .int .i64 0, .int .i64 0, .int .i64 0, .int .i64 0, .int .i64 0, .int .i64 0, .int .u32 0, .int .u32 0, .slice none 0 0, .slice none 0 0] rfl Vo.out
          have hbb : Below _ _ w10 := hse ▸ below_setCells geo [.int .i64 2, .int .i64 1, .int .i64 0, .int .i64 0, .int .i64 0, .int .i64 0, .int .i64 0, .int .u32 0, .int .u32 0, .slice none 0 0, .slice none 0 0] 0 w9 HB.out.1
          have hbs : w10.heap.size = w9.heap.size := by rw [← hse, size_setCells]
          replace Vo := Lib.hid Vo2
          clear Vo2
          replace Vf := Lib.hid Vf2
          clear Vf2
          replace Va := Lib.hid Va2
          clear Va2
          replace HB := Lib.hid (And.intro hbb (show _ ≤ w10.heap.size by rw [hbs]; exact HB.out.2))
          clear hbb hbs hse
          obtain ⟨pcf0, pcf1, pcf2, pcf3, pcf4, pcf5, pcf6, pcf7, pcf8, pcf9⟩ := row10 Vf.out
          obtain ⟨pff0, pff1, pff2, pff3, pff4, pff5, pff6, pff7, pff8, pff9⟩ := frz10 Vf.out
          obtain ⟨w11, hw11⟩ : ∃ W, ((((((((((w10.setCell ⟨sf, 0, none⟩ (.int .i64 30)).setCell ⟨sf, 1, none⟩ (.int .i64 1)).setCell ⟨sf, 2, none⟩ (.int .i64 0)).setCell ⟨sf, 3, none⟩ (.int .i64 0)).setCell ⟨sf, 4, none⟩ (.int .i64 (-1))).setCell ⟨sf, 5, none⟩ (.int .i64 0)).setCell ⟨sf, 6, none⟩ (.bool false)).setCell ⟨sf, 7, none⟩ (.bool false)).setCell ⟨sf, 8, none⟩ (.int .i64 0)).setCell ⟨sf, 9, none⟩ (.bool false)) = W := ⟨_, rfl⟩
          have hse : w10.setCells (sf) 0 [.int .i64 30, .int .i64 1, .int .i64 0, .int .i64 0, .int .i64 (-1), .int .i64 0, .bool false, .bool false, .int .i64 0, .bool false] = w11 := hw11
          have Vo2 : w11.heap[so]? = some (.cells #[.int .i64 2, .int .i64 1, .int .i64 0, .int .i64 0, .int .i64 0, .int .i64 0, .int .i64 0, .int .u32 0, .int .u32 0, .slice none 0 0, .slice none 0 0] 29) := hse ▸ (heap_setCells_ne neo_f [.int .i64 30, .int .i64 1, .int .i64 0, .int .i64 0, .int .i64 (-1), .int .i64 0, .bool false, .bool false, .int .i64 0, .bool false] 0 w10).trans Vo.out
          have Va2 : w11.heap[sa]? = some (.cells #[.bool false, .bool false, .bool false, .int .i64 0, .int .i64 0, .int .u64 0, .slice none 0 0] 38) := hse ▸ (heap_setCells_ne nef_a.symm [.int .i64 30, .int .i64 1, .int .i64 0, .int .i64 0, .int .i64 (-1), .int .i64 0, .bool false, .bool false, .int .i64 0, .bool false] 0 w10).trans Va.out
          have Vf2 : w11.heap[sf]? = some (.cells #[.int .i64 30, .int .i64 1, .int .i64 0, .int .i64 0, .int .i64 (-1), .int .i64 0, .bool false, .bool false, .int .i64 0, .bool false] 31) := hse ▸ heap_setCells [.int .i64 30, .int .i64 1, .int .i64 0, .int .i64 0, .int .i64 (-1), .int .i64 0, .bool false, .bool false, .int .i64 0, .bool false] w10 [] [.int .i64 30, .int .i64 0, .int .i64 0, .int .i64 0, .int .i64 (-1), .int .i64 0, .bool false, .bool false, .int .i64 0, .bool false] rfl Vf.out
          have hbb : Below _ _ w11 := hse ▸ below_setCells gef [.int .i64 30, .int .i64 1, .int .i64 0, .int .i64 0, .int .i64 (-1), .int .i64 0, .bool false, .bool false, .int .i64 0, .bool false] 0 w10 HB.out.1
          have hbs : w11.heap.size = w10.heap.size := by rw [← hse, size_setCells]
          replace Vo := Lib.hid Vo2
          clear Vo2
          replace Vf := Lib.hid Vf2
          clear Vf2
          replace Va := Lib.hid Va2
          clear Va2
          replace HB := Lib.hid (And.intro hbb (show _ ≤ w11.heap.size by rw [hbs]; exact HB.out.2))
          clear hbb hbs hse
          obtain ⟨pca0, pca1, pca2, pca3, pca4, pca5, pca6⟩ := row7 Va.out
          obtain ⟨pfa0, pfa1, pfa2, pfa3, pfa4, pfa5, pfa6⟩ := frz7 Va.out
          obtain ⟨w12, hw12⟩ : ∃ W, (((((((w11.setCell ⟨sa, 0, none⟩ (.bool false)).setCell ⟨sa, 1, none⟩ (.bool false)).setCell ⟨sa, 2, none⟩ (.bool false)).setCell ⟨sa, 3, none⟩ (.int .i64 0)).setCell ⟨sa, 4, none⟩ (.int .i64 0)).setCell ⟨sa, 5, none⟩ (.int .u64 0)).setCell ⟨sa, 6, none⟩ (.slice none 0 0)) = W := ⟨_, rfl⟩
          have hse : w11.setCells (sa) 0 [.bool false, .bool false, .bool false, .int .i64 0, .int .i64 0, .int .u64 0, .slice none 0 0] = w12 := hw12
          have Vo2 : w12.heap[so]? = some (.cells #[.int .i64 2, .int .i64 1, .int .i64 0, .int .i64 0, .int .i64 0, .int .i64 0, .int .i64 0, .int .u32 0, .int .u32 0, .slice none 0 0, .slice none 0 0] 29) := hse ▸ (heap_setCells_ne neo_a [.bool false, .bool false, .bool false, .int .i64 0, .int .i64 0, .int .u64 0, .slice none 0 0] 0 w11).trans Vo.out
          have Vf2 : w12.heap[sf]? = some (.cells #[.int .i64 30, .int .i64 1, .int .i64 0, .int .i64 0, .int .i64 (-1), .int .i64 0, .bool false, .bool false, .int .i64 0, .bool false] 31) := hse ▸ (heap_setCells_ne nef_a [.bool false, .bool false, .bool false, .int .i64 0, .int .i64 0, .int .u64 0, .slice none 0 0] 0 w11).trans Vf.out
          have Va2 : w12.heap[sa]? = some (.cells #[.bool false, .bool false, .bool false, .int .i64 0, .int .i64 0, .int .u64 0, .slice none 0 0] 38) := hse ▸ heap_setCells [.bool false, .bool false, .bool false, .int .i64 0, .int .i64 0, .int .u64 0, .slice none 0 0] w11 [] [.bool false, .bool false, .bool false, .int .i64 0, .int .i64 0, .int .u64 0, .slice none 0 0] rfl Va.out
          have hbb : Below _ _ w12 := hse ▸ below_setCells gea [.bool false, .bool false, .bool false, .int .i64 0, .int .i64 0, .int .u64 0, .slice none 0 0] 0 w11 HB.out.1
          have hbs : w12.heap.size = w11.heap.size := by rw [← hse, size_setCells]
          replace Vo := Lib.hid Vo2
          clear Vo2
          replace Vf := Lib.hid Vf2
          clear Vf2
          replace Va := Lib.hid Va2
          clear Va2
          replace HB := Lib.hid (And.intro hbb (show _ ≤ w12.heap.size by rw [hbs]; exact HB.out.2))
          clear hbb hbs hse
          obtain ⟨co0, co1, co2, co3, co4, co5, co6, co7, co8, co9, co10⟩ := row11 Vo.out
          obtain ⟨cf0, cf1, cf2, cf3, cf4, cf5, cf6, cf7, cf8, cf9⟩ := row10 Vf.out
          go_wp2_with fail
          refine (K4.out _).mono ?_
          rintro e w13 ⟨rfl, hb⟩
          clear pco0 pco1 pco2 pco3 pco4 pco5 pco6 pco7 pco8 pco9 pco10 pfo0 pfo1 pfo2 pfo3 pfo4 pfo5 pfo6 pfo7 pfo8 pfo9 pfo10 hw10 pcf0 pcf1 pcf2 pcf3 pcf4 pcf5 pcf6 pcf7 pcf8 pcf9 pff0 pff1 pff2 pff3 pff4 pff5 pff6 pff7 pff8 pff9 hw11 pca0 pca1 pca2 pca3 pca4 pca5 pca6 pfa0 pfa1 pfa2 pfa3 pfa4 pfa5 pfa6 hw12 co0 co1 co2 co3 co4 co5 co6 co7 co8 co9 co10 cf0 cf1 cf2 cf3 cf4 cf5 cf6 cf7 cf8 cf9
          replace Vo := Lib.hid (blk_below Vo.out hb (blk_lt Vo.out))
          replace Vf := Lib.hid (blk_below Vf.out hb (blk_lt Vf.out))
          replace Va := Lib.hid (blk_below Va.out hb (blk_lt Va.out))
          replace HB := Lib.hid (And.intro (HB.out.1.trans (hb.mono HB.out.2)) (Nat.le_trans HB.out.2 hb.size))
          clear hb
          have lto := blk_lt Vo.out
          have ltf := blk_lt Vf.out
          have lta := blk_lt Va.out
          have gq := HB.out.2
          obtain ⟨w14, hw14⟩ : ∃ W, (w13.alloc (.cells #[.bool false, .bool false, .bool false, .int .i64 0, .int .i64 0, .int .u64 0, .slice none 0 0] 38)) = W := ⟨_, rfl⟩
          have hb : Below w13.heap.size w13 w14 := hw14 ▸ ((Below.refl _ _).alloc (Nat.le_refl _) _)
          have hv0 : w14.heap[w13.heap.size]? = some (.cells #[.bool false, .bool false, .bool false, .int .i64 0, .int .i64 0, .int .u64 0, .slice none 0 0] 38) := by
            have h0 := heap_alloc_new w13 (.cells #[.bool false, .bool false, .bool false, .int .i64 0, .int .i64 0, .int .u64 0, .slice none 0 0] 38)
            rw [show w13.heap.size = w13.heap.size by simp [Nat.add_assoc]] at h0
            rw [← hw14]
            exact h0
          replace Vo := Lib.hid (blk_below Vo.out hb (blk_lt Vo.out))
          replace Vf := Lib.hid (blk_below Vf.out hb (blk_lt Vf.out))
          replace Va := Lib.hid (blk_below Va.out hb (blk_lt Va.out))
          replace HB := Lib.hid (And.intro (HB.out.1.trans (hb.mono HB.out.2)) (Nat.le_trans HB.out.2 hb.size))
          have Vb := Lib.hid hv0
          have neo_b := Nat.ne_of_lt lto
          have nef_b := Nat.ne_of_lt ltf
          have nea_b := Nat.ne_of_lt lta
          have geb := gq
          generalize hsb : w13.heap.size = sb at *
          clear hb gq hv0 lto ltf lta
          obtain ⟨pco0, pco1, pco2, pco3, pco4, pco5, pco6, pco7, pco8, pco9, pco10⟩ := row11 Vo.out
          obtain ⟨pfo0, pfo1, pfo2, pfo3, pfo4, pfo5, pfo6, pfo7, pfo8, pfo9, pfo10⟩ := frz11 Vo.out
          obtain ⟨w15, hw15⟩ : ∃ W, (((((((((((w14.setCell ⟨so, 0, none⟩ (.int .i64 2)).setCell ⟨so, 1, none⟩ (.int .i64 1)).setCell ⟨so, 2, none⟩ (.int .i64 0)).setCell ⟨so, 3, none⟩ (.int .i64 0)).setCell ⟨so, 4, none⟩ (.int .i64 0)).setCell ⟨so, 5, none⟩ (.int .i64 (-1048576))).setCell ⟨so, 6, none⟩ (.int .i64 0)).setCell ⟨so, 7, none⟩ (.int .u32 0)).setCell ⟨so, 8, none⟩ (.int .u32 0)).setCell ⟨so, 9, none⟩ (.slice none 0 0)).setCell ⟨so, 10, none⟩ (.slice none 0 0)) = W := ⟨_, rfl⟩
          have hse : w14.setCells (so) 0 [.int .i64 2, .int .i64 1, .int .i64 0, .int .i64 0, .int .i64 0, .int .i64 (-1048576), .int .i64 0, .int .u32 0, .int .u32 0, .slice none 0 0, .slice none 0 0] = w15 := hw15
          have Vf2 : w15.heap[sf]? = some (.cells #[.int .i64 30, .int .i64 1, .int .i64 0, .int .i64 0, .int .i64 (-1), .int .i64 0, .bool false, .bool false, .int .i64 0, .bool false] 31) := hse ▸ (heap_setCells_ne neo_f.symm [.int .i64 2, .int .i64 1, .int .i64 0, .int .i64 0, .int .i64 0, .int .i64 (-1048576), .int .i64 0, .int .u32 0, .int .u32 0, .slice none 0 0, .slice none 0 0] 0 w14).trans Vf.out
          have Va2 : w15.heap[sa]? = some (.cells #[.bool false, .bool false, .bool false, .int .i64 0, .int .i64 0, .int .u64 0, .slice none 0 0] 38) := hse ▸ (heap_setCells_ne neo_a.symm [.int .i64 2, .int .i64 1, .int .i64 0, .int .i64 0, .int .i64 0, .int .i64 (-1048576), .int .i64 0, .int .u32 0, .int .u32 0, .slice none 0 0, .slice none 0 0] 0 w14).trans Va.out
          have Vb2 : w15.heap[sb]? = some (.cells #[.bool false, .bool false, .bool false, .int .i64 0, .int .i64 0, .int .u64 0, .slice none 0 0] 38) := hse ▸ (heap_setCells_ne neo_b.symm [.int .i64 2, .int .i64 1, .int .i64 0, .int .i64 0, .int .i64 0, .int .i64 (-1048576), .int .i64 0, .int .u32 0, .int .u32 0, .slice none 0 0, .slice none 0 0] 0 w14).trans Vb.out
          have Vo2 : w15.heap[so]? = some (.cells #[.int .i64 2, .int .i64 1, .int .i64 0, .int .i64 0, .int .i64 0, .int .i64 (-1048576), .int .i64 0, .int .u32 0, .int .u32 0, .slice none 0 0, .slice none 0 0] 29) := hse ▸ heap_setCells [.int .i64 2, .int .i64 1, .int .i64 0, .int .i64 0, .int .i64 0, .int .i64 (-1048576), .int .i64 0, .int .u32 0, .int .u32 0, .slice none 0 0, .slice none 0 0] w14 [] [.int .i64 2, .int .i64 1, .int .i64 0, .int .i64 0, .int .i64 0, .int .i64 0, .int .i64 0, .int .u32 0, .int .u32 0, .slice none 0 0, .slice none 0 0] rfl Vo.out
          have hbb : Below _ _ w15 := hse ▸ below_setCells geo [.int .i64 2, .int .i64 1, .int .i64 0, .int .i64 0, .int .i64 0, .int .i64 (-1048576), .int .i64 0, .int .u32 0, .int .u32 0, .slice none 0 0, .slice none 0 0] 0 w14 HB.out.1
          have hbs : w15.heap.size = w14.heap.size := by rw [← hse, size_setCells]
          replace Vo := Lib.hid Vo2
          clear Vo2
          replace Vf := Lib.hid Vf2
          clear Vf2
          replace Va := Lib.hid Va2
          clear Va2
          replace Vb := Lib.hid Vb2
          clear Vb2
          replace HB := Lib.hid (And.intro hbb (show _ ≤ w15.heap.size by rw [hbs]; exact HB.out.2))
          clear hbb hbs hse
          obtain ⟨pcf0, pcf1, pcf2, pcf3, pcf4, pcf5, pcf6, pcf7, pcf8, pcf9⟩ := row10 Vf.out
          obtain ⟨pff0, pff1, pff2, pff3, pff4, pff5, pff6, pff7, pff8, pff9⟩ := frz10 Vf.out
          obtain ⟨w16, hw16⟩ : ∃ W, ((((((((((w15.setCell ⟨sf, 0, none⟩ (.int .i64 0)).setCell ⟨sf, 1, none⟩ (.int .i64 0)).setCell ⟨sf, 2, none⟩ (.int .i64 0)).setCell ⟨sf, 3, none⟩ (.int .i64 0)).setCell ⟨sf, 4, none⟩ (.int .i64 0)).setCell ⟨sf, 5, none⟩ (.int .i64 0)).setCell ⟨sf, 6, none⟩ (.bool false)).setCell ⟨sf, 7, none⟩ (.bool false)).setCell ⟨sf, 8, none⟩ (.int .i64 0)).setCell ⟨sf, 9, none⟩ (.bool false)) = W := ⟨_, rfl⟩
          have hse : w15.setCells (sf) 0 [.int .i64 0, .int .i64 0, .int .i64 0, .int .i64 0, .int .i64 0, .int .i64 0, .bool false, .bool false, .int .i64 0, .bool false] = w16 := hw16
          have Vo2 : w16.heap[so]? = some (.cells #[.int .i64 2, .int .i64 1, .int .i64 0, .int .i64 0, .int .i64 0, .int .i64 (-1048576), .int .i64 0, .int .u32 0, .int .u32 0, .slice none 0 0, .slice none 0 0] 29) := hse ▸ (heap_setCells_ne neo_f [.int .i64 0, .int .i64 0, .int .i64 0, .int .i64 0, .int .i64 0, .int .i64 0, .bool false, .bool false, .int .i64 0, .bool false] 0 w15).trans Vo.out
          have Va2 : w16.heap[sa]? = some (.cells #[.bool false, .bool false, .bool false, .int .i64 0, .int .i64 0, .int .u64 0, .slice none 0 0] 38) := hse ▸ (heap_setCells_ne nef_a.symm [.int .i64 0, .int .i64 0, .int .i64 0, .int .i64 0, .int .i64 0, .int .i64 0, .bool false, .bool false, .int .i64 0, .bool false] 0 w15).trans Va.out
          have Vb2 : w16.heap[sb]? = some (.cells #[.bool false, .bool false, .bool false, .int .i64 0, .int .i64 0, .int .u64 0, .slice none 0 0] 38) := hse ▸ (heap_setCells_ne nef_b.symm [.int .i64 0, .int .i64 0, .int .i64 0, .int .i64 0, .int .i64 0, .int .i64 0, .bool false, .bool false, .int .i64 0, .bool false] 0 w15).trans Vb.out
          have Vf2 : w16.heap[sf]? = some (.cells #[.int .i64 0, .int .i64 0, .int .i64 0, .int .i64 0, .int .i64 0, .int .i64 0, .bool false, .bool false, .int .i64 0, .bool false] 31) := hse ▸ heap_setCells [.int .i64 0, .int .i64 0, .int .i64 0, .int .i64 0, .int .i64 0, .int .i64 0, .bool false, .bool false, .int .i64 0, .bool false] w15 [] [.int .i64 30, .int .i64 1, .int .i64 0, .int .i64 0, .int .i64 (-1), .int .i64 0, .bool false, .bool false, .int .i64 0, .bool false] rfl Vf.out
          have hbb : Below _ _ w16 := hse ▸ below_setCells gef [.int .i64 0, .int .i64 0, .int .i64 0, .int .i64 0, .int .i64 0, .int .i64 0, .bool false, .bool false, .int .i64 0, .bool false] 0 w15 HB.out.1
          have hbs : w16.heap.size = w15.heap.size := by rw [← hse, size_setCells]
          replace Vo := Lib.hid Vo2
          clear Vo2
          replace Vf := Lib.hid Vf2
          clear Vf2
          replace Va := Lib.hid Va2
          clear Va2
          replace Vb := Lib.hid Vb2
          clear Vb2
          replace HB := Lib.hid (And.intro hbb (show _ ≤ w16.heap.size by rw [hbs]; exact HB.out.2))
          clear hbb hbs hse
          obtain ⟨pcb0, pcb1, pcb2, pcb3, pcb4, pcb5, pcb6⟩ := row7 Vb.out
          obtain ⟨pfb0, pfb1, pfb2, pfb3, pfb4, pfb5, pfb6⟩ := frz7 Vb.out
          obtain ⟨w17, hw17⟩ : ∃ W, (((((((w16.setCell ⟨sb, 0, none⟩ (.bool true)).setCell ⟨sb, 1, none⟩ (.bool false)).setCell ⟨sb, 2, none⟩ (.bool false)).setCell ⟨sb, 3, none⟩ (.int .i64 0)).setCell ⟨sb, 4, none⟩ (.int .i64 0)).setCell ⟨sb, 5, none⟩ (.int .u64 0)).setCell ⟨sb, 6, none⟩ (.slice none 0 0)) = W := ⟨_, rfl⟩
          have hse : w16.setCells (sb) 0 [.bool true, .bool false, .bool false, .int .i64 0, .int .i64 0, .int .u64 0, .slice none 0 0] = w17 := hw17
          have Vo2 : w17.heap[so]? = some (.cells #[.int .i64 2, .int .i64 1, .int .i64 0, .int .i64 0, .int .i64 0, .int .i64 (-1048576), .int .i64 0, .int .u32 0, .int .u32 0, .slice none 0 0, .slice none 0 0] 29) := hse ▸ (heap_setCells_ne neo_b [.bool true, .bool false, .bool false, .int .i64 0, .int .i64 0, .int .u64 0, .slice none 0 0] 0 w16).trans Vo.out
          have Vf2 : w17.heap[sf]? = some (.cells #[.int .i64 0, .int .i64 0, .int .i64 0, .int .i64 0, .int .i64 0, .int .i64 0, .bool false, .bool false, .int .i64 0, .bool false] 31) := hse ▸ (heap_setCells_ne nef_b [.bool true, .bool false, .bool false, .int .i64 0, .int .i64 0, .int .u64 0, .slice none 0 0] 0 w16).trans Vf.out
          have Va2 : w17.heap[sa]? = some (.cells #[.bool false, .bool false, .bool false, .int .i64 0, .int .i64 0, .int .u64 0, .slice none 0 0] 38) := hse ▸ (heap_setCells_ne nea_b [.bool true, .bool false, .bool false, .int .i64 0, .int .i64 0, .int .u64 0, .slice none 0 0] 0 w16).trans Va.out
          have Vb2 : w17.heap[sb]? = some (.cells #[.bool true, .bool false, .bool false, .int .i64 0, .int .i64 0, .int .u64 0, .slice none 0 0] 38) := hse ▸ heap_setCells [.bool true, .bool false, .bool false, .int .i64 0, .int .i64 0, .int .u64 0, .slice none 0 0] w16 [] [.bool false, .bool false, .bool false, .int .i64 0, .int .i64 0, .int .u64 0, .slice none 0 0] rfl Vb.out
          have hbb : Below _ _ w17 := hse ▸ below_setCells geb [.bool true, .bool false, .bool false, .int .i64 0, .int .i64 0, .int .u64 0, .slice none 0 0] 0 w16 HB.out.1
          have hbs : w17.heap.size = w16.heap.size := by rw [← hse, size_setCells]
          replace Vo := Lib.hid Vo2
          clear Vo2
          replace Vf := Lib.hid Vf2
          clear Vf2
          replace Va := Lib.hid Va2
          clear Va2
          replace Vb := Lib.hid Vb2
          clear Vb2
          replace HB := Lib.hid (And.intro hbb (show _ ≤ w17.heap.size by rw [hbs]; exact HB.out.2))
          clear hbb hbs hse
          obtain ⟨co0, co1, co2, co3, co4, co5, co6, co7, co8, co9, co10⟩ := row11 Vo.out
          obtain ⟨cf0, cf1, cf2, cf3, cf4, cf5, cf6, cf7, cf8, cf9⟩ := row10 Vf.out
          obtain ⟨ca0, ca1, ca2, ca3, ca4, ca5, ca6⟩ := row7 Va.out
          obtain ⟨cb0, cb1, cb2, cb3, cb4, cb5, cb6⟩ := row7 Vb.out
          go_wp2_with fail
          refine (R2.out _).mono ?_
          rintro e w18 ⟨rfl, hb⟩
          clear pco0 pco1 pco2 pco3 pco4 pco5 pco6 pco7 pco8 pco9 pco10 pfo0 pfo1 pfo2 pfo3 pfo4 pfo5 pfo6 pfo7 pfo8 pfo9 pfo10 hw15 pcf0 pcf1 pcf2 pcf3 pcf4 pcf5 pcf6 pcf7 pcf8 pcf9 pff0 pff1 pff2 pff3 pff4 pff5 pff6 pff7 pff8 pff9 hw16 pcb0 pcb1 pcb2 pcb3 pcb4 pcb5 pcb6 pfb0 pfb1 pfb2 pfb3 pfb4 pfb5 pfb6 hw17 co0 co1 co2 co3 co4 co5 co6 co7 co8 co9 co10 cf0 cf1 cf2 cf3 cf4 cf5 cf6 cf7 cf8 cf9 ca0 ca1 ca2 ca3 ca4 ca5 ca6 cb0 cb1 cb2 cb3 cb4 cb5 cb6
          replace Vo := Lib.hid (blk_below Vo.out hb (blk_lt Vo.out))
          replace Vf := Lib.hid (blk_below Vf.out hb (blk_lt Vf.out))
          replace Va := Lib.hid (blk_below Va.out hb (blk_lt Va.out))
          replace Vb := Lib.hid (blk_below Vb.out hb (blk_lt Vb.out))
          replace HB := Lib.hid (And.intro (HB.out.1.trans (hb.mono HB.out.2)) (Nat.le_trans HB.out.2 hb.size))
          clear hb
          clear Vf
          clear Va
          clear Vb
          go_wp2_with fail
          refine (N4.out _).mono ?_
          rintro e w19 ⟨rfl, hb⟩
          replace Vo := Lib.hid (blk_below Vo.out hb (blk_lt Vo.out))
          replace HB := Lib.hid (And.intro (HB.out.1.trans (hb.mono HB.out.2)) (Nat.le_trans HB.out.2 hb.size))
          clear hb
          have lto := blk_lt Vo.out
          have gq := HB.out.2
          obtain ⟨w20, hw20⟩ : ∃ W, (w19.alloc (.cells #[.int .i64 0, .int .i64 0, .int .i64 0, .int .i64 0, .int .i64 0, .int .i64 0, .bool false, .bool false, .int .i64 0, .bool false] 31)) = W := ⟨_, rfl⟩
          have hb : Below w19.heap.size w19 w20 := hw20 ▸ ((Below.refl _ _).alloc (Nat.le_refl _) _)
          have hv0 : w20.heap[w19.heap.size]? = some (.cells #[.int .i64 0, .int .i64 0, .int .i64 0, .int .i64 0, .int .i64 0, .int .i64 0, .bool false, .bool false, .int .i64 0, .bool false] 31) := by
            have h0 := heap_alloc_new w19 (.cells #[.int .i64 0, .int .i64 0, .int .i64 0, .int .i64 0, .int .i64 0, .int .i64 0, .bool false, .bool false, .int .i64 0, .bool false] 31)
            rw [show w19.heap.size = w19.heap.size by simp [Nat.add_assoc]] at h0
            rw [← hw20]
            exact h0
          replace Vo := Lib.hid (blk_below Vo.out hb (blk_lt Vo.out))
          replace HB := Lib.hid (And.intro (HB.out.1.trans (hb.mono HB.out.2)) (Nat.le_trans HB.out.2 hb.size))
          have Vg := Lib.hid hv0
          have neo_g := Nat.ne_of_lt lto
          have geg := gq
          generalize hsg : w19.heap.size = sg at *
          clear hb gq hv0 lto
          obtain ⟨pcg0, pcg1, pcg2, pcg3, pcg4, pcg5, pcg6, pcg7, pcg8, pcg9⟩ := row10 Vg.out
          obtain ⟨pfg0, pfg1, pfg2, pfg3, pfg4, pfg5, pfg6, pfg7, pfg8, pfg9⟩ := frz10 Vg.out
          obtain ⟨w21, hw21⟩ : ∃ W, ((((((((((w20.setCell ⟨sg, 0, none⟩ (.int .i64 31)).setCell ⟨sg, 1, none⟩ (.int .i64 0)).setCell ⟨sg, 2, none⟩ (.int .i64 0)).setCell ⟨sg, 3, none⟩ (.int .i64 0)).setCell ⟨sg, 4, none⟩ (.int .i64 (-1))).setCell ⟨sg, 5, none⟩ (.int .i64 0)).setCell ⟨sg, 6, none⟩ (.bool false)).setCell ⟨sg, 7, none⟩ (.bool false)).setCell ⟨sg, 8, none⟩ (.int .i64 0)).setCell ⟨sg, 9, none⟩ (.bool false)) = W := ⟨_, rfl⟩
          have hse : w20.setCells (sg) 0 [.int .i64 31, .int .i64 0, .int .i64 0, .int .i64 0, .int .i64 (-1), .int .i64 0, .bool false, .bool false, .int .i64 0, .bool false] = w21 := hw21
          have Vo2 : w21.heap[so]? = some (.cells #[.int .i64 2, .int .i64 1, .int .i64 0, .int .i64 0, .int .i64 0, .int .i64 (-1048576), .int .i64 0, .int .u32 0, .int .u32 0, .slice none 0 0, .slice none 0 0] 29) := hse ▸ (heap_setCells_ne neo_g [.int .i64 31, .int .i64 0, .int .i64 0, .int .i64 0, .int .i64 (-1), .int .i64 0, .bool false, .bool false, .int .i64 0, .bool false] 0 w20).trans Vo.out
          have Vg2 : w21.heap[sg]? = some (.cells #[.int .i64 31, .int .i64 0, .int .i64 0, .int .i64 0, .int .i64 (-1), .int .i64 0, .bool false, .bool false, .int .i64 0, .bool false] 31) := hse ▸ heap_setCells [.int .i64 31, .int .i64 0, .int .i64 0, .int .i64 0, .int .i64 (-1), .int .i64 0, .bool false, .bool false, .int .i64 0, .bool false] w20 [] [.int .i64 0, .int .i64 0, .int .i64 0, .int .i64 0, .int .i64 0, .int .i64 0, .bool false, .bool false, .int .i64 0, .bool false] rfl Vg.out
          have hbb : Below _ _ w21 := hse ▸ below_setCells geg [.int .i64 31, .int .i64 0, .int .i64 0, .int .i64 0, .int .i64 (-1), .int .i64 0, .bool false, .bool false, .int .i64 0, .bool false] 0 w20 HB.out.1
          have hbs : w21.heap.size = w20.heap.size := by rw [← hse, size_setCells]
          replace Vo := Lib.hid Vo2
          clear Vo2
          replace Vg := Lib.hid Vg2
          clear Vg2
          replace HB := Lib.hid (And.intro hbb (show _ ≤ w21.heap.size by rw [hbs]; exact HB.out.2))
          clear hbb hbs hse
          obtain ⟨co0, co1, co2, co3, co4, co5, co6, co7, co8, co9, co10⟩ := row11 Vo.out
          obtain ⟨cg0, cg1, cg2, cg3, cg4, cg5, cg6, cg7, cg8, cg9⟩ := row10 Vg.out
          go_wp2_with fail
          refine (K5.out _).mono ?_
          rintro e w22 ⟨rfl, hb⟩
          clear pcg0 pcg1 pcg2 pcg3 pcg4 pcg5 pcg6 pcg7 pcg8 pcg9 pfg0 pfg1 pfg2 pfg3 pfg4 pfg5 pfg6 pfg7 pfg8 pfg9 hw21 co0 co1 co2 co3 co4 co5 co6 co7 co8 co9 co10 cg0 cg1 cg2 cg3 cg4 cg5 cg6 cg7 cg8 cg9
          replace Vo := Lib.hid (blk_below Vo.out hb (blk_lt Vo.out))
          replace Vg := Lib.hid (blk_below Vg.out hb (blk_lt Vg.out))
          replace HB := Lib.hid (And.intro (HB.out.1.trans (hb.mono HB.out.2)) (Nat.le_trans HB.out.2 hb.size))
          clear hb
          have lto := blk_lt Vo.out
          have ltg := blk_lt Vg.out
          have gq := HB.out.2
          obtain ⟨w23, hw23⟩ : ∃ W, (w22.alloc (.cells #[.bool false, .bool false, .bool false, .int .i64 0, .int .i64 0, .int .u64 0, .slice none 0 0] 38)) = W := ⟨_, rfl⟩
          have hb : Below w22.heap.size w22 w23 := hw23 ▸ ((Below.refl _ _).alloc (Nat.le_refl _) _)
          have hv0 : w23.heap[w22.heap.size]? = some (.cells #[.bool false, .bool false, .bool false, .int .i64 0, .int .i64 0, .int .u64 0, .slice none 0 0] 38) := by
            have h0 := heap_alloc_new w22 (.cells #[.bool false, .bool false, .bool false, .int .i64 0, .int .i64 0, .int .u64 0, .slice none 0 0] 38)
            rw [show w22.heap.size = w22.heap.size by simp [Nat.add_assoc]] at h0
            rw [← hw23]
            exact h0
          replace Vo := Lib.hid (blk_below Vo.out hb (blk_lt Vo.out))
          replace Vg := Lib.hid (blk_below Vg.out hb (blk_lt Vg.out))
          replace HB := Lib.hid (And.intro (HB.out.1.trans (hb.mono HB.out.2)) (Nat.le_trans HB.out.2 hb.size))
          have Vc := Lib.hid hv0
          have neo_c := Nat.ne_of_lt lto
          have neg_c := Nat.ne_of_lt ltg
          have gec := gq
          generalize hsc : w22.heap.size = sc at *
          clear hb gq hv0 lto ltg
          obtain ⟨pco0, pco1, pco2, pco3, pco4, pco5, pco6, pco7, pco8, pco9, pco10⟩ := row11 Vo.out
          obtain ⟨pfo0, pfo1, pfo2, pfo3, pfo4, pfo5, pfo6, pfo7, pfo8, pfo9, pfo10⟩ := frz11 Vo.out
          obtain ⟨w24, hw24⟩ : ∃ W, (((((((((((w23.setCell ⟨so, 0, none⟩ (.int .i64 2)).setCell ⟨so, 1, none⟩ (.int .i64 1)).setCell ⟨so, 2, none⟩ (.int .i64 0)).setCell ⟨so, 3, none⟩ (.int .i64 0)).setCell ⟨so, 4, none⟩ (.int .i64 0)).setCell ⟨so, 5, none⟩ (.int .i64 0)).setCell ⟨so, 6, none⟩ (.int .i64 0)).setCell ⟨so, 7, none⟩ (.int .u32 0)).setCell ⟨so, 8, none⟩ (.int .u32 0)).setCell ⟨so, 9, none⟩ (.slice none 0 0)).setCell ⟨so, 10, none⟩ (.slice none 0 0)) = W := ⟨_, rfl⟩
          have hse : w23.setCells (so) 0 [.int .i64 2, .int .i64 1, .int .i64 0, .int .i64 0, .int .i64 0, .int .i64 0, .int .i64 0, .int .u32 0, .int .u32 0, .slice none 0 0, .slice none 0 0] = w24 := hw24
          have Vg2 : w24.heap[sg]? = some (.cells #[.int .i64 31, .int .i64 0, .int .i64 0, .int .i64 0, .int .i64 (-1), .int .i64 0, .bool false, .bool false, .int .i64 0, .bool false] 31) := hse ▸ (heap_setCells_ne neo_g.symm [.int .i64 2, .int .i64 1, .int .i64 0, .int .i64 0, .int .i64 0, .int .i64 0, .int .i64 0, .int .u32 0, .int .u32 0, .slice none 0 0, .slice none 0 0] 0 w23).trans Vg.out
          have Vc2 : w24.heap[sc]? = some (.cells #[.bool false, .bool false, .bool false, .int .i64 0, .int .i64 0, .int .u64 0, .slice none 0 0] 38) := hse ▸ (heap_setCells_ne neo_c.symm [.int .i64 2, .int .i64 1, .int .i64 0, .int .i64 0, .int .i64 0, .int .i64 0, .int .i64 0, .int .u32 0, .int .u32 0, .slice none 0 0, .slice none 0 0] 0 w23).trans Vc.out
          have Vo2 : w24.heap[so]? = some (.cells #[.int .i64 2, .int .i64 1, .int .i64 0, .int .i64 0, .int .i64 0, .int .i64 0, .int .i64 0, .int .u32 0, .int .u32 0, .slice none 0 0, .slice none 0 0] 29) := hse ▸ heap_setCells [.int .i64 2, .int .i64 1, .int .i64 0, .int .i64 0, .int .i64 0, .int .i64 0, .int .i64 0, .int .u32 0, .int .u32 0, .slice none 0 0, .slice none 0 0] w23 [] [.int .i64 2, .int .i64 1, .int .i64 0, .int .i64 0, .int .i64 0, .int .i64 (-1048576), .int .i64 0, .int .u32 0, .int .u32 0, .slice none 0 0, .slice none 0 0] rfl Vo.out
          have hbb : Below _ _ w24 := hse ▸ below_setCells geo [.int .i64 2, .int .i64 1, .int .i64 0, .int .i64 0, .int .i64 0, .int .i64 0, .int .i64 0, .int .u32 0, .int .u32 0, .slice none 0 0, .slice none 0 0] 0 w23 HB.out.1
          have hbs : w24.heap.size = w23.heap.size := by rw [← hse, size_setCells]
          replace Vo := Lib.hid Vo2
          clear Vo2
          replace Vg := Lib.hid Vg2
          clear Vg2
          replace Vc := Lib.hid Vc2
          clear Vc2
          replace HB := Lib.hid (And.intro hbb (show _ ≤ w24.heap.size by rw [hbs]; exact HB.out.2))
          clear hbb hbs hse
          obtain ⟨pcg0, pcg1, pcg2, pcg3, pcg4, pcg5, pcg6, pcg7, pcg8, pcg9⟩ := row10 Vg.out
          obtain ⟨pfg0, pfg1, pfg2, pfg3, pfg4, pfg5, pfg6, pfg7, pfg8, pfg9⟩ := frz10 Vg.out
          obtain ⟨w25, hw25⟩ : ∃ W, ((((((((((w24.setCell ⟨sg, 0, none⟩ (.int .i64 31)).setCell ⟨sg, 1, none⟩ (.int .i64 1)).setCell ⟨sg, 2, none⟩ (.int .i64 0)).setCell ⟨sg, 3, none⟩ (.int .i64 0)).setCell ⟨sg, 4, none⟩ (.int .i64 (-1))).setCell ⟨sg, 5, none⟩ (.int .i64 0)).setCell ⟨sg, 6, none⟩ (.bool false)).setCell ⟨sg, 7, none⟩ (.bool false)).setCell ⟨sg, 8, none⟩ (.int .i64 0)).setCell ⟨sg, 9, none⟩ (.bool false)) = W := ⟨_, rfl⟩
          have hse : w24.setCells (sg) 0 [.int .i64 31, .int .i64 1, .int .i64 0, .int .i64 0, .int .i64 (-1), .int .i64 0, .bool false, .bool false, .int .i64 0, .bool false] = w25 := hw25
          have Vo2 : w25.heap[so]? = some (.cells #[.int .i64 2, .int .i64 1, .int .i64 0, .int .i64 0, .int .i64 0, .int .i64 0, .int .i64 0, .int .u32 0, .int .u32 0, .slice none 0 0, .slice none 0 0] 29) := hse ▸ (heap_setCells_ne neo_g [.int .i64 31, .int .i64 1, .int .i64 0, .int .i64 0, .int .i64 (-1), .int .i64 0, .bool false, .bool false, .int .i64 0, .bool false] 0 w24).trans Vo.out
          have Vc2 : w25.heap[sc]? = some (.cells #[.bool false, .bool false, .bool false, .int .i64 0, .int .i64 0, .int .u64 0, .slice none 0 0] 38) := hse ▸ (heap_setCells_ne neg_c.symm [.int .i64 31, .int .i64 1, .int .i64 0, .int .i64 0, .int .i64 (-1), .int .i64 0, .bool false, .bool false, .int .i64 0, .bool false] 0 w24).trans Vc.out
          have Vg2 : w25.heap[sg]? = some (.cells #[.int .i64 31, .int .i64 1, .int .i64 0, .int .i64 0, .int .i64 (-1), .int .i64 0, .bool false, .bool false, .int .i64 0, .bool false] 31) := hse ▸ heap_setCells [.int .i64 31, .int .i64 1, .int .i64 0, .int .i64 0, .int .i64 (-1), .int .i64 0, .bool false, .bool false, .int .i64 0, .bool false] w24 [] [.int .i64 31, .int .i64 0, .int .i64 0, .int .i64 0, .int .i64 (-1), .int .i64 0, .bool false, .bool false, .int .i64 0, .bool false] rfl Vg.out
          have hbb : Below _ _ w25 := hse ▸ below_setCells geg [.int .i64 31, .int .i64 1, .int .i64 0, .int .i64 0, .int .i64 (-1), .int .i64 0, .bool false, .bool false, .int .i64 0, .bool false] 0 w24 HB.out.1
          have hbs : w25.heap.size = w24.heap.size := by rw [← hse, size_setCells]
          replace Vo := Lib.hid Vo2
          clear Vo2
          replace Vg := Lib.hid Vg2
          clear Vg2
          replace Vc := Lib.hid Vc2
          clear Vc2
          replace HB := Lib.hid (And.intro hbb (show _ ≤ w25.heap.size by rw [hbs]; exact HB.out.2))
          clear hbb hbs hse
          obtain ⟨pcc0, pcc1, pcc2, pcc3, pcc4, pcc5, pcc6⟩ := row7 Vc.out
          obtain ⟨pfc0, pfc1, pfc2, pfc3, pfc4, pfc5, pfc6⟩ := frz7 Vc.out
          obtain ⟨w26, hw26⟩ : ∃ W, (((((((w25.setCell ⟨sc, 0, none⟩ (.bool false)).setCell ⟨sc, 1, none⟩ (.bool false)).setCell ⟨sc, 2, none⟩ (.bool false)).setCell ⟨sc, 3, none⟩ (.int .i64 0)).setCell ⟨sc, 4, none⟩ (.int .i64 0)).setCell ⟨sc, 5, none⟩ (.int .u64 0)).setCell ⟨sc, 6, none⟩ (.slice none 0 0)) = W := ⟨_, rfl⟩
          have hse : w25.setCells (sc) 0 [.bool false, .bool false, .bool false, .int .i64 0, .int .i64 0, .int .u64 0, .slice none 0 0] = w26 := hw26
          have Vo2 : w26.heap[so]? = some (.cells #[.int .i64 2, .int .i64 1, .int .i64 0, .int .i64 0, .int .i64 0, .int .i64 0, .int .i64 0, .int .u32 0, .int .u32 0, .slice none 0 0, .slice none 0 0] 29) := hse ▸ (heap_setCells_ne neo_c [.bool false, .bool false, .bool false, .int .i64 0, .int .i64 0, .int .u64 0, .slice none 0 0] 0 w25).trans Vo.out
          have Vg2 : w26.heap[sg]? = some (.cells #[.int .i64 31, .int .i64 1, .int .i64 0, .int .i64 0, .int .i64 (-1), .int .i64 0, .bool false, .bool false, .int .i64 0, .bool false] 31) := hse ▸ (heap_setCells_ne neg_c [.bool false, .bool false, .bool false, .int .i64 0, .int .i64 0, .int .u64 0, .slice none 0 0] 0 w25).trans Vg.out
          have Vc2 : w26.heap[sc]? = some (.cells #[.bool false, .bool false, .bool false, .int .i64 0, .int .i64 0, .int .u64 0, .slice none 0 0] 38) := hse ▸ heap_setCells [.bool false, .bool false, .bool false, .int .i64 0, .int .i64 0, .int .u64 0, .slice none 0 0] w25 [] [.bool false, .bool false, .bool false, .int .i64 0, .int .i64 0, .int .u64 0, .slice none 0 0] rfl Vc.out
          have hbb : Below _ _ w26 := hse ▸ below_setCells gec [.bool false, .bool false, .bool false, .int .i64 0, .int .i64 0, .int .u64 0, .slice none 0 0] 0 w25 HB.out.1
          have hbs : w26.heap.size = w25.heap.size := by rw [← hse, size_setCells]
          replace Vo := Lib.hid Vo2
          clear Vo2
          replace Vg := Lib.hid Vg2
          clear Vg2
          replace Vc := Lib.hid Vc2
          clear Vc2
          replace HB := Lib.hid (And.intro hbb (show _ ≤ w26.heap.size by rw [hbs]; exact HB.out.2))
          clear hbb hbs hse
          obtain ⟨co0, co1, co2, co3, co4, co5, co6, co7, co8, co9, co10⟩ := row11 Vo.out
          obtain ⟨cg0, cg1, cg2, cg3, cg4, cg5, cg6, cg7, cg8, cg9⟩ := row10 Vg.out
          go_wp2_with fail
          refine (K6.out _).mono ?_
          rintro e w27 ⟨rfl, hb⟩
          clear pco0 pco1 pco2 pco3 pco4 pco5 pco6 pco7 pco8 pco9 pco10 pfo0 pfo1 pfo2 pfo3 pfo4 pfo5 pfo6 pfo7 pfo8 pfo9 pfo10 hw24 pcg0 pcg1 pcg2 pcg3 pcg4 pcg5 pcg6 pcg7 pcg8 pcg9 pfg0 pfg1 pfg2 pfg3 pfg4 pfg5 pfg6 pfg7 pfg8 pfg9 hw25 pcc0 pcc1 pcc2 pcc3 pcc4 pcc5 pcc6 pfc0 pfc1 pfc2 pfc3 pfc4 pfc5 pfc6 hw26 co0 co1 co2 co3 co4 co5 co6 co7 co8 co9 co10 cg0 cg1 cg2 cg3 cg4 cg5 cg6 cg7 cg8 cg9
          replace Vo := Lib.hid (blk_below Vo.out hb (blk_lt Vo.out))
          replace Vg := Lib.hid (blk_below Vg.out hb (blk_lt Vg.out))
          replace Vc := Lib.hid (blk_below Vc.out hb (blk_lt Vc.out))
          replace HB := Lib.hid (And.intro (HB.out.1.trans (hb.mono HB.out.2)) (Nat.le_trans HB.out.2 hb.size))
          clear hb
          have lto := blk_lt Vo.out
          have ltg := blk_lt Vg.out
          have ltc := blk_lt Vc.out
          have gq := HB.out.2
          obtain ⟨w28, hw28⟩ : ∃ W, (w27.alloc (.cells #[.bool false, .bool false, .bool false, .int .i64 0, .int .i64 0, .int .u64 0, .slice none 0 0] 38)) = W := ⟨_, rfl⟩
          have hb : Below w27.heap.size w27 w28 := hw28 ▸ ((Below.refl _ _).alloc (Nat.le_refl _) _)
          have hv0 : w28.heap[w27.heap.size]? = some (.cells #[.bool false, .bool false, .bool false, .int .i64 0, .int .i64 0, .int .u64 0, .slice none 0 0] 38) := by
            have h0 := heap_alloc_new w27 (.cells #[.bool false, .bool false, .bool false, .int .i64 0, .int .i64 0, .int .u64 0, .slice none 0 0] 38)
            rw [show w27.heap.size = w27.heap.size by simp [Nat.add_assoc]] at h0
            rw [← hw28]
            exact h0
          replace Vo := Lib.hid (blk_below Vo.out hb (blk_lt Vo.out))
          replace Vg := Lib.hid (blk_below Vg.out hb (blk_lt Vg.out))
          replace Vc := Lib.hid (blk_below Vc.out hb (blk_lt Vc.out))
          replace HB := Lib.hid (And.intro (HB.out.1.trans (hb.mono HB.out.2)) (Nat.le_trans HB.out.2 hb.size))
          have Vd := Lib.hid hv0
          have neo_d := Nat.ne_of_lt lto
          have neg_d := Nat.ne_of_lt ltg
          have nec_d := Nat.ne_of_lt ltc
          have ged := gq
          generalize hsd : w27.heap.size = sd at *
          clear hb gq hv0 lto ltg ltc
          obtain ⟨pco0, pco1, pco2, pco3, pco4, pco5, pco6, pco7, pco8, pco9, pco10⟩ := row11 Vo.out
          obtain ⟨pfo0, pfo1, pfo2, pfo3, pfo4, pfo5, pfo6, pfo7, pfo8, pfo9, pfo10⟩ := frz11 Vo.out
          obtain ⟨w29, hw29⟩ : ∃ W, (((((((((((w28.setCell ⟨so, 0, none⟩ (.int .i64 2)).setCell ⟨so, 1, none⟩ (.int .i64 1)).setCell ⟨so, 2, none⟩ (.int .i64 0)).setCell ⟨so, 3, none⟩ (.int .i64 0)).setCell ⟨so, 4, none⟩ (.int .i64 0)).setCell ⟨so, 5, none⟩ (.int .i64 0)).setCell ⟨so, 6, none⟩ (.int .i64 0)).setCell ⟨so, 7, none⟩ (.int .u32 0)).setCell ⟨so, 8, none⟩ (.int .u32 0)).setCell ⟨so, 9, none⟩ (.slice none 0 0)).setCell ⟨so, 10, none⟩ (.slice none 0 0)) = W := ⟨_, rfl⟩
          have hse : w28.setCells (so) 0 [.int .i64 2, .int .i64 1, .int .i64 0, .int .i64 0, .int .i64 0, .int .i64 0, .int .i64 0, .int .u32 0, .int .u32 0, .slice none 0 0, .slice none 0 0] = w29 := hw29
          have Vg2 : w29.heap[sg]? = some (.cells #[.int .i64 31, .int .i64 1, .int .i64 0, .int .i64 0, .int .i64 (-1), .int .i64 0, .bool false, .bool false, .int .i64 0, .bool false] 31) := hse ▸ (heap_setCells_ne neo_g.symm [.int .i64 2, .int .i64 1, .int .i64 0, .int .i64 0, .int .i64 0, .int .i64 0, .int .i64 0, .int .u32 0, .int .u32 0, .slice none 0 0, .slice none 0 0] 0 w28).trans Vg.out
          have Vc2 : w29.heap[sc]? = some (.cells #[.bool false, .bool false, .bool false, .int .i64 0, .int .i64 0, .int .u64 0, .slice none 0 0] 38) := hse ▸ (heap_setCells_ne neo_c.symm [.int .i64 2, .int .i64 1, .int .i64 0, .int .i64 0, .int .i64 0, .int .i64 0, .int .i64 0, .int .u32 0, .int .u32 0, .slice none 0 0, .slice none 0 0] 0 w28).trans Vc.out
          have Vd2 : w29.heap[sd]? = some (.cells #[.bool false, .bool false, .bool false, .int .i64 0, .int .i64 0, .int .u64 0, .slice none 0 0] 38) := hse ▸ (heap_setCells_ne neo_d.symm [.int .i64 2, .int .i64 1, .int .i64 0, .int .i64 0, .int .i64 0, .int .i64 0, .int .i64 0, .int .u32 0, .int .u32 0, .slice none 0 0, .slice none 0 0] 0 w28).trans Vd.out
          have Vo2 : w29.heap[so]? = some (.cells #[.int .i64 2, .int .i64 1, .int .i64 0, .int .i64 0, .int .i64 0, .int .i64 0, .int .i64 0, .int .u32 0, .int .u32 0, .slice none 0 0, .slice none 0 0] 29) := hse ▸ heap_setCells [.int .i64 2, .int .i64 1, .int .i64 0, .int .i64 0, .int .i64 0, .int .i64 0, .int .i64 0, .int .u32 0, .int .u32 0, .slice none 0 0, .slice none 0 0] w28 [] [.int .i64 2, .int .i64 1, .int .i64 0, .int .i64 0, .int .i64 0, .int .i64 0, .int .i64 0, .int .u32 0, .int .u32 0, .slice none 0 0, .slice none 0 0] rfl Vo.out
          have hbb : Below _ _ w29 := hse ▸ below_setCells geo [.int .i64 2, .int .i64 1, .int .i64 0, .int .i64 0, .int .i64 0, .int .i64 0, .int .i64 0, .int .u32 0, .int .u32 0, .slice none 0 0, .slice none 0 0] 0 w28 HB.out.1
          have hbs : w29.heap.size = w28.heap.size := by rw [← hse, size_setCells]
          replace Vo := Lib.hid Vo2
          clear Vo2
          replace Vg := Lib.hid Vg2
          clear Vg2
          replace Vc := Lib.hid Vc2
          clear Vc2
          replace Vd := Lib.hid Vd2
          clear Vd2
          replace HB := Lib.hid (And.intro hbb (show _ ≤ w29.heap.size by rw [hbs]; exact HB.out.2))
          clear hbb hbs hse
          obtain ⟨pcg0, pcg1, pcg2, pcg3, pcg4, pcg5, pcg6, pcg7, pcg8, pcg9⟩ := row10 Vg.out
          obtain ⟨pfg0, pfg1, pfg2, pfg3, pfg4, pfg5, pfg6, pfg7, pfg8, pfg9⟩ := frz10 Vg.out
          obtain ⟨w30, hw30⟩ : ∃ W, ((((((((((w29.setCell ⟨sg, 0, none⟩ (.int .i64 31)).setCell ⟨sg, 1, none⟩ (.int .i64 2)).setCell ⟨sg, 2, none⟩ (.int .i64 0)).setCell ⟨sg, 3, none⟩ (.int .i64 0)).setCell ⟨sg, 4, none⟩ (.int .i64 (-1))).setCell ⟨sg, 5, none⟩ (.int .i64 0)).setCell ⟨sg, 6, none⟩ (.bool false)).setCell ⟨sg, 7, none⟩ (.bool false)).setCell ⟨sg, 8, none⟩ (.int .i64 0)).setCell ⟨sg, 9, none⟩ (.bool false)) = W := ⟨_, rfl⟩
          have hse : w29.setCells (sg) 0 [.int .i64 31, .int .i64 2, .int .i64 0, .int .i64 0, .int .i64 (-1), .int .i64 0, .bool false, .bool false, .int .i64 0, .bool false] = w30 := hw30
          have Vo2 : w30.heap[so]? = some (.cells #[.int .i64 2, .int .i64 1, .int .i64 0, .int .i64 0, .int .i64 0, .int .i64 0, .int .i64 0, .int .u32 0, .int .u32 0, .slice none 0 0, .slice none 0 0] 29) := hse ▸ (heap_setCells_ne neo_g [.int .i64 31, .int .i64 2, .int .i64 0, .int .i64 0, .int .i64 (-1), .int .i64 0, .bool false, .bool false, .int .i64 0, .bool false] 0 w29).trans Vo.out
          have Vc2 : w30.heap[sc]? = some (.cells #[.bool false, .bool false, .bool false, .int .i64 0, .int .i64 0, .int .u64 0, .slice none 0 0] 38) := hse ▸ (heap_setCells_ne neg_c.symm [.int .i64 31, .int .i64 2, .int .i64 0, .int .i64 0, .int .i64 (-1), .int .i64 0, .bool false, .bool false, .int .i64 0, .bool false] 0 w29).trans Vc.out
          have Vd2 : w30.heap[sd]? = some (.cells #[.bool false, .bool false, .bool false, .int .i64 0, .int .i64 0, .int .u64 0, .slice none 0 0] 38) := hse ▸ (heap_setCells_ne neg_d.symm [.int .i64 31, .int .i64 2, .int .i64 0, .int .i64 0, .int .i64 (-1), .int .i64 0, .bool false, .bool false, .int .i64 0, .bool false] 0 w29).trans Vd.out
          have Vg2 : w30.heap[sg]? = some (.cells #[.int .i64 31, .int .i64 2, .int .i64 0, .int .i64 0, .int .i64 (-1), .int .i64 0, .bool false, .bool false, .int .i64 0, .bool false] 31) := hse ▸ heap_setCells [.int .i64 31, .int .i64 2, .int .i64 0, .int .i64 0, .int .i64 (-1), .int .i64 0, .bool false, .bool false, .int .i64 0, .bool false] w29 [] [.int .i64 31, .int .i64 1, .int .i64 0, .int .i64 0, .int .i64 (-1), .int .i64 0, .bool false, .bool false, .int .i64 0, .bool false] rfl Vg.out
          have hbb : Below _ _ w30 := hse ▸ below_setCells geg [.int .i64 31, .int .i64 2, .int .i64 0, .int .i64 0, .int .i64 (-1), .int .i64 0, .bool false, .bool false, .int .i64 0, .bool false] 0 w29 HB.out.1
          have hbs : w30.heap.size = w29.heap.size := by rw [← hse, size_setCells]
          replace Vo := Lib.hid Vo2
          clear Vo2
          replace Vg := Lib.hid Vg2
          clear Vg2
          replace Vc := Lib.hid Vc2
          clear Vc2
          replace Vd := Lib.hid Vd2
          clear Vd2
          replace HB := Lib.hid (And.intro hbb (show _ ≤ w30.heap.size by rw [hbs]; exact HB.out.2))
          clear hbb hbs hse
          obtain ⟨pcd0, pcd1, pcd2, pcd3, pcd4, pcd5, pcd6⟩ := row7 Vd.out
          obtain ⟨pfd0, pfd1, pfd2, pfd3, pfd4, pfd5, pfd6⟩ := frz7 Vd.out
          obtain ⟨w31, hw31⟩ : ∃ W, (((((((w30.setCell ⟨sd, 0, none⟩ (.bool false)).setCell ⟨sd, 1, none⟩ (.bool false)).setCell ⟨sd, 2, none⟩ (.bool false)).setCell ⟨sd, 3, none⟩ (.int .i64 0)).setCell ⟨sd, 4, none⟩ (.int .i64 0)).setCell ⟨sd, 5, none⟩ (.int .u64 0)).setCell ⟨sd, 6, none⟩ (.slice none 0 0)) = W := ⟨_, rfl⟩
          have hse : w30.setCells (sd) 0 [.bool false, .bool false, .bool false, .int .i64 0, .int .i64 0, .int .u64 0, .slice none 0 0] = w31 := hw31
          have Vo2 : w31.heap[so]? = some (.cells #[.int .i64 2, .int .i64 1, .int .i64 0, .int .i64 0, .int .i64 0, .int .i64 0, .int .i64 0, .int .u32 0, .int .u32 0, .slice none 0 0, .slice none 0 0] 29) := hse ▸ (heap_setCells_ne neo_d [.bool false, .bool false, .bool false, .int .i64 0, .int .i64 0, .int .u64 0, .slice none 0 0] 0 w30).trans Vo.out
          have Vg2 : w31.heap[sg]? = some (.cells #[.int .i64 31, .int .i64 2, .int .i64 0, .int .i64 0, .int .i64 (-1), .int .i64 0, .bool false, .bool false, .int .i64 0, .bool false] 31) := hse ▸ (heap_setCells_ne neg_d [.bool false, .bool false, .bool false, .int .i64 0, .int .i64 0, .int .u64 0, .slice none 0 0] 0 w30).trans Vg.out
          have Vc2 : w31.heap[sc]? = some (.cells #[.bool false, .bool false, .bool false, .int .i64 0, .int .i64 0, .int .u64 0, .slice none 0 0] 38) := hse ▸ (heap_setCells_ne nec_d [.bool false, .bool false, .bool false, .int .i64 0, .int .i64 0, .int .u64 0, .slice none 0 0] 0 w30).trans Vc.out
          have Vd2 : w31.heap[sd]? = some (.cells #[.bool false, .bool false, .bool false, .int .i64 0, .int .i64 0, .int .u64 0, .slice none 0 0] 38) := hse ▸ heap_setCells [.bool false, .bool false, .bool false, .int .i64 0, .int .i64 0, .int .u64 0, .slice none 0 0] w30 [] [.bool false, .bool false, .bool false, .int .i64 0, .int .i64 0, .int .u64 0, .slice none 0 0] rfl Vd.out
          have hbb : Below _ _ w31 := hse ▸ below_setCells ged [.bool false, .bool false, .bool false, .int .i64 0, .int .i64 0, .int .u64 0, .slice none 0 0] 0 w30 HB.out.1
          have hbs : w31.heap.size = w30.heap.size := by rw [← hse, size_setCells]
          replace Vo := Lib.hid Vo2
          clear Vo2
          replace Vg := Lib.hid Vg2
          clear Vg2
          replace Vc := Lib.hid Vc2
          clear Vc2
          replace Vd := Lib.hid Vd2
          clear Vd2
          replace HB := Lib.hid (And.intro hbb (show _ ≤ w31.heap.size by rw [hbs]; exact HB.out.2))
          clear hbb hbs hse
          obtain ⟨co0, co1, co2, co3, co4, co5, co6, co7, co8, co9, co10⟩ := row11 Vo.out
          obtain ⟨cg0, cg1, cg2, cg3, cg4, cg5, cg6, cg7, cg8, cg9⟩ := row10 Vg.out
          go_wp2_with fail
          refine (K7.out _).mono ?_
          rintro e w32 ⟨rfl, hb⟩
          clear pco0 pco1 pco2 pco3 pco4 pco5 pco6 pco7 pco8 pco9 pco10 pfo0 pfo1 pfo2 pfo3 pfo4 pfo5 pfo6 pfo7 pfo8 pfo9 pfo10 hw29 pcg0 pcg1 pcg2 pcg3 pcg4 pcg5 pcg6 pcg7 pcg8 pcg9 pfg0 pfg1 pfg2 pfg3 pfg4 pfg5 pfg6 pfg7 pfg8 pfg9 hw30 pcd0 pcd1 pcd2 pcd3 pcd4 pcd5 pcd6 pfd0 pfd1 pfd2 pfd3 pfd4 pfd5 pfd6 hw31 co0 co1 co2 co3 co4 co5 co6 co7 co8 co9 co10 cg0 cg1 cg2 cg3 cg4 cg5 cg6 cg7 cg8 cg9
          replace Vo := Lib.hid (blk_below Vo.out hb (blk_lt Vo.out))
          replace Vg := Lib.hid (blk_below Vg.out hb (blk_lt Vg.out))
          replace Vc := Lib.hid (blk_below Vc.out hb (blk_lt Vc.out))
          replace Vd := Lib.hid (blk_below Vd.out hb (blk_lt Vd.out))
          replace HB := Lib.hid (And.intro (HB.out.1.trans (hb.mono HB.out.2)) (Nat.le_trans HB.out.2 hb.size))
          clear hb
          have lto := blk_lt Vo.out
          have ltg := blk_lt Vg.out
          have ltc := blk_lt Vc.out
          have ltd := blk_lt Vd.out
          have gq := HB.out.2
          obtain ⟨w33, hw33⟩ : ∃ W, (w32.alloc (.cells #[.bool false, .bool false, .bool false, .int .i64 0, .int .i64 0, .int .u64 0, .slice none 0 0] 38)) = W := ⟨_, rfl⟩
          have hb : Below w32.heap.size w32 w33 := hw33 ▸ ((Below.refl _ _).alloc (Nat.le_refl _) _)
          have hv0 : w33.heap[w32.heap.size]? = some (.cells #[.bool false, .bool false, .bool false, .int .i64 0, .int .i64 0, .int .u64 0, .slice none 0 0] 38) := by
            have h0 := heap_alloc_new w32 (.cells #[.bool false, .bool false, .bool false, .int .i64 0, .int .i64 0, .int .u64 0, .slice none 0 0] 38)
            rw [show w32.heap.size = w32.heap.size by simp [Nat.add_assoc]] at h0
            rw [← hw33]
            exact h0
          replace Vo := Lib.hid (blk_below Vo.out hb (blk_lt Vo.out))
          replace Vg := Lib.hid (blk_below Vg.out hb (blk_lt Vg.out))
          replace Vc := Lib.hid (blk_below Vc.out hb (blk_lt Vc.out))
          replace Vd := Lib.hid (blk_below Vd.out hb (blk_lt Vd.out))
          replace HB := Lib.hid (And.intro (HB.out.1.trans (hb.mono HB.out.2)) (Nat.le_trans HB.out.2 hb.size))
          have Ve := Lib.hid hv0
          have neo_e := Nat.ne_of_lt lto
          have neg_e := Nat.ne_of_lt ltg
          have nec_e := Nat.ne_of_lt ltc
          have ned_e := Nat.ne_of_lt ltd
          have gee := gq
          generalize hse : w32.heap.size = se at *
          clear hb gq hv0 lto ltg ltc ltd
          obtain ⟨pco0, pco1, pco2, pco3, pco4, pco5, pco6, pco7, pco8, pco9, pco10⟩ := row11 Vo.out
          obtain ⟨pfo0, pfo1, pfo2, pfo3, pfo4, pfo5, pfo6, pfo7, pfo8, pfo9, pfo10⟩ := frz11 Vo.out
          obtain ⟨w34, hw34⟩ : ∃ W, (((((((((((w33.setCell ⟨so, 0, none⟩ (.int .i64 2)).setCell ⟨so, 1, none⟩ (.int .i64 0)).setCell ⟨so, 2, none⟩ (.int .i64 0)).setCell ⟨so, 3, none⟩ (.int .i64 0)).setCell ⟨so, 4, none⟩ (.int .i64 0)).setCell ⟨so, 5, none⟩ (.int .i64 0)).setCell ⟨so, 6, none⟩ (.int .i64 0)).setCell ⟨so, 7, none⟩ (.int .u32 0)).setCell ⟨so, 8, none⟩ (.int .u32 0)).setCell ⟨so, 9, none⟩ (.slice none 0 0)).setCell ⟨so, 10, none⟩ (.slice none 0 0)) = W := ⟨_, rfl⟩
          have hse : w33.setCells (so) 0 [.int .i64 2, .int .i64 0, .int .i64 0, .int .i64 0, .int .i64 0, .int .i64 0, .int .i64 0, .int .u32 0, .int .u32 0, .slice none 0 0, .slice none 0 0] = w34 := hw34
          have Vg2 : w34.heap[sg]? = some (.cells #[.int .i64 31, .int .i64 2, .int .i64 0, .int .i64 0, .int .i64 (-1), .int .i64 0, .bool false, .bool false, .int .i64 0, .bool false] 31) := hse ▸ (heap_setCells_ne neo_g.symm [.int .i64 2, .int .i64 0, .int .i64 0, .int .i64 0, .int .i64 0, .int .i64 0, .int .i64 0, .int .u32 0, .int .u32 0, .slice none 0 0, .slice none 0 0] 0 w33).trans Vg.out
          have Vc2 : w34.heap[sc]? = some (.cells #[.bool false, .bool false, .bool false, .int .i64 0, .int .i64 0, .int .u64 0, .slice none 0 0] 38) := hse ▸ (heap_setCells_ne neo_c.symm [.int .i64 2, .int .i64 0, .int .i64 0, .int .i64 0, .int .i64 0, .int .i64 0, .int .i64 0, .int .u32 0, .int .u32 0, .slice none 0 0, .slice none 0 0] 0 w33).trans Vc.out
          have Vd2 : w34.heap[sd]? = some (.cells #[.bool false, .bool false, .bool false, .int .i64 0, .int .i64 0, .int .u64 0, .slice none 0 0] 38) := hse ▸ (heap_setCells_ne neo_d.symm [.int .i64 2, .int .i64 0, .int .i64 0, .int .i64 0, .int .i64 0, .int .i64 0, .int .i64 0, .int .u32 0, .int .u32 0, .slice none 0 0, .slice none 0 0] 0 w33).trans Vd.out
          have Ve2 : w34.heap[se]? = some (.cells #[.bool false, .bool false, .bool false, .int .i64 0, .int .i64 0, .int .u64 0, .slice none 0 0] 38) := hse ▸ (heap_setCells_ne neo_e.symm [.int .i64 2, .int .i64 0, .int .i64 0, .int .i64 0, .int .i64 0, .int .i64 0, .int .i64 0, .int .u32 0, .int .u32 0, .slice none 0 0, .slice none 0 0] 0 w33).trans Ve.out
          have Vo2 : w34.heap[so]? = some (.cells #[.int .i64 2, .int .i64 0, .int .i64 0, .int .i64 0, .int .i64 0, .int .i64 0, .int .i64 0, .int .u32 0, .int .u32 0, .slice none 0 0, .slice none 0 0] 29) := hse ▸ heap_setCells [.int .i64 2, .int .i64 0, .int .i64 0, .int .i64 0, .int .i64 0, .int .i64 0, .int .i64 0, .int .u32 0, .int .u32 0, .slice none 0 0, .slice none 0 0] w33 [] [.int .i64 2, .int .i64 1, .int .i64 0, .int .i64 0, .int .i64 0, .int .i64 0, .int .i64 0, .int .u32 0, .int .u32 0, .slice none 0 0, .slice none 0 0] rfl Vo.out
          have hbb : Below _ _ w34 := hse ▸ below_setCells geo [.int .i64 2, .int .i64 0, .int .i64 0, .int .i64 0, .int .i64 0, .int .i64 0, .int .i64 0, .int .u32 0, .int .u32 0, .slice none 0 0, .slice none 0 0] 0 w33 HB.out.1
          have hbs : w34.heap.size = w33.heap.size := by rw [← hse, size_setCells]
          replace Vo := Lib.hid Vo2
          clear Vo2
          replace Vg := Lib.hid Vg2
          clear Vg2
          replace Vc := Lib.hid Vc2
          clear Vc2
          replace Vd := Lib.hid Vd2
          clear Vd2
          replace Ve := Lib.hid Ve2
          clear Ve2
          replace HB := Lib.hid (And.intro hbb (show _ ≤ w34.heap.size by rw [hbs]; exact HB.out.2))
          clear hbb hbs hse
          obtain ⟨pcg0, pcg1, pcg2, pcg3, pcg4, pcg5, pcg6, pcg7, pcg8, pcg9⟩ := row10 Vg.out
          obtain ⟨pfg0, pfg1, pfg2, pfg3, pfg4, pfg5, pfg6, pfg7, pfg8, pfg9⟩ := frz10 Vg.out
          obtain ⟨w35, hw35⟩ : ∃ W, ((((((((((w34.setCell ⟨sg, 0, none⟩ (.int .i64 0)).setCell ⟨sg, 1, none⟩ (.int .i64 0)).setCell ⟨sg, 2, none⟩ (.int .i64 0)).setCell ⟨sg, 3, none⟩ (.int .i64 0)).setCell ⟨sg, 4, none⟩ (.int .i64 0)).setCell ⟨sg, 5, none⟩ (.int .i64 0)).setCell ⟨sg, 6, none⟩ (.bool false)).setCell ⟨sg, 7, none⟩ (.bool false)).setCell ⟨sg, 8, none⟩ (.int .i64 0)).setCell ⟨sg, 9, none⟩ (.bool false)) = W := ⟨_, rfl⟩
          have hse : w34.setCells (sg) 0 [.int .i64 0, .int .i64 0, .int .i64 0, .int .i64 0, .int .i64 0, .int .i64 0, .bool false, .bool false, .int .i64 0, .bool false] = w35 := hw35
          have Vo2 : w35.heap[so]? = some (.cells #[.int .i64 2, .int .i64 0, .int .i64 0, .int .i64 0, .int .i64 0, .int .i64 0, .int .i64 0, .int .u32 0, .int .u32 0, .slice none 0 0, .slice none 0 0] 29) := hse ▸ (heap_setCells_ne neo_g [.int .i64 0, .int .i64 0, .int .i64 0, .int .i64 0, .int .i64 0, .int .i64 0, .bool false, .bool false, .int .i64 0, .bool false] 0 w34).trans Vo.out
          have Vc2 : w35.heap[sc]? = some (.cells #[.bool false, .bool false, .bool false, .int .i64 0, .int .i64 0, .int .u64 0, .slice none 0 0] 38) := hse ▸ (heap_setCells_ne neg_c.symm [.int .i64 0, .int .i64 0, .int .i64 0, .int .i64 0, .int .i64 0, .int .i64 0, .bool false, .bool false, .int .i64 0, .bool false] 0 w34).trans Vc.out
          have Vd2 : w35.heap[sd]? = some (.cells #[.bool false, .bool false, .bool false, .int .i64 0, .int .i64 0, .int .u64 0, .slice none 0 0] 38) := hse ▸ (heap_setCells_ne neg_d.symm [.int .i64 0, .int .i64 0, .int .i64 0, .int .i64 0, .int .i64 0, .int .i64 0, .bool false, .bool false, .int .i64 0, .bool false] 0 w34).trans Vd.out
          have Ve2 : w35.heap[se]? = some (.cells #[.bool false, .bool false, .bool false, .int .i64 0, .int .i64 0, .int .u64 0, .slice none 0 0] 38) := hse ▸ (heap_setCells_ne neg_e.symm [.int .i64 0, .int .i64 0, .int .i64 0, .int .i64 0, .int .i64 0, .int .i64 0, .bool false, .bool false, .int .i64 0, .bool false] 0 w34).trans Ve.out
          have Vg2 : w35.heap[sg]? = some (.cells #[.int .i64 0, .int .i64 0, .int .i64 0, .int .i64 0, .int .i64 0, .int .i64 0, .bool false, .bool false, .int .i64 0, .bool false] 31) := hse ▸ heap_setCells [.int .i64 0, .int .i64 0, .int .i64 0, .int .i64 0, .int .i64 0, .int .i64 0, .bool false, .bool false, .int .i64 0, .bool false] w34 [] [.int .i64 31, .int .i64 2, .int .i64 0, .int .i64 0, .int .i64 (-1), .int .i64 0, .bool false, .bool false, .int .i64 0, .bool false] rfl Vg.out
          have hbb : Below _ _ w35 := hse ▸ below_setCells geg [.int .i64 0, .int .i64 0, .int .i64 0, .int .i64 0, .int .i64 0, .int .i64 0, .bool false, .bool false, .int .i64 0, .bool false] 0 w34 HB.out.1
          have hbs : w35.heap.size = w34.heap.size := by rw [← hse, size_setCells]
          replace Vo := Lib.hid Vo2
          clear Vo2
          replace Vg := Lib.hid Vg2
          clear Vg2
          replace Vc := Lib.hid Vc2
          clear Vc2
          replace Vd := Lib.hid Vd2
          clear Vd2
          replace Ve := Lib.hid Ve2
          clear Ve2
          replace HB := Lib.hid (And.intro hbb (show _ ≤ w35.heap.size by rw [hbs]; exact HB.out.2))
          clear hbb hbs hse
          obtain ⟨pce0, pce1, pce2, pce3, pce4, pce5, pce6⟩ := row7 Ve.out
          obtain ⟨pfe0, pfe1, pfe2, pfe3, pfe4, pfe5, pfe6⟩ := frz7 Ve.out
          obtain ⟨w36, hw36⟩ : ∃ W, (((((((w35.setCell ⟨se, 0, none⟩ (.bool true)).setCell ⟨se, 1, none⟩ (.bool false)).setCell ⟨se, 2, none⟩ (.bool false)).setCell ⟨se, 3, none⟩ (.int .i64 0)).setCell ⟨se, 4, none⟩ (.int .i64 0)).setCell ⟨se, 5, none⟩ (.int .u64 0)).setCell ⟨se, 6, none⟩ (.slice none 0 0)) = W := ⟨_, rfl⟩
          have hse : w35.setCells (se) 0 [.bool true, .bool false, .bool false, .int .i64 0, .int .i64 0, .int .u64 0, .slice none 0 0] = w36 := hw36
          have Vo2 : w36.heap[so]? = some (.cells #[.int .i64 2, .int .i64 0, .int .i64 0, .int .i64 0, .int .i64 0, .int .i64 0, .int .i64 0, .int .u32 0, .int .u32 0, .slice none 0 0, .slice none 0 0] 29) := hse ▸ (heap_setCells_ne neo_e [.bool true, .bool false, .bool false, .int .i64 0, .int .i64 0, .int .u64 0, .slice none 0 0] 0 w35).trans Vo.out
          have Vg2 : w36.heap[sg]? = some (.cells #[.int .i64 0, .int .i64 0, .int .i64 0, .int .i64 0, .int .i64 0, .int .i64 0, .bool false, .bool false, .int .i64 0, .bool false] 31) := hse ▸ (heap_setCells_ne neg_e [.bool true, .bool false, .bool false, .int .i64 0, .int .i64 0, .int .u64 0, .slice none 0 0] 0 w35).trans Vg.out
          have Vc2 : w36.heap[sc]? = some (.cells #[.bool false, .bool false, .bool false, .int .i64 0, .int .i64 0, .int .u64 0, .slice none 0 0] 38) := hse ▸ (heap_setCells_ne nec_e [.bool true, .bool false, .bool false, .int .i64 0, .int .i64 0, .int .u64 0, .slice none 0 0] 0 w35).trans Vc.out
          have Vd2 : w36.heap[sd]? = some (.cells #[.bool false, .bool false, .bool false, .int .i64 0, .int .i64 0, .int .u64 0, .slice none 0 0] 38) := hse ▸ (heap_setCells_ne ned_e [.bool true, .bool false, .bool false, .int .i64 0, .int .i64 0, .int .u64 0, .slice none 0 0] 0 w35).trans Vd.out
          have Ve2 : w36.heap[se]? = some (.cells #[.bool true, .bool false, .bool false, .int .i64 0, .int .i64 0, .int .u64 0, .slice none 0 0] 38) := hse ▸ heap_setCells [.bool true, .bool false, .bool false, .int .i64 0, .int .i64 0, .int .u64 0, .slice none 0 0] w35 [] [.bool false, .bool false, .bool false, .int .i64 0, .int .i64 0, .int .u64 0, .slice none 0 0] rfl Ve.out
          have hbb : Below _ _ w36 := hse ▸ below_setCells gee [.bool true, .bool false, .bool false, .int .i64 0, .int .i64 0, .int .u64 0, .slice none 0 0] 0 w35 HB.out.1
          have hbs : w36.heap.size = w35.heap.size := by rw [← hse, size_setCells]
          replace Vo := Lib.hid Vo2
          clear Vo2
          replace Vg := Lib.hid Vg2
          clear Vg2
          replace Vc := Lib.hid Vc2
          clear Vc2
          replace Vd := Lib.hid Vd2
          clear Vd2
          replace Ve := Lib.hid Ve2
          clear Ve2
          replace HB := Lib.hid (And.intro hbb (show _ ≤ w36.heap.size by rw [hbs]; exact HB.out.2))
          clear hbb hbs hse
          obtain ⟨co0, co1, co2, co3, co4, co5, co6, co7, co8, co9, co10⟩ := row11 Vo.out
          obtain ⟨cg0, cg1, cg2, cg3, cg4, cg5, cg6, cg7, cg8, cg9⟩ := row10 Vg.out
          obtain ⟨cc0, cc1, cc2, cc3, cc4, cc5, cc6⟩ := row7 Vc.out
          obtain ⟨cd0, cd1, cd2, cd3, cd4, cd5, cd6⟩ := row7 Vd.out
          obtain ⟨ce0, ce1, ce2, ce3, ce4, ce5, ce6⟩ := row7 Ve.out
          go_wp2
          go_ret
          exact ⟨rfl, HB.out.1⟩
end Go.Proofs.Ytakojjljnnooaaa
