/- The walk of RwFree: it answers true, over any world; a condition: how many readers is a byte. -/
import Derived.Test.YtpkegfochfkkcaaRwS
namespace Go.Proofs.Ytpkegfochfkkcaa
set_option linter.unusedVariables false
set_option linter.unusedSimpArgs false
open Go.RowKit
set_option maxRecDepth 100000 in
set_option maxHeartbeats 16000000 in
theorem free16_walk (nn now : Int) (w : World) (f0 : 0 ≤ nn) (f1 : nn < 256) : Calls Try.prog 5 #[.int .u8 nn, .int .i64 now] w fun e w' => e = .returned (.bool true) ∧ Below w.heap.size w w' := by
  obtain ⟨m, hm⟩ : ∃ m : Nat, nn = (m : Int) := ⟨nn.toNat, by omega⟩
  subst hm
  have hm1 : m < 256 := by omega
  have hwm : IntKind.i64.wrap (m : Int) = (m : Int) := by rw [IntKind.wrap_i64]; omega
  have AL := Lib.hid alive16
  have K1 := Lib.hid (show ∀ (v u : Int) (hv : 0 ≤ v ∧ v < 256 ∧ u = v + 1) (W : World), Calls Try.prog 9 #[.agg #[.int .i64 2, .int .i64 0, .int .i64 0, .int .i64 0, .int .i64 0, .int .i64 v, .int .i64 0, .int .u32 0, .int .u32 0, .slice none 0 0, .slice none 0 0], .agg #[.int .i64 28, .int .i64 0, .int .i64 0, .int .i64 0, .int .i64 (-1), .int .i64 0, .bool false, .bool false, .int .i64 0, .bool false]] W (fun e w' => e = .returned (.tuple #[.agg #[.int .i64 2, .int .i64 0, .int .i64 0, .int .i64 0, .int .i64 0, .int .i64 u, .int .i64 0, .int .u32 0, .int .u32 0, .slice none 0 0, .slice none 0 0], .agg #[.int .i64 0, .int .i64 0, .int .i64 0, .int .i64 0, .int .i64 0, .int .i64 0, .bool false, .bool false, .int .i64 0, .bool false], .agg #[.bool true, .bool false, .bool false, .int .i64 0, .int .i64 0, .int .u64 0, .slice none 0 0]]) ∧ Below W.heap.size W w') from fun v u hv W => by
    have h := rwRLock_nil 2 0 0 0 0 v 0 0 0 (⟨28, 0, 0, 0, -1, 0, false, false, 0, false⟩ : MFr) ⟨by kernel_rfl, (by rw [IntKind.wrap_i64]; omega), by kernel_rfl⟩ W
    rw [show rlockW 0 v 0 (⟨28, 0, 0, 0, -1, 0, false, false, 0, false⟩ : MFr) = ((0, u, 0), (⟨0, 0, 0, 0, 0, 0, false, false, 0, false⟩ : MFr), (⟨true, 0, false, 0⟩ : MAct)) from (by
      have e : IntKind.i64.wrap (v + 1) = u := by rw [IntKind.wrap_i64]; omega
      unfold rlockW
      rw [if_neg (by decide), if_neg (fun h => h rfl), e, if_neg (by omega)]
      rfl)] at h
    exact h)
  have K2 := Lib.hid (show ∀ (v u : Int) (hv : 0 < v ∧ v < 257 ∧ u = v - 1) (W : World), Calls Try.prog 11 #[.agg #[.int .i64 2, .int .i64 0, .int .i64 0, .int .i64 0, .int .i64 0, .int .i64 v, .int .i64 0, .int .u32 0, .int .u32 0, .slice none 0 0, .slice none 0 0], .agg #[.int .i64 29, .int .i64 0, .int .i64 0, .int .i64 0, .int .i64 (-1), .int .i64 0, .bool false, .bool false, .int .i64 0, .bool false]] W (fun e w' => e = .returned (.tuple #[.agg #[.int .i64 2, .int .i64 0, .int .i64 0, .int .i64 0, .int .i64 0, .int .i64 u, .int .i64 0, .int .u32 0, .int .u32 0, .slice none 0 0, .slice none 0 0], .agg #[.int .i64 0, .int .i64 0, .int .i64 0, .int .i64 0, .int .i64 0, .int .i64 0, .bool false, .bool false, .int .i64 0, .bool false], .agg #[.bool true, .bool false, .bool false, .int .i64 0, .int .i64 0, .int .u64 0, .slice none 0 0]]) ∧ Below W.heap.size W w') from fun v u hv W => by
    have h := rwRUnlock_nil 2 0 0 0 0 v 0 0 0 (⟨29, 0, 0, 0, -1, 0, false, false, 0, false⟩ : MFr) ⟨by kernel_rfl, (by rw [IntKind.wrap_i64]; omega), by kernel_rfl⟩ W
    rw [show runlockW 0 v 0 (⟨29, 0, 0, 0, -1, 0, false, false, 0, false⟩ : MFr) = ((0, u, 0), (⟨0, 0, 0, 0, 0, 0, false, false, 0, false⟩ : MFr), (⟨true, 0, false, 0⟩ : MAct)) from (by
      have e : IntKind.i64.wrap (v - 1) = u := by rw [IntKind.wrap_i64]; omega
      unfold runlockW
      rw [if_pos rfl, e, if_neg (by omega), if_neg (by omega)]
      rfl)] at h
    exact h)
  have K3 := Lib.hid (show ∀ (W : World), Calls Try.prog 16 #[.agg #[.int .i64 2, .int .i64 0, .int .i64 0, .int .i64 0, .int .i64 0, .int .i64 0, .int .i64 0, .int .u32 0, .int .u32 0, .slice none 0 0, .slice none 0 0], .agg #[.int .i64 30, .int .i64 0, .int .i64 0, .int .i64 0, .int .i64 (-1), .int .i64 0, .bool false, .bool false, .int .i64 0, .bool false], .int .i64 now, .int .i64 9] W (fun e w' => e = .returned (.tuple #[.agg #[.int .i64 2, .int .i64 1, .int .i64 0, .int .i64 0, .int .i64 0, .int .i64 0, .int .i64 0, .int .u32 0, .int .u32 0, .slice none 0 0, .slice none 0 0], .agg #[.int .i64 30, .int .i64 1, .int .i64 0, .int .i64 0, .int .i64 (-1), .int .i64 0, .bool false, .bool false, .int .i64 0, .bool false], .agg #[.bool false, .bool false, .bool false, .int .i64 0, .int .i64 0, .int .u64 0, .slice none 0 0]]) ∧ Below W.heap.size W w') from fun W => by
    have h := rwWLock_nil 2 0 0 0 0 0 0 0 0 (⟨30, 0, 0, 0, -1, 0, false, false, 0, false⟩ : MFr) now 9 ⟨by kernel_rfl, by kernel_rfl, by kernel_rfl⟩ W
    rw [show wlockW 0 0 0 (⟨30, 0, 0, 0, -1, 0, false, false, 0, false⟩ : MFr) now 9 = ((1, 0, 0), (⟨30, 1, 0, 0, -1, 0, false, false, 0, false⟩ : MFr), (⟨false, 0, false, 0⟩ : MAct)) from (by rfl)] at h
    exact h)
  have K4 := Lib.hid (show ∀ (W : World), Calls Try.prog 16 #[.agg #[.int .i64 2, .int .i64 1, .int .i64 0, .int .i64 0, .int .i64 0, .int .i64 0, .int .i64 0, .int .u32 0, .int .u32 0, .slice none 0 0, .slice none 0 0], .agg #[.int .i64 30, .int .i64 1, .int .i64 0, .int .i64 0, .int .i64 (-1), .int .i64 0, .bool false, .bool false, .int .i64 0, .bool false], .int .i64 now, .int .i64 9] W (fun e w' => e = .returned (.tuple #[.agg #[.int .i64 2, .int .i64 1, .int .i64 0, .int .i64 0, .int .i64 0, .int .i64 (-1048576), .int .i64 0, .int .u32 0, .int .u32 0, .slice none 0 0, .slice none 0 0], .agg #[.int .i64 0, .int .i64 0, .int .i64 0, .int .i64 0, .int .i64 0, .int .i64 0, .bool false, .bool false, .int .i64 0, .bool false], .agg #[.bool true, .bool false, .bool false, .int .i64 0, .int .i64 0, .int .u64 0, .slice none 0 0]]) ∧ Below W.heap.size W w') from fun W => by
    have h := rwWLock_nil 2 1 0 0 0 0 0 0 0 (⟨30, 1, 0, 0, -1, 0, false, false, 0, false⟩ : MFr) now 9 ⟨by kernel_rfl, by kernel_rfl, by kernel_rfl⟩ W
    rw [show wlockW 1 0 0 (⟨30, 1, 0, 0, -1, 0, false, false, 0, false⟩ : MFr) now 9 = ((1, (-1048576), 0), (⟨0, 0, 0, 0, 0, 0, false, false, 0, false⟩ : MFr), (⟨true, 0, false, 0⟩ : MAct)) from (by rfl)] at h
    exact h)
  have K5 := Lib.hid (show ∀ (W : World), Calls Try.prog 18 #[.agg #[.int .i64 2, .int .i64 1, .int .i64 0, .int .i64 0, .int .i64 0, .int .i64 (-1048576), .int .i64 0, .int .u32 0, .int .u32 0, .slice none 0 0, .slice none 0 0], .agg #[.int .i64 31, .int .i64 0, .int .i64 0, .int .i64 0, .int .i64 (-1), .int .i64 0, .bool false, .bool false, .int .i64 0, .bool false]] W (fun e w' => e = .returned (.tuple #[.agg #[.int .i64 2, .int .i64 1, .int .i64 0, .int .i64 0, .int .i64 0, .int .i64 0, .int .i64 0, .int .u32 0, .int .u32 0, .slice none 0 0, .slice none 0 0], .agg #[.int .i64 31, .int .i64 1, .int .i64 0, .int .i64 0, .int .i64 (-1), .int .i64 0, .bool false, .bool false, .int .i64 0, .bool false], .agg #[.bool false, .bool false, .bool false, .int .i64 0, .int .i64 0, .int .u64 0, .slice none 0 0]]) ∧ Below W.heap.size W w') from fun W => by
    have h := rwWUnlock_nil 2 1 0 0 0 (-1048576) 0 0 0 (⟨31, 0, 0, 0, -1, 0, false, false, 0, false⟩ : MFr) ⟨by kernel_rfl, by kernel_rfl, by kernel_rfl⟩ W
    rw [show wunlockW 1 (-1048576) 0 (⟨31, 0, 0, 0, -1, 0, false, false, 0, false⟩ : MFr) = ((1, 0, 0), (⟨31, 1, 0, 0, -1, 0, false, false, 0, false⟩ : MFr), (⟨false, 0, false, 0⟩ : MAct)) from (by kernel_rfl)] at h
    exact h)
  have K6 := Lib.hid (show ∀ (W : World), Calls Try.prog 18 #[.agg #[.int .i64 2, .int .i64 1, .int .i64 0, .int .i64 0, .int .i64 0, .int .i64 0, .int .i64 0, .int .u32 0, .int .u32 0, .slice none 0 0, .slice none 0 0], .agg #[.int .i64 31, .int .i64 1, .int .i64 0, .int .i64 0, .int .i64 (-1), .int .i64 0, .bool false, .bool false, .int .i64 0, .bool false]] W (fun e w' => e = .returned (.tuple #[.agg #[.int .i64 2, .int .i64 1, .int .i64 0, .int .i64 0, .int .i64 0, .int .i64 0, .int .i64 0, .int .u32 0, .int .u32 0, .slice none 0 0, .slice none 0 0], .agg #[.int .i64 31, .int .i64 2, .int .i64 0, .int .i64 0, .int .i64 (-1), .int .i64 0, .bool false, .bool false, .int .i64 0, .bool false], .agg #[.bool false, .bool false, .bool false, .int .i64 0, .int .i64 0, .int .u64 0, .slice none 0 0]]) ∧ Below W.heap.size W w') from fun W => by
    have h := rwWUnlock_nil 2 1 0 0 0 0 0 0 0 (⟨31, 1, 0, 0, -1, 0, false, false, 0, false⟩ : MFr) ⟨by kernel_rfl, by kernel_rfl, by kernel_rfl⟩ W
    rw [show wunlockW 1 0 0 (⟨31, 1, 0, 0, -1, 0, false, false, 0, false⟩ : MFr) = ((1, 0, 0), (⟨31, 2, 0, 0, -1, 0, false, false, 0, false⟩ : MFr), (⟨false, 0, false, 0⟩ : MAct)) from (by kernel_rfl)] at h
    exact h)
  have K7 := Lib.hid (show ∀ (W : World), Calls Try.prog 18 #[.agg #[.int .i64 2, .int .i64 1, .int .i64 0, .int .i64 0, .int .i64 0, .int .i64 0, .int .i64 0, .int .u32 0, .int .u32 0, .slice none 0 0, .slice none 0 0], .agg #[.int .i64 31, .int .i64 2, .int .i64 0, .int .i64 0, .int .i64 (-1), .int .i64 0, .bool false, .bool false, .int .i64 0, .bool false]] W (fun e w' => e = .returned (.tuple #[.agg #[.int .i64 2, .int .i64 0, .int .i64 0, .int .i64 0, .int .i64 0, .int .i64 0, .int .i64 0, .int .u32 0, .int .u32 0, .slice none 0 0, .slice none 0 0], .agg #[.int .i64 0, .int .i64 0, .int .i64 0, .int .i64 0, .int .i64 0, .int .i64 0, .bool false, .bool false, .int .i64 0, .bool false], .agg #[.bool true, .bool false, .bool false, .int .i64 0, .int .i64 0, .int .u64 0, .slice none 0 0]]) ∧ Below W.heap.size W w') from fun W => by
    have h := rwWUnlock_nil 2 1 0 0 0 0 0 0 0 (⟨31, 2, 0, 0, -1, 0, false, false, 0, false⟩ : MFr) ⟨by kernel_rfl, by kernel_rfl, by kernel_rfl⟩ W
    rw [show wunlockW 1 0 0 (⟨31, 2, 0, 0, -1, 0, false, false, 0, false⟩ : MFr) = ((0, 0, 0), (⟨0, 0, 0, 0, 0, 0, false, false, 0, false⟩ : MFr), (⟨true, 0, false, 0⟩ : MAct)) from (by kernel_rfl)] at h
    exact h)
  have N1 := Lib.hid (show ∀ W : World, Calls Try.prog 20 #[.int .i64 28] W (fun e w' => e = .returned (.agg #[.int .i64 28, .int .i64 0, .int .i64 0, .int .i64 0, .int .i64 (-1), .int .i64 0, .bool false, .bool false, .int .i64 0, .bool false]) ∧ Below W.heap.size W w') from fun W => refBegin15_any 28 W)
  have N2 := Lib.hid (show ∀ W : World, Calls Try.prog 20 #[.int .i64 30] W (fun e w' => e = .returned (.agg #[.int .i64 30, .int .i64 0, .int .i64 0, .int .i64 0, .int .i64 (-1), .int .i64 0, .bool false, .bool false, .int .i64 0, .bool false]) ∧ Below W.heap.size W w') from fun W => refBegin15_any 30 W)
  have N3 := Lib.hid (show ∀ W : World, Calls Try.prog 20 #[.int .i64 29] W (fun e w' => e = .returned (.agg #[.int .i64 29, .int .i64 0, .int .i64 0, .int .i64 0, .int .i64 (-1), .int .i64 0, .bool false, .bool false, .int .i64 0, .bool false]) ∧ Below W.heap.size W w') from fun W => refBegin15_any 29 W)
  have N4 := Lib.hid (show ∀ W : World, Calls Try.prog 20 #[.int .i64 31] W (fun e w' => e = .returned (.agg #[.int .i64 31, .int .i64 0, .int .i64 0, .int .i64 0, .int .i64 (-1), .int .i64 0, .bool false, .bool false, .int .i64 0, .bool false]) ∧ Below W.heap.size W w') from fun W => refBegin15_any 31 W)
  have R1 := Lib.hid (show ∀ (v : Int) (hv : 0 ≤ v) (W : World), Calls Try.prog 13 #[.agg #[.int .i64 2, .int .i64 0, .int .i64 0, .int .i64 0, .int .i64 0, .int .i64 v, .int .i64 0, .int .u32 0, .int .u32 0, .slice none 0 0, .slice none 0 0]] W (fun e w' => e = .returned (.tuple #[.int .i64 v, .bool false]) ∧ Below W.heap.size W w') from fun v hv W => by have h := rwReaders_any 2 0 0 0 0 v 0 0 0 none 0 0 none 0 0 W; rw [if_neg (by omega), decide_eq_false (by omega)] at h; exact h)
  have R2 := Lib.hid (show ∀ (W : World), Calls Try.prog 13 #[.agg #[.int .i64 2, .int .i64 1, .int .i64 0, .int .i64 0, .int .i64 0, .int .i64 (-1048576), .int .i64 0, .int .u32 0, .int .u32 0, .slice none 0 0, .slice none 0 0]] W (fun e w' => e = .returned (.tuple #[.int .i64 0, .bool true]) ∧ Below W.heap.size W w') from fun W => rwReaders_any 2 1 0 0 0 (-1048576) 0 0 0 none 0 0 none 0 0 W)
  have hw1 := w6_self 0 0 0 0 0 0
  have hw2 := w6_eq 0 0 0 0 0 0
  have hmm : ((m : Int) != (m : Int)) = false := by simp
  have hm0 : (0 : Int) ≤ (m : Int) := by omega
  have HB := Lib.hid (And.intro (Below.refl w.heap.size w) (Nat.le_refl w.heap.size))
  go_enter Try.func5, Try.ntmps5
  go_wp2_with fail
  refine (AL.out _).mono ?_
  rintro e w1 ⟨rfl, hb⟩
  replace HB := Lib.hid (And.intro (HB.out.1.trans (hb.mono HB.out.2)) (Nat.le_trans HB.out.2 hb.size))
  clear hb
  have gq := HB.out.2
  obtain ⟨w2, hw2⟩ : ∃ W, (w1.alloc (.cells #[.int .i64 0, .int .i64 0, .int .i64 0, .int .i64 0, .int .i64 0, .int .i64 0, .int .i64 0, .int .u32 0, .int .u32 0, .slice none 0 0, .slice none 0 0] 29)) = W := ⟨_, rfl⟩
  have hb : Below w1.heap.size w1 w2 := hw2 ▸ ((Below.refl _ _).alloc (Nat.le_refl _) _)
  have hv0 : w2.heap[w1.heap.size]? = some (.cells #[.int .i64 0, .int .i64 0, .int .i64 0, .int .i64 0, .int .i64 0, .int .i64 0, .int .i64 0, .int .u32 0, .int .u32 0, .slice none 0 0, .slice none 0 0] 29) := by
    have h0 := heap_alloc_new w1 (.cells #[.int .i64 0, .int .i64 0, .int .i64 0, .int .i64 0, .int .i64 0, .int .i64 0, .int .i64 0, .int .u32 0, .int .u32 0, .slice none 0 0, .slice none 0 0] 29)
    rw [show w1.heap.size = w1.heap.size by simp [Nat.add_assoc]] at h0
    rw [← hw2]
    exact h0
  replace HB := Lib.hid (And.intro (HB.out.1.trans (hb.mono HB.out.2)) (Nat.le_trans HB.out.2 hb.size))
  have Vo := Lib.hid hv0
  have geo := gq
  generalize hso : w1.heap.size = so at *
  clear hb gq hv0
  obtain ⟨mw3, w3, hw3, hse, VN⟩ := set11 Vo.out (.int .i64 2) (.int .i64 0) (.int .i64 0) (.int .i64 0) (.int .i64 0) (.int .i64 0) (.int .i64 0) (.int .u32 0) (.int .u32 0) (.slice none 0 0) (.slice none 0 0)
  replace Vo := VN
  replace HB := Lib.hid (belS hse geo HB.out)
  clear VN hse
  go_wp2
  clear mw3 hw3
  go_loopw [6] (fun iv wr => ∃ (i : Nat) (v : Int), iv = .int .i64 (i : Int) ∧ i ≤ m ∧ v = (i : Int) ∧ Hid (Below w.heap.size w wr ∧ w.heap.size ≤ wr.heap.size) ∧ Hid (wr.heap[so]? = some (.cells #[.int .i64 2, .int .i64 0, .int .i64 0, .int .i64 0, .int .i64 0, .int .i64 v, .int .i64 0, .int .u32 0, .int .u32 0, .slice none 0 0, .slice none 0 0] 29))) (fun iv _ => m - (intOf iv).toNat)
  case atStart => exact ⟨0, _, rfl, by omega, rfl, HB, Vo⟩
  case round =>
    clear HB Vo
    obtain ⟨i, v, rfl, hi, hv, HB, Vo⟩ := hrel
    by_cases hlt : i < m
    · have c1 : decide ((i : Int) < (m : Int)) = true := by simpa using hlt
      have c1n : decide (i < m) = true := by simpa using hlt
      obtain ⟨y1, hu⟩ : ∃ y, y = v + 1 := ⟨_, rfl⟩
      have KC := Lib.hid (K1.out v y1 (by omega))
      have HI := Lib.hid (And.intro hlt (And.intro hv (And.intro hu hm1)))
      clear hlt hi hv hu
      go_wp2
      refine wp_region_noPanic ?_
      refine wp_region_held_drew (S := (fun wv => Below wr.heap.size wr wv)) (by kernel_rfl) ((Below.refl wr.heap.size wr).drew) (fun hS => ?_)
      refine wpAnyH_take (i := 0) (oi := ⟨some 35, .load 29 (.tmp 5), 29, "law.go:78", #[], none⟩) (v := .agg (([.int .i64 2, .int .i64 0, .int .i64 0, .int .i64 0, .int .i64 0, .int .i64 v, .int .i64 0, .int .u32 0, .int .u32 0, .slice none 0 0, .slice none 0 0] : List Value)).toArray) rfl (by kernel_rfl) (by kernel_rfl) (by kernel_rfl) (fun _ _ _ h => h) (yieldsIf_load_mid (by rfl) _ _ (by rfl) (so) (0) (by rfl) _ _ (fun wv hS => blk_rngl (blk_below Vo.out hS (blk_lt Vo.out))) Try.underlying29 (by rfl) (by kernel_rfl)) hS ?_
      try simp only [Act.put, List.setIfInBounds_toArray, List.set_cons_zero, List.set_cons_succ]
      refine inv_region (fun a0 fu listed a u => ∃ (cq0 cq1 xq0 xq1 xq2 : Bool) (v36 v37 v34 v38 v39 v40 p7 p8 p9 : Value) (sx sg sa : Nat), listed = #[true, cq0, cq1, cq1, cq1, cq1, cq1, xq0, xq1, xq2, false, false, false] ∧ a = ⟨(((((((((a0.tmps.setIfInBounds 36 v36).setIfInBounds 37 v37).setIfInBounds 34 v34).setIfInBounds 38 v38).setIfInBounds 39 v39).setIfInBounds 40 v40).setIfInBounds 7 p7).setIfInBounds 8 p8).setIfInBounds 9 p9), a0.defers⟩ ∧ (bif cq0 then 0 else 1) + (bif cq1 then 0 else 5) + (bif xq0 then 0 else 1) + (bif xq1 then 0 else 1) + (bif xq2 then 0 else 1) + 3 ≤ fu ∧ (cq1 = true → cq0 = true) ∧ Below wr.heap.size wr u ∧ (cq0 = true → v36 = .agg #[.int .i64 28, .int .i64 0, .int .i64 0, .int .i64 0, .int .i64 (-1), .int .i64 0, .bool false, .bool false, .int .i64 0, .bool false]) ∧ (cq1 = true → v38 = .agg #[.int .i64 2, .int .i64 0, .int .i64 0, .int .i64 0, .int .i64 0, .int .i64 y1, .int .i64 0, .int .u32 0, .int .u32 0, .slice none 0 0, .slice none 0 0]) ∧ (cq1 = true → v39 = .agg #[.int .i64 0, .int .i64 0, .int .i64 0, .int .i64 0, .int .i64 0, .int .i64 0, .bool false, .bool false, .int .i64 0, .bool false]) ∧ (cq1 = true → v40 = .agg #[.bool true, .bool false, .bool false, .int .i64 0, .int .i64 0, .int .u64 0, .slice none 0 0]) ∧ (xq0 = true → p7 = .pointer (some ⟨sx, 0, none⟩) ∧ wr.heap.size ≤ sx ∧ u.heap[sx]? = some (.cells #[.int .i64 0, .int .i64 0, .int .i64 0, .int .i64 0, .int .i64 0, .int .i64 0, .int .i64 0, .int .u32 0, .int .u32 0, .slice none 0 0, .slice none 0 0] 29)) ∧ (xq1 = true → p8 = .pointer (some ⟨sg, 0, none⟩) ∧ wr.heap.size ≤ sg ∧ u.heap[sg]? = some (.cells #[.int .i64 0, .int .i64 0, .int .i64 0, .int .i64 0, .int .i64 0, .int .i64 0, .bool false, .bool false, .int .i64 0, .bool false] 31)) ∧ (xq2 = true → p9 = .pointer (some ⟨sa, 0, none⟩) ∧ wr.heap.size ≤ sa ∧ u.heap[sa]? = some (.cells #[.bool false, .bool false, .bool false, .int .i64 0, .int .i64 0, .int .u64 0, .slice none 0 0] 38))) ⟨false, false, false, false, false, u36, u37, u34, u38, u39, u40, u7, u8, u9, 0, 0, 0, rfl, (by first | (simp only [List.setIfInBounds_toArray, List.set_cons_zero, List.set_cons_succ]; done) | rfl), (by show _ + _ ≤ _; decide), (fun h => nomatch h), hS, (fun h => nomatch h), (fun h => nomatch h), (fun h => nomatch h), (fun h => nomatch h), (fun h => nomatch h), (fun h => nomatch h), (fun h => nomatch h)⟩ ?_
      clear hS; rintro fu listed a u ⟨cq0, cq1, xq0, xq1, xq2, v36, v37, v34, v38, v39, v40, p7, p8, p9, sx, sg, sa, rfl, rfl, hn, hc0, hS, h36, h38, h39, h40, ksx, ksg, ksa⟩ IH
      try simp only [List.setIfInBounds_toArray, List.set_cons_zero, List.set_cons_succ]
      by_cases hall : (cq0 && (cq1 && (xq0 && (xq1 && (xq2))))) = true
      rotate_left
      · have hbad : ((cq1 && !cq0) || ((cq0 && (cq1 && (xq0 && (xq1 && (xq2))))))) = false := inv_or (inv_imp hc0) (inv_not hall)
        obtain ⟨fu, rfl⟩ : ∃ m, fu = m + 1 := ⟨fu - 1, by omega⟩
        refine inv_step (bad := ((cq1 && !cq0) || ((cq0 && (cq1 && (xq0 && (xq1 && (xq2)))))))) (fun i => ((i == 1 && !cq0) || ((i == 2 && (cq0 && !cq1)) || ((i == 7 && !xq0) || ((i == 8 && !xq1) || ((i == 9 && !xq2))))))) ((show ∀ cq0 cq1 xq0 xq1 xq2 : Bool, (((cq1 && !cq0) || ((cq0 && (cq1 && (xq0 && (xq1 && (xq2))))))) || (!(Region.ready _ _ #[true, cq0, cq1, cq1, cq1, cq1, cq1, xq0, xq1, xq2, false, false, false]).isEmpty && (Region.ready _ _ #[true, cq0, cq1, cq1, cq1, cq1, cq1, xq0, xq1, xq2, false, false, false]).all (fun i => ((i == 1 && !cq0) || ((i == 2 && (cq0 && !cq1)) || ((i == 7 && !xq0) || ((i == 8 && !xq1) || ((i == 9 && !xq2))))))))) = true from by intro cq0 cq1 xq0 xq1 xq2; cases cq0 <;> cases cq1 <;> cases xq0 <;> cases xq1 <;> cases xq2 <;> kernel_rfl) cq0 cq1 xq0 xq1 xq2) hbad (fun i hi => ?_)
        simp only [Bool.or_eq_true, Bool.and_eq_true, beq_iff_eq, Bool.not_eq_true'] at hi
        clear hall hbad
        rcases hi with ⟨rfl, rfl⟩ | ⟨rfl, rfl, rfl⟩ | ⟨rfl, rfl⟩ | ⟨rfl, rfl⟩ | ⟨rfl, rfl⟩
        · skip
          refine inv_arm (o := ⟨some 36, .call { callee := .value (.func 20), args := #[.const (Value.int IntKind.i64 28)], argTypes := #[3] }, 31, "law.go:78", #[], none⟩) rfl (fun K hK => ?_)
          go_simp
          go_wp2_with fail
          refine (N1.out _).mono ?_; rintro e u1 ⟨rfl, hb⟩
          replace hS := hS.trans (hb.mono hS.size)
          refine Shut.out hK _ _ hS (fun _ => ?_)
          clear hK K
          try simp only [Act.put, List.setIfInBounds_toArray, List.set_cons_zero, List.set_cons_succ]
          exact IH _ _ _ _ (by omega) ⟨true, cq1, xq0, xq1, xq2, _, v37, v34, v38, v39, v40, p7, p8, p9, sx, sg, sa, rfl, (by (try simp only [List.setIfInBounds_toArray, List.set_cons_zero, List.set_cons_succ]); try rfl), (by simp only [cond_true, cond_false] at hn ⊢; omega), (fun _ => rfl), hS, (fun _ => rfl), h38, h39, h40, (fun h => ⟨(ksx h).1, (ksx h).2.1, blk_below (ksx h).2.2 hb (blk_lt (ksx h).2.2)⟩), (fun h => ⟨(ksg h).1, (ksg h).2.1, blk_below (ksg h).2.2 hb (blk_lt (ksg h).2.2)⟩), (fun h => ⟨(ksa h).1, (ksa h).2.1, blk_below (ksa h).2.2 hb (blk_lt (ksa h).2.2)⟩)⟩
        · skip
          obtain rfl := h36 rfl
          refine inv_arm (o := ⟨some 37, .call { callee := .value (.func 9), args := #[.tmp 35, .tmp 36], argTypes := #[29, 31] }, 39, "law.go:78", #[⟨0, .data⟩, ⟨1, .data⟩, ⟨1, .chain⟩], none⟩) rfl (fun K hK => ?_)
          go_simp
          go_wp2_with fail
          refine (KC.out _).mono ?_; rintro e u2 ⟨rfl, hb⟩
          replace hS := hS.trans (hb.mono hS.size)
          obtain ⟨fu, rfl⟩ : ∃ m, fu = m + 4 := ⟨fu - 4, by simp only [cond_true, cond_false] at hn; omega⟩
          refine Shut.out hK _ _ hS (fun _ => ?_)
          clear hK K
          try simp only [Act.put, List.setIfInBounds_toArray, List.set_cons_zero, List.set_cons_succ]
          refine wpAnyH_take (i := 3) (oi := ⟨some 34, .move (.tmp 37), 39, "law.go:78", #[⟨2, .data⟩], none⟩) (v := ?_) rfl (by kernel_rfl) ((show ∀ xq0 xq1 xq2 : Bool, Region.free _ _ #[true, true, true, false, false, false, false, xq0, xq1, xq2, false, false, false] 3 = true from by intro xq0 xq1 xq2; cases xq0 <;> cases xq1 <;> cases xq2 <;> kernel_rfl) xq0 xq1 xq2) ((show ∀ xq0 xq1 xq2 : Bool, (Region.ready _ _ #[true, true, true, false, false, false, false, xq0, xq1, xq2, false, false, false]).contains 3 = true from by intro xq0 xq1 xq2; cases xq0 <;> cases xq1 <;> cases xq2 <;> kernel_rfl) xq0 xq1 xq2) (fun _ _ _ h => h) (Or.inl ⟨by rfl, ?_⟩) hS ?_
          rotate_left
          · intro wv _; go_simp; try with_reducible rfl
          try simp only [Act.put, List.setIfInBounds_toArray, List.set_cons_zero, List.set_cons_succ]
          refine wpAnyH_take (i := 4) (oi := ⟨some 38, .extract (.tmp 34) 0, 29, "law.go:78", #[⟨3, .data⟩], none⟩) (v := ?_) rfl (by kernel_rfl) ((show ∀ xq0 xq1 xq2 : Bool, Region.free _ _ #[true, true, true, true, false, false, false, xq0, xq1, xq2, false, false, false] 4 = true from by intro xq0 xq1 xq2; cases xq0 <;> cases xq1 <;> cases xq2 <;> kernel_rfl) xq0 xq1 xq2) ((show ∀ xq0 xq1 xq2 : Bool, (Region.ready _ _ #[true, true, true, true, false, false, false, xq0, xq1, xq2, false, false, false]).contains 4 = true from by intro xq0 xq1 xq2; cases xq0 <;> cases xq1 <;> cases xq2 <;> kernel_rfl) xq0 xq1 xq2) (fun _ _ _ h => h) (Or.inl ⟨by rfl, ?_⟩) hS ?_
          rotate_left
          · intro wv _; go_simp; try with_reducible rfl
          try simp only [Act.put, List.setIfInBounds_toArray, List.set_cons_zero, List.set_cons_succ]
          refine wpAnyH_take (i := 5) (oi := ⟨some 39, .extract (.tmp 34) 1, 31, "law.go:78", #[⟨3, .data⟩, ⟨10, .gcOnly .lateStores⟩], none⟩) (v := ?_) rfl (by kernel_rfl) ((show ∀ xq0 xq1 xq2 : Bool, Region.free _ _ #[true, true, true, true, true, false, false, xq0, xq1, xq2, false, false, false] 5 = true from by intro xq0 xq1 xq2; cases xq0 <;> cases xq1 <;> cases xq2 <;> kernel_rfl) xq0 xq1 xq2) ((show ∀ xq0 xq1 xq2 : Bool, (Region.ready _ _ #[true, true, true, true, true, false, false, xq0, xq1, xq2, false, false, false]).contains 5 = true from by intro xq0 xq1 xq2; cases xq0 <;> cases xq1 <;> cases xq2 <;> kernel_rfl) xq0 xq1 xq2) (fun _ _ _ h => h) (Or.inl ⟨by rfl, ?_⟩) hS ?_
          rotate_left
          · intro wv _; go_simp; try with_reducible rfl
          try simp only [Act.put, List.setIfInBounds_toArray, List.set_cons_zero, List.set_cons_succ]
          refine wpAnyH_take (i := 6) (oi := ⟨some 40, .extract (.tmp 34) 2, 38, "law.go:78", #[⟨3, .data⟩, ⟨11, .gcOnly .lateStores⟩], none⟩) (v := ?_) rfl (by kernel_rfl) ((show ∀ xq0 xq1 xq2 : Bool, Region.free _ _ #[true, true, true, true, true, true, false, xq0, xq1, xq2, false, false, false] 6 = true from by intro xq0 xq1 xq2; cases xq0 <;> cases xq1 <;> cases xq2 <;> kernel_rfl) xq0 xq1 xq2) ((show ∀ xq0 xq1 xq2 : Bool, (Region.ready _ _ #[true, true, true, true, true, true, false, xq0, xq1, xq2, false, false, false]).contains 6 = true from by intro xq0 xq1 xq2; cases xq0 <;> cases xq1 <;> cases xq2 <;> kernel_rfl) xq0 xq1 xq2) (fun _ _ _ h => h) (Or.inl ⟨by rfl, ?_⟩) hS ?_
          rotate_left
          · intro wv _; go_simp; try with_reducible rfl
          try simp only [Act.put, List.setIfInBounds_toArray, List.set_cons_zero, List.set_cons_succ]
          exact IH _ _ _ _ (by omega) ⟨true, true, xq0, xq1, xq2, _, _, _, _, _, _, p7, p8, p9, sx, sg, sa, rfl, (by (try simp only [List.setIfInBounds_toArray, List.set_cons_zero, List.set_cons_succ]); try rfl), (by simp only [cond_true, cond_false] at hn ⊢; omega), (fun _ => rfl), hS, (fun _ => rfl), (fun _ => rfl), (fun _ => rfl), (fun _ => rfl), (fun h => ⟨(ksx h).1, (ksx h).2.1, blk_below (ksx h).2.2 hb (blk_lt (ksx h).2.2)⟩), (fun h => ⟨(ksg h).1, (ksg h).2.1, blk_below (ksg h).2.2 hb (blk_lt (ksg h).2.2)⟩), (fun h => ⟨(ksa h).1, (ksa h).2.1, blk_below (ksa h).2.2 hb (blk_lt (ksa h).2.2)⟩)⟩
        · skip
          refine inv_arm (o := ⟨some 7, .alloc 29, 0, "law.go:78", #[], none⟩) rfl (fun K hK => ?_)
          go_simp
          have zs := hS.size
          have hb := (Below.refl u.heap.size u).alloc (Nat.le_refl _) (.cells #[.int .i64 0, .int .i64 0, .int .i64 0, .int .i64 0, .int .i64 0, .int .i64 0, .int .i64 0, .int .u32 0, .int .u32 0, .slice none 0 0, .slice none 0 0] 29)
          replace hS := hS.trans (hb.mono hS.size)
          refine Shut.out hK _ _ hS (fun _ => ?_)
          clear hK K
          try simp only [Act.put, List.setIfInBounds_toArray, List.set_cons_zero, List.set_cons_succ]
          exact IH _ _ _ _ (by omega) ⟨cq0, cq1, true, xq1, xq2, v36, v37, v34, v38, v39, v40, _, p8, p9, u.heap.size, sg, sa, rfl, (by (try simp only [List.setIfInBounds_toArray, List.set_cons_zero, List.set_cons_succ]); try rfl), (by simp only [cond_true, cond_false] at hn ⊢; omega), hc0, hS, h36, h38, h39, h40, (fun _ => ⟨rfl, zs, heap_alloc_new _ _⟩), (fun h => ⟨(ksg h).1, (ksg h).2.1, blk_below (ksg h).2.2 hb (blk_lt (ksg h).2.2)⟩), (fun h => ⟨(ksa h).1, (ksa h).2.1, blk_below (ksa h).2.2 hb (blk_lt (ksa h).2.2)⟩)⟩
        · skip
          refine inv_arm (o := ⟨some 8, .alloc 31, 0, "law.go:78", #[], none⟩) rfl (fun K hK => ?_)
          go_simp
          have zs := hS.size
          have hb := (Below.refl u.heap.size u).alloc (Nat.le_refl _) (.cells #[.int .i64 0, .int .i64 0, .int .i64 0, .int .i64 0, .int .i64 0, .int .i64 0, .bool false, .bool false, .int .i64 0, .bool false] 31)
          replace hS := hS.trans (hb.mono hS.size)
          refine Shut.out hK _ _ hS (fun _ => ?_)
          clear hK K
          try simp only [Act.put, List.setIfInBounds_toArray, List.set_cons_zero, List.set_cons_succ]
          exact IH _ _ _ _ (by omega) ⟨cq0, cq1, xq0, true, xq2, v36, v37, v34, v38, v39, v40, p7, _, p9, sx, u.heap.size, sa, rfl, (by (try simp only [List.setIfInBounds_toArray, List.set_cons_zero, List.set_cons_succ]); try rfl), (by simp only [cond_true, cond_false] at hn ⊢; omega), hc0, hS, h36, h38, h39, h40, (fun h => ⟨(ksx h).1, (ksx h).2.1, blk_below (ksx h).2.2 hb (blk_lt (ksx h).2.2)⟩), (fun _ => ⟨rfl, zs, heap_alloc_new _ _⟩), (fun h => ⟨(ksa h).1, (ksa h).2.1, blk_below (ksa h).2.2 hb (blk_lt (ksa h).2.2)⟩)⟩
        · skip
          refine inv_arm (o := ⟨some 9, .alloc 38, 0, "law.go:78", #[], none⟩) rfl (fun K hK => ?_)
          go_simp
          have zs := hS.size
          have hb := (Below.refl u.heap.size u).alloc (Nat.le_refl _) (.cells #[.bool false, .bool false, .bool false, .int .i64 0, .int .i64 0, .int .u64 0, .slice none 0 0] 38)
          replace hS := hS.trans (hb.mono hS.size)
          refine Shut.out hK _ _ hS (fun _ => ?_)
          clear hK K
          try simp only [Act.put, List.setIfInBounds_toArray, List.set_cons_zero, List.set_cons_succ]
          exact IH _ _ _ _ (by omega) ⟨cq0, cq1, xq0, xq1, true, v36, v37, v34, v38, v39, v40, p7, p8, _, sx, sg, u.heap.size, rfl, (by (try simp only [List.setIfInBounds_toArray, List.set_cons_zero, List.set_cons_succ]); try rfl), (by simp only [cond_true, cond_false] at hn ⊢; omega), hc0, hS, h36, h38, h39, h40, (fun h => ⟨(ksx h).1, (ksx h).2.1, blk_below (ksx h).2.2 hb (blk_lt (ksx h).2.2)⟩), (fun h => ⟨(ksg h).1, (ksg h).2.1, blk_below (ksg h).2.2 hb (blk_lt (ksg h).2.2)⟩), (fun _ => ⟨rfl, zs, heap_alloc_new _ _⟩)⟩
      simp only [Bool.and_eq_true] at hall
      obtain ⟨rfl, rfl, rfl, rfl, rfl⟩ := hall
      obtain rfl := h36 rfl
      obtain rfl := h38 rfl
      obtain rfl := h39 rfl
      obtain rfl := h40 rfl
      obtain ⟨rfl, gsx, Vsx⟩ := ksx rfl
      obtain ⟨rfl, gsg, Vsg⟩ := ksg rfl
      obtain ⟨rfl, gsa, Vsa⟩ := ksa rfl
      obtain ⟨fu, rfl⟩ : ∃ m, fu = m + 3 := ⟨fu - 3, by simp only [cond_true] at hn; omega⟩
      clear IH hn hc0
      have neo_x := Nat.ne_of_lt (Nat.lt_of_lt_of_le (blk_lt Vo.out) gsx)
      have neo_g := Nat.ne_of_lt (Nat.lt_of_lt_of_le (blk_lt Vo.out) gsg)
      have neo_a := Nat.ne_of_lt (Nat.lt_of_lt_of_le (blk_lt Vo.out) gsa)
      have nex_g : sx ≠ sg := blk_ne Vsx Vsg (by decide)
      have nex_a : sx ≠ sa := blk_ne Vsx Vsa (by decide)
      have neg_a : sg ≠ sa := blk_ne Vsg Vsa (by decide)
      have gex := Nat.le_trans HB.out.2 gsx
      have geg := Nat.le_trans HB.out.2 gsg
      have gea := Nat.le_trans HB.out.2 gsa
      replace Vo := Lib.hid (blk_below Vo.out hS (blk_lt Vo.out))
      replace HB := Lib.hid (And.intro (HB.out.1.trans (hS.mono HB.out.2)) (Nat.le_trans HB.out.2 hS.size))
      have Vx := Lib.hid Vsx
      clear Vsx
      have Vg := Lib.hid Vsg
      clear Vsg
      have Va := Lib.hid Vsa
      clear Vsa
      obtain ⟨w4, hw4⟩ : ∃ W, u.setCells (sx) 0 [.int .i64 2, .int .i64 0, .int .i64 0, .int .i64 0, .int .i64 0, .int .i64 y1, .int .i64 0, .int .u32 0, .int .u32 0, .slice none 0 0, .slice none 0 0] = W := ⟨_, rfl⟩
      have thx := Lib.hid (there_blk Vx.out (k := 11) rfl)
      replace Vo := Lib.hid (stayS hw4 neo_x Vo.out)
      replace Vg := Lib.hid (stayS hw4 nex_g.symm Vg.out)
      replace Va := Lib.hid (stayS hw4 nex_a.symm Va.out)
      replace Vx := Lib.hid (setS hw4 Vx.out rfl)
      replace HB := Lib.hid (belS hw4 gex HB.out)
      refine wpAnyH_ready (rs := [10]) (by kernel_rfl) (by simp) (AllReadyH.cons (o := ⟨none, .store 29 (.tmp 7) (.tmp 38), 0, "law.go:78", #[⟨7, .data⟩, ⟨4, .data⟩, ⟨2, .chain⟩, ⟨0, .phase⟩, ⟨1, .phase⟩, ⟨2, .phase⟩, ⟨3, .phase⟩, ⟨4, .phase⟩, ⟨5, .textOnly .lateStores⟩, ⟨6, .textOnly .lateStores⟩, ⟨7, .phase⟩, ⟨8, .phase⟩, ⟨9, .phase⟩], none⟩) rfl (fun K hK => ?_) AllReadyH.nil)
      refine op_storeS (by rfl) rfl rfl rfl thx.out (by kernel_rfl) (by simp [Value.oneCell']) hw4 ?_
      replace hS := hw4 ▸ below_setCells gsx [.int .i64 2, .int .i64 0, .int .i64 0, .int .i64 0, .int .i64 0, .int .i64 y1, .int .i64 0, .int .u32 0, .int .u32 0, .slice none 0 0, .slice none 0 0] 0 _ hS
      obtain ⟨w5, hw5⟩ : ∃ W, w4.setCells (sg) 0 [.int .i64 0, .int .i64 0, .int .i64 0, .int .i64 0, .int .i64 0, .int .i64 0, .bool false, .bool false, .int .i64 0, .bool false] = W := ⟨_, rfl⟩
      have thg := Lib.hid (there_blk Vg.out (k := 10) rfl)
      replace Vo := Lib.hid (stayS hw5 neo_g Vo.out)
      replace Vx := Lib.hid (stayS hw5 nex_g Vx.out)
      replace Va := Lib.hid (stayS hw5 neg_a.symm Va.out)
      replace Vg := Lib.hid (setS hw5 Vg.out rfl)
      replace HB := Lib.hid (belS hw5 geg HB.out)
      refine Shut.out hK _ _ hS (fun _ => ?_)
      clear hK K
      try simp only [Act.put, List.setIfInBounds_toArray, List.set_cons_zero, List.set_cons_succ]
      refine wpAnyH_ready (rs := [11]) (by kernel_rfl) (by simp) (AllReadyH.cons (o := ⟨none, .store 31 (.tmp 8) (.tmp 39), 0, "law.go:78", #[⟨8, .data⟩, ⟨5, .data⟩, ⟨10, .chain⟩, ⟨0, .phase⟩, ⟨1, .phase⟩, ⟨2, .phase⟩, ⟨3, .phase⟩, ⟨4, .phase⟩, ⟨5, .phase⟩, ⟨6, .textOnly .lateStores⟩, ⟨7, .phase⟩, ⟨8, .phase⟩, ⟨9, .phase⟩, ⟨10, .phase⟩], none⟩) rfl (fun K hK => ?_) AllReadyH.nil)
      refine op_storeS (by rfl) rfl rfl rfl thg.out (by kernel_rfl) (by simp [Value.oneCell']) hw5 ?_
      replace hS := hw5 ▸ below_setCells gsg [.int .i64 0, .int .i64 0, .int .i64 0, .int .i64 0, .int .i64 0, .int .i64 0, .bool false, .bool false, .int .i64 0, .bool false] 0 _ hS
      obtain ⟨w6, hw6⟩ : ∃ W, w5.setCells (sa) 0 [.bool true, .bool false, .bool false, .int .i64 0, .int .i64 0, .int .u64 0, .slice none 0 0] = W := ⟨_, rfl⟩
      have tha := Lib.hid (there_blk Va.out (k := 7) rfl)
      replace Vo := Lib.hid (stayS hw6 neo_a Vo.out)
      replace Vx := Lib.hid (stayS hw6 nex_a Vx.out)
      replace Vg := Lib.hid (stayS hw6 neg_a Vg.out)
      replace Va := Lib.hid (setS hw6 Va.out rfl)
      replace HB := Lib.hid (belS hw6 gea HB.out)
      refine Shut.out hK _ _ hS (fun _ => ?_)
      clear hK K
      try simp only [Act.put, List.setIfInBounds_toArray, List.set_cons_zero, List.set_cons_succ]
      refine wpAnyH_ready (rs := [12]) (by kernel_rfl) (by simp) (AllReadyH.cons (o := ⟨none, .store 38 (.tmp 9) (.tmp 40), 0, "law.go:78", #[⟨9, .data⟩, ⟨6, .data⟩, ⟨11, .chain⟩, ⟨0, .phase⟩, ⟨1, .phase⟩, ⟨2, .phase⟩, ⟨3, .phase⟩, ⟨4, .phase⟩, ⟨5, .phase⟩, ⟨6, .phase⟩, ⟨7, .phase⟩, ⟨8, .phase⟩, ⟨9, .phase⟩, ⟨10, .phase⟩, ⟨11, .phase⟩], none⟩) rfl (fun K hK => ?_) AllReadyH.nil)
      refine op_storeS (by rfl) rfl rfl rfl tha.out (by kernel_rfl) (by simp [Value.oneCell']) hw6 ?_
      replace hS := hw6 ▸ below_setCells gsa [.bool true, .bool false, .bool false, .int .i64 0, .int .i64 0, .int .u64 0, .slice none 0 0] 0 _ hS
      refine Shut.out hK _ _ hS (fun _ => ?_)
      clear hK K
      try simp only [Act.put, List.setIfInBounds_toArray, List.set_cons_zero, List.set_cons_succ]
      refine wpAnyH_done (by kernel_rfl) ?_ _
      refine NoPanic.normal ?_
      clear hS gsx gsg gsa thx thg tha
      have ca := row7 Va.out
      have cg := row10 Vg.out
      have cx := row11 Vx.out
      obtain ⟨mw7, w7, hw7, hse, VN⟩ := set11 Vo.out (.int .i64 2) (.int .i64 0) (.int .i64 0) (.int .i64 0) (.int .i64 0) (.int .i64 y1) (.int .i64 0) (.int .u32 0) (.int .u32 0) (.slice none 0 0) (.slice none 0 0)
      replace Vx := Lib.hid (stayS hse neo_x.symm Vx.out)
      replace Vg := Lib.hid (stayS hse neo_g.symm Vg.out)
      replace Va := Lib.hid (stayS hse neo_a.symm Va.out)
      replace Vo := VN
      replace HB := Lib.hid (belS hse geo HB.out)
      clear VN hse
      have i0 : (0 : Int) ≤ (i : Int) := by omega
      have i1 : (i : Int) < 256 := by have h := HI.out; omega
      go_wp2
      go_roundw
      case rel =>
        obtain ⟨q1, q2, q3, q4⟩ := HI.out
        exact ⟨i + 1, y1, by go_num, by omega, by omega, HB, Vo⟩
      case measure =>
        obtain ⟨q1, q2, q3, q4⟩ := HI.out
        simp [intOf]; omega
    · have c1 : decide ((i : Int) < (m : Int)) = false := by simp; omega
      have c1n : decide (i < m) = false := by simp; omega
      have hvm : v = (m : Int) := by omega
      clear hlt hi
      subst hvm
      have R1m := Lib.hid (R1.out (m : Int) hm0)
      clear hv
      have co := row11 Vo.out
      go_wp2_with fail
      refine (R1m.out _).mono ?_
      rintro e w4 ⟨rfl, hb⟩
      clear co
      replace Vo := Lib.hid (blk_below Vo.out hb (blk_lt Vo.out))
      replace HB := Lib.hid (And.intro (HB.out.1.trans (hb.mono HB.out.2)) (Nat.le_trans HB.out.2 hb.size))
      clear hb
      go_wp2
      go_loopw [12] (fun iv wr => ∃ (i : Nat) (v : Int), iv = .int .i64 (i : Int) ∧ i ≤ m ∧ v = (m : Int) - (i : Int) ∧ Hid (Below w.heap.size w wr ∧ w.heap.size ≤ wr.heap.size) ∧ Hid (wr.heap[so]? = some (.cells #[.int .i64 2, .int .i64 0, .int .i64 0, .int .i64 0, .int .i64 0, .int .i64 v, .int .i64 0, .int .u32 0, .int .u32 0, .slice none 0 0, .slice none 0 0] 29))) (fun iv _ => m - (intOf iv).toNat)
      case atStart => exact ⟨0, _, rfl, by omega, (by simp), HB, Vo⟩
      case round =>
        clear HB Vo
        obtain ⟨i, v, rfl, hi, hv, HB, Vo⟩ := hrel
        by_cases hlt : i < m
        · have c1 : decide ((i : Int) < (m : Int)) = true := by simpa using hlt
          have c1n : decide (i < m) = true := by simpa using hlt
          obtain ⟨y1, hu⟩ : ∃ y, y = v - 1 := ⟨_, rfl⟩
          have KC := Lib.hid (K2.out v y1 (by omega))
          have HI := Lib.hid (And.intro hlt (And.intro hv (And.intro hu hm1)))
          clear hlt hi hv hu
          go_wp2
          refine wp_region_noPanic ?_
          refine wp_region_held_drew (S := (fun wv => Below wr.heap.size wr wv)) (by kernel_rfl) ((Below.refl wr.heap.size wr).drew) (fun hS => ?_)
          refine wpAnyH_take (i := 0) (oi := ⟨some 69, .load 29 (.tmp 5), 29, "law.go:89", #[], none⟩) (v := .agg (([.int .i64 2, .int .i64 0, .int .i64 0, .int .i64 0, .int .i64 0, .int .i64 v, .int .i64 0, .int .u32 0, .int .u32 0, .slice none 0 0, .slice none 0 0] : List Value)).toArray) rfl (by kernel_rfl) (by kernel_rfl) (by kernel_rfl) (fun _ _ _ h => h) (yieldsIf_load_mid (by rfl) _ _ (by rfl) (so) (0) (by rfl) _ _ (fun wv hS => blk_rngl (blk_below Vo.out hS (blk_lt Vo.out))) Try.underlying29 (by rfl) (by kernel_rfl)) hS ?_
          try simp only [Act.put, List.setIfInBounds_toArray, List.set_cons_zero, List.set_cons_succ]
          refine inv_region (fun a0 fu listed a u => ∃ (cq0 cq1 xq0 xq1 xq2 : Bool) (v70 v71 v68 v72 v73 v74 p13 p14 p15 : Value) (sx sg sa : Nat), listed = #[true, cq0, cq1, cq1, cq1, cq1, cq1, xq0, xq1, xq2, false, false, false] ∧ a = ⟨(((((((((a0.tmps.setIfInBounds 70 v70).setIfInBounds 71 v71).setIfInBounds 68 v68).setIfInBounds 72 v72).setIfInBounds 73 v73).setIfInBounds 74 v74).setIfInBounds 13 p13).setIfInBounds 14 p14).setIfInBounds 15 p15), a0.defers⟩ ∧ (bif cq0 then 0 else 1) + (bif cq1 then 0 else 5) + (bif xq0 then 0 else 1) + (bif xq1 then 0 else 1) + (bif xq2 then 0 else 1) + 3 ≤ fu ∧ (cq1 = true → cq0 = true) ∧ Below wr.heap.size wr u ∧ (cq0 = true → v70 = .agg #[.int .i64 29, .int .i64 0, .int .i64 0, .int .i64 0, .int .i64 (-1), .int .i64 0, .bool false, .bool false, .int .i64 0, .bool false]) ∧ (cq1 = true → v72 = .agg #[.int .i64 2, .int .i64 0, .int .i64 0, .int .i64 0, .int .i64 0, .int .i64 y1, .int .i64 0, .int .u32 0, .int .u32 0, .slice none 0 0, .slice none 0 0]) ∧ (cq1 = true → v73 = .agg #[.int .i64 0, .int .i64 0, .int .i64 0, .int .i64 0, .int .i64 0, .int .i64 0, .bool false, .bool false, .int .i64 0, .bool false]) ∧ (cq1 = true → v74 = .agg #[.bool true, .bool false, .bool false, .int .i64 0, .int .i64 0, .int .u64 0, .slice none 0 0]) ∧ (xq0 = true → p13 = .pointer (some ⟨sx, 0, none⟩) ∧ wr.heap.size ≤ sx ∧ u.heap[sx]? = some (.cells #[.int .i64 0, .int .i64 0, .int .i64 0, .int .i64 0, .int .i64 0, .int .i64 0, .int .i64 0, .int .u32 0, .int .u32 0, .slice none 0 0, .slice none 0 0] 29)) ∧ (xq1 = true → p14 = .pointer (some ⟨sg, 0, none⟩) ∧ wr.heap.size ≤ sg ∧ u.heap[sg]? = some (.cells #[.int .i64 0, .int .i64 0, .int .i64 0, .int .i64 0, .int .i64 0, .int .i64 0, .bool false, .bool false, .int .i64 0, .bool false] 31)) ∧ (xq2 = true → p15 = .pointer (some ⟨sa, 0, none⟩) ∧ wr.heap.size ≤ sa ∧ u.heap[sa]? = some (.cells #[.bool false, .bool false, .bool false, .int .i64 0, .int .i64 0, .int .u64 0, .slice none 0 0] 38))) ⟨false, false, false, false, false, u70, u71, u68, u72, u73, u74, u13, u14, u15, 0, 0, 0, rfl, (by first | (simp only [List.setIfInBounds_toArray, List.set_cons_zero, List.set_cons_succ]; done) | rfl), (by show _ + _ ≤ _; decide), (fun h => nomatch h), hS, (fun h => nomatch h), (fun h => nomatch h), (fun h => nomatch h), (fun h => nomatch h), (fun h => nomatch h), (fun h => nomatch h), (fun h => nomatch h)⟩ ?_
          clear hS; rintro fu listed a u ⟨cq0, cq1, xq0, xq1, xq2, v70, v71, v68, v72, v73, v74, p13, p14, p15, sx, sg, sa, rfl, rfl, hn, hc0, hS, h70, h72, h73, h74, ksx, ksg, ksa⟩ IH
          try simp only [List.setIfInBounds_toArray, List.set_cons_zero, List.set_cons_succ]
          by_cases hall : (cq0 && (cq1 && (xq0 && (xq1 && (xq2))))) = true
          rotate_left
          · have hbad : ((cq1 && !cq0) || ((cq0 && (cq1 && (xq0 && (xq1 && (xq2))))))) = false := inv_or (inv_imp hc0) (inv_not hall)
            obtain ⟨fu, rfl⟩ : ∃ m, fu = m + 1 := ⟨fu - 1, by omega⟩
            refine inv_step (bad := ((cq1 && !cq0) || ((cq0 && (cq1 && (xq0 && (xq1 && (xq2)))))))) (fun i => ((i == 1 && !cq0) || ((i == 2 && (cq0 && !cq1)) || ((i == 7 && !xq0) || ((i == 8 && !xq1) || ((i == 9 && !xq2))))))) ((show ∀ cq0 cq1 xq0 xq1 xq2 : Bool, (((cq1 && !cq0) || ((cq0 && (cq1 && (xq0 && (xq1 && (xq2))))))) || (!(Region.ready _ _ #[true, cq0, cq1, cq1, cq1, cq1, cq1, xq0, xq1, xq2, false, false, false]).isEmpty && (Region.ready _ _ #[true, cq0, cq1, cq1, cq1, cq1, cq1, xq0, xq1, xq2, false, false, false]).all (fun i => ((i == 1 && !cq0) || ((i == 2 && (cq0 && !cq1)) || ((i == 7 && !xq0) || ((i == 8 && !xq1) || ((i == 9 && !xq2))))))))) = true from by intro cq0 cq1 xq0 xq1 xq2; cases cq0 <;> cases cq1 <;> cases xq0 <;> cases xq1 <;> cases xq2 <;> kernel_rfl) cq0 cq1 xq0 xq1 xq2) hbad (fun i hi => ?_)
            simp only [Bool.or_eq_true, Bool.and_eq_true, beq_iff_eq, Bool.not_eq_true'] at hi
            clear hall hbad
            rcases hi with ⟨rfl, rfl⟩ | ⟨rfl, rfl, rfl⟩ | ⟨rfl, rfl⟩ | ⟨rfl, rfl⟩ | ⟨rfl, rfl⟩
            · skip
              refine inv_arm (o := ⟨some 70, .call { callee := .value (.func 20), args := #[.const (Value.int IntKind.i64 29)], argTypes := #[3] }, 31, "law.go:89", #[], none⟩) rfl (fun K hK => ?_)
              go_simp
              go_wp2_with fail
              refine (N3.out _).mono ?_; rintro e u1 ⟨rfl, hb⟩
              replace hS := hS.trans (hb.mono hS.size)
              refine Shut.out hK _ _ hS (fun _ => ?_)
              clear hK K
              try simp only [Act.put, List.setIfInBounds_toArray, List.set_cons_zero, List.set_cons_succ]
              exact IH _ _ _ _ (by omega) ⟨true, cq1, xq0, xq1, xq2, _, v71, v68, v72, v73, v74, p13, p14, p15, sx, sg, sa, rfl, (by (try simp only [List.setIfInBounds_toArray, List.set_cons_zero, List.set_cons_succ]); try rfl), (by simp only [cond_true, cond_false] at hn ⊢; omega), (fun _ => rfl), hS, (fun _ => rfl), h72, h73, h74, (fun h => ⟨(ksx h).1, (ksx h).2.1, blk_below (ksx h).2.2 hb (blk_lt (ksx h).2.2)⟩), (fun h => ⟨(ksg h).1, (ksg h).2.1, blk_below (ksg h).2.2 hb (blk_lt (ksg h).2.2)⟩), (fun h => ⟨(ksa h).1, (ksa h).2.1, blk_below (ksa h).2.2 hb (blk_lt (ksa h).2.2)⟩)⟩
            · skip
              obtain rfl := h70 rfl
              refine inv_arm (o := ⟨some 71, .call { callee := .value (.func 11), args := #[.tmp 69, .tmp 70], argTypes := #[29, 31] }, 39, "law.go:89", #[⟨0, .data⟩, ⟨1, .data⟩, ⟨1, .chain⟩], none⟩) rfl (fun K hK => ?_)
              go_simp
              go_wp2_with fail
              refine (KC.out _).mono ?_; rintro e u2 ⟨rfl, hb⟩
              replace hS := hS.trans (hb.mono hS.size)
              obtain ⟨fu, rfl⟩ : ∃ m, fu = m + 4 := ⟨fu - 4, by simp only [cond_true, cond_false] at hn; omega⟩
              refine Shut.out hK _ _ hS (fun _ => ?_)
              clear hK K
              try simp only [Act.put, List.setIfInBounds_toArray, List.set_cons_zero, List.set_cons_succ]
              refine wpAnyH_take (i := 3) (oi := ⟨some 68, .move (.tmp 71), 39, "law.go:89", #[⟨2, .data⟩], none⟩) (v := ?_) rfl (by kernel_rfl) ((show ∀ xq0 xq1 xq2 : Bool, Region.free _ _ #[true, true, true, false, false, false, false, xq0, xq1, xq2, false, false, false] 3 = true from by intro xq0 xq1 xq2; cases xq0 <;> cases xq1 <;> cases xq2 <;> kernel_rfl) xq0 xq1 xq2) ((show ∀ xq0 xq1 xq2 : Bool, (Region.ready _ _ #[true, true, true, false, false, false, false, xq0, xq1, xq2, false, false, false]).contains 3 = true from by intro xq0 xq1 xq2; cases xq0 <;> cases xq1 <;> cases xq2 <;> kernel_rfl) xq0 xq1 xq2) (fun _ _ _ h => h) (Or.inl ⟨by rfl, ?_⟩) hS ?_
              rotate_left
              · intro wv _; go_simp; try with_reducible rfl
              try simp only [Act.put, List.setIfInBounds_toArray, List.set_cons_zero, List.set_cons_succ]
              refine wpAnyH_take (i := 4) (oi := ⟨some 72, .extract (.tmp 68) 0, 29, "law.go:89", #[⟨3, .data⟩], none⟩) (v := ?_) rfl (by kernel_rfl) ((show ∀ xq0 xq1 xq2 : Bool, Region.free _ _ #[true, true, true, true, false, false, false, xq0, xq1, xq2, false, false, false] 4 = true from by intro xq0 xq1 xq2; cases xq0 <;> cases xq1 <;> cases xq2 <;> kernel_rfl) xq0 xq1 xq2) ((show ∀ xq0 xq1 xq2 : Bool, (Region.ready _ _ #[true, true, true, true, false, false, false, xq0, xq1, xq2, false, false, false]).contains 4 = true from by intro xq0 xq1 xq2; cases xq0 <;> cases xq1 <;> cases xq2 <;> kernel_rfl) xq0 xq1 xq2) (fun _ _ _ h => h) (Or.inl ⟨by rfl, ?_⟩) hS ?_
              rotate_left
              · intro wv _; go_simp; try with_reducible rfl
              try simp only [Act.put, List.setIfInBounds_toArray, List.set_cons_zero, List.set_cons_succ]
              refine wpAnyH_take (i := 5) (oi := ⟨some 73, .extract (.tmp 68) 1, 31, "law.go:89", #[⟨3, .data⟩, ⟨10, .gcOnly .lateStores⟩], none⟩) (v := ?_) rfl (by kernel_rfl) ((show ∀ xq0 xq1 xq2 : Bool, Region.free _ _ #[true, true, true, true, true, false, false, xq0, xq1, xq2, false, false, false] 5 = true from by intro xq0 xq1 xq2; cases xq0 <;> cases xq1 <;> cases xq2 <;> kernel_rfl) xq0 xq1 xq2) ((show ∀ xq0 xq1 xq2 : Bool, (Region.ready _ _ #[true, true, true, true, true, false, false, xq0, xq1, xq2, false, false, false]).contains 5 = true from by intro xq0 xq1 xq2; cases xq0 <;> cases xq1 <;> cases xq2 <;> kernel_rfl) xq0 xq1 xq2) (fun _ _ _ h => h) (Or.inl ⟨by rfl, ?_⟩) hS ?_
              rotate_left
              · intro wv _; go_simp; try with_reducible rfl
              try simp only [Act.put, List.setIfInBounds_toArray, List.set_cons_zero, List.set_cons_succ]
              refine wpAnyH_take (i := 6) (oi := ⟨some 74, .extract (.tmp 68) 2, 38, "law.go:89", #[⟨3, .data⟩, ⟨11, .gcOnly .lateStores⟩], none⟩) (v := ?_) rfl (by kernel_rfl) ((show ∀ xq0 xq1 xq2 : Bool, Region.free _ _ #[true, true, true, true, true, true, false, xq0, xq1, xq2, false, false, false] 6 = true from by intro xq0 xq1 xq2; cases xq0 <;> cases xq1 <;> cases xq2 <;> kernel_rfl) xq0 xq1 xq2) ((show ∀ xq0 xq1 xq2 : Bool, (Region.ready _ _ #[true, true, true, true, true, true, false, xq0, xq1, xq2, false, false, false]).contains 6 = true from by intro xq0 xq1 xq2; cases xq0 <;> cases xq1 <;> cases xq2 <;> kernel_rfl) xq0 xq1 xq2) (fun _ _ _ h => h) (Or.inl ⟨by rfl, ?_⟩) hS ?_
              rotate_left
              · intro wv _; go_simp; try with_reducible rfl
              try simp only [Act.put, List.setIfInBounds_toArray, List.set_cons_zero, List.set_cons_succ]
              exact IH _ _ _ _ (by omega) ⟨true, true, xq0, xq1, xq2, _, _, _, _, _, _, p13, p14, p15, sx, sg, sa, rfl, (by (try simp only [List.setIfInBounds_toArray, List.set_cons_zero, List.set_cons_succ]); try rfl), (by simp only [cond_true, cond_false] at hn ⊢; omega), (fun _ => rfl), hS, (fun _ => rfl), (fun _ => rfl), (fun _ => rfl), (fun _ => rfl), (fun h => ⟨(ksx h).1, (ksx h).2.1, blk_below (ksx h).2.2 hb (blk_lt (ksx h).2.2)⟩), (fun h => ⟨(ksg h).1, (ksg h).2.1, blk_below (ksg h).2.2 hb (blk_lt (ksg h).2.2)⟩), (fun h => ⟨(ksa h).1, (ksa h).2.1, blk_below (ksa h).2.2 hb (blk_lt (ksa h).2.2)⟩)⟩
            · skip
              refine inv_arm (o := ⟨some 13, .alloc 29, 0, "law.go:89", #[], none⟩) rfl (fun K hK => ?_)
              go_simp
              have zs := hS.size
              have hb := (Below.refl u.heap.size u).alloc (Nat.le_refl _) (.cells #[.int .i64 0, .int .i64 0, .int .i64 0, .int .i64 0, .int .i64 0, .int .i64 0, .int .i64 0, .int .u32 0, .int .u32 0, .slice none 0 0, .slice none 0 0] 29)
              replace hS := hS.trans (hb.mono hS.size)
              refine Shut.out hK _ _ hS (fun _ => ?_)
              clear hK K
              try simp only [Act.put, List.setIfInBounds_toArray, List.set_cons_zero, List.set_cons_succ]
              exact IH _ _ _ _ (by omega) ⟨cq0, cq1, true, xq1, xq2, v70, v71, v68, v72, v73, v74, _, p14, p15, u.heap.size, sg, sa, rfl, (by (try simp only [List.setIfInBounds_toArray, List.set_cons_zero, List.set_cons_succ]); try rfl), (by simp only [cond_true, cond_false] at hn ⊢; omega), hc0, hS, h70, h72, h73, h74, (fun _ => ⟨rfl, zs, heap_alloc_new _ _⟩), (fun h => ⟨(ksg h).1, (ksg h).2.1, blk_below (ksg h).2.2 hb (blk_lt (ksg h).2.2)⟩), (fun h => ⟨(ksa h).1, (ksa h).2.1, blk_below (ksa h).2.2 hb (blk_lt (ksa h).2.2)⟩)⟩
            · skip
              refine inv_arm (o := ⟨some 14, .alloc 31, 0, "law.go:89", #[], none⟩) rfl (fun K hK => ?_)
              go_simp
              have zs := hS.size
              have hb := (Below.refl u.heap.size u).alloc (Nat.le_refl _) (.cells #[.int .i64 0, .int .i64 0, .int .i64 0, .int .i64 0, .int .i64 0, .int .i64 0, .bool false, .bool false, .int .i64 0, .bool false] 31)
              replace hS := hS.trans (hb.mono hS.size)
              refine Shut.out hK _ _ hS (fun _ => ?_)
              clear hK K
              try simp only [Act.put, List.setIfInBounds_toArray, List.set_cons_zero, List.set_cons_succ]
              exact IH _ _ _ _ (by omega) ⟨cq0, cq1, xq0, true, xq2, v70, v71, v68, v72, v73, v74, p13, _, p15, sx, u.heap.size, sa, rfl, (by (try simp only [List.setIfInBounds_toArray, List.set_cons_zero, List.set_cons_succ]); try rfl), (by simp only [cond_true, cond_false] at hn ⊢; omega), hc0, hS, h70, h72, h73, h74, (fun h => ⟨(ksx h).1, (ksx h).2.1, blk_below (ksx h).2.2 hb (blk_lt (ksx h).2.2)⟩), (fun _ => ⟨rfl, zs, heap_alloc_new _ _⟩), (fun h => ⟨(ksa h).1, (ksa h).2.1, blk_below (ksa h).2.2 hb (blk_lt (ksa h).2.2)⟩)⟩
            · skip
              refine inv_arm (o := ⟨some 15, .alloc 38, 0, "law.go:89", #[], none⟩) rfl (fun K hK => ?_)
              go_simp
              have zs := hS.size
              have hb := (Below.refl u.heap.size u).alloc (Nat.le_refl _) (.cells #[.bool false, .bool false, .bool false, .int .i64 0, .int .i64 0, .int .u64 0, .slice none 0 0] 38)
              replace hS := hS.trans (hb.mono hS.size)
              refine Shut.out hK _ _ hS (fun _ => ?_)
              clear hK K
              try simp only [Act.put, List.setIfInBounds_toArray, List.set_cons_zero, List.set_cons_succ]
              exact IH _ _ _ _ (by omega) ⟨cq0, cq1, xq0, xq1, true, v70, v71, v68, v72, v73, v74, p13, p14, _, sx, sg, u.heap.size, rfl, (by (try simp only [List.setIfInBounds_toArray, List.set_cons_zero, List.set_cons_succ]); try rfl), (by simp only [cond_true, cond_false] at hn ⊢; omega), hc0, hS, h70, h72, h73, h74, (fun h => ⟨(ksx h).1, (ksx h).2.1, blk_below (ksx h).2.2 hb (blk_lt (ksx h).2.2)⟩), (fun h => ⟨(ksg h).1, (ksg h).2.1, blk_below (ksg h).2.2 hb (blk_lt (ksg h).2.2)⟩), (fun _ => ⟨rfl, zs, heap_alloc_new _ _⟩)⟩
          simp only [Bool.and_eq_true] at hall
          obtain ⟨rfl, rfl, rfl, rfl, rfl⟩ := hall
          obtain rfl := h70 rfl
          obtain rfl := h72 rfl
          obtain rfl := h73 rfl
          obtain rfl := h74 rfl
          obtain ⟨rfl, gsx, Vsx⟩ := ksx rfl
          obtain ⟨rfl, gsg, Vsg⟩ := ksg rfl
          obtain ⟨rfl, gsa, Vsa⟩ := ksa rfl
          obtain ⟨fu, rfl⟩ : ∃ m, fu = m + 3 := ⟨fu - 3, by simp only [cond_true] at hn; omega⟩
          clear IH hn hc0
          have neo_x := Nat.ne_of_lt (Nat.lt_of_lt_of_le (blk_lt Vo.out) gsx)
          have neo_g := Nat.ne_of_lt (Nat.lt_of_lt_of_le (blk_lt Vo.out) gsg)
          have neo_a := Nat.ne_of_lt (Nat.lt_of_lt_of_le (blk_lt Vo.out) gsa)
          have nex_g : sx ≠ sg := blk_ne Vsx Vsg (by decide)
          have nex_a : sx ≠ sa := blk_ne Vsx Vsa (by decide)
          have neg_a : sg ≠ sa := blk_ne Vsg Vsa (by decide)
          have gex := Nat.le_trans HB.out.2 gsx
          have geg := Nat.le_trans HB.out.2 gsg
          have gea := Nat.le_trans HB.out.2 gsa
          replace Vo := Lib.hid (blk_below Vo.out hS (blk_lt Vo.out))
          replace HB := Lib.hid (And.intro (HB.out.1.trans (hS.mono HB.out.2)) (Nat.le_trans HB.out.2 hS.size))
          have Vx := Lib.hid Vsx
          clear Vsx
          have Vg := Lib.hid Vsg
          clear Vsg
          have Va := Lib.hid Vsa
          clear Vsa
          obtain ⟨w5, hw5⟩ : ∃ W, u.setCells (sx) 0 [.int .i64 2, .int .i64 0, .int .i64 0, .int .i64 0, .int .i64 0, .int .i64 y1, .int .i64 0, .int .u32 0, .int .u32 0, .slice none 0 0, .slice none 0 0] = W := ⟨_, rfl⟩
          have thx := Lib.hid (there_blk Vx.out (k := 11) rfl)
          replace Vo := Lib.hid (stayS hw5 neo_x Vo.out)
          replace Vg := Lib.hid (stayS hw5 nex_g.symm Vg.out)
          replace Va := Lib.hid (stayS hw5 nex_a.symm Va.out)
          replace Vx := Lib.hid (setS hw5 Vx.out rfl)
          replace HB := Lib.hid (belS hw5 gex HB.out)
          refine wpAnyH_ready (rs := [10]) (by kernel_rfl) (by simp) (AllReadyH.cons (o := ⟨none, .store 29 (.tmp 13) (.tmp 72), 0, "law.go:89", #[⟨7, .data⟩, ⟨4, .data⟩, ⟨2, .chain⟩, ⟨0, .phase⟩, ⟨1, .phase⟩, ⟨2, .phase⟩, ⟨3, .phase⟩, ⟨4, .phase⟩, ⟨5, .textOnly .lateStores⟩, ⟨6, .textOnly .lateStores⟩, ⟨7, .phase⟩, ⟨8, .phase⟩, ⟨9, .phase⟩], none⟩) rfl (fun K hK => ?_) AllReadyH.nil)
          refine op_storeS (by rfl) rfl rfl rfl thx.out (by kernel_rfl) (by simp [Value.oneCell']) hw5 ?_
          replace hS := hw5 ▸ below_setCells gsx [.int .i64 2, .int .i64 0, .int .i64 0, .int .i64 0, .int .i64 0, .int .i64 y1, .int .i64 0, .int .u32 0, .int .u32 0, .slice none 0 0, .slice none 0 0] 0 _ hS
          obtain ⟨w6, hw6⟩ : ∃ W, w5.setCells (sg) 0 [.int .i64 0, .int .i64 0, .int .i64 0, .int .i64 0, .int .i64 0, .int .i64 0, .bool false, .bool false, .int .i64 0, .bool false] = W := ⟨_, rfl⟩
          have thg := Lib.hid (there_blk Vg.out (k := 10) rfl)
          replace Vo := Lib.hid (stayS hw6 neo_g Vo.out)
          replace Vx := Lib.hid (stayS hw6 nex_g Vx.out)
          replace Va := Lib.hid (stayS hw6 neg_a.symm Va.out)
          replace Vg := Lib.hid (setS hw6 Vg.out rfl)
          replace HB := Lib.hid (belS hw6 geg HB.out)
          refine Shut.out hK _ _ hS (fun _ => ?_)
          clear hK K
          try simp only [Act.put, List.setIfInBounds_toArray, List.set_cons_zero, List.set_cons_succ]
          refine wpAnyH_ready (rs := [11]) (by kernel_rfl) (by simp) (AllReadyH.cons (o := ⟨none, .store 31 (.tmp 14) (.tmp 73), 0, "law.go:89", #[⟨8, .data⟩, ⟨5, .data⟩, ⟨10, .chain⟩, ⟨0, .phase⟩, ⟨1, .phase⟩, ⟨2, .phase⟩, ⟨3, .phase⟩, ⟨4, .phase⟩, ⟨5, .phase⟩, ⟨6, .textOnly .lateStores⟩, ⟨7, .phase⟩, ⟨8, .phase⟩, ⟨9, .phase⟩, ⟨10, .phase⟩], none⟩) rfl (fun K hK => ?_) AllReadyH.nil)
          refine op_storeS (by rfl) rfl rfl rfl thg.out (by kernel_rfl) (by simp [Value.oneCell']) hw6 ?_
          replace hS := hw6 ▸ below_setCells gsg [.int .i64 0, .int .i64 0, .int .i64 0, .int .i64 0, .int .i64 0, .int .i64 0, .bool false, .bool false, .int .i64 0, .bool false] 0 _ hS
          obtain ⟨w7, hw7⟩ : ∃ W, w6.setCells (sa) 0 [.bool true, .bool false, .bool false, .int .i64 0, .int .i64 0, .int .u64 0, .slice none 0 0] = W := ⟨_, rfl⟩
          have tha := Lib.hid (there_blk Va.out (k := 7) rfl)
          replace Vo := Lib.hid (stayS hw7 neo_a Vo.out)
          replace Vx := Lib.hid (stayS hw7 nex_a Vx.out)
          replace Vg := Lib.hid (stayS hw7 neg_a Vg.out)
          replace Va := Lib.hid (setS hw7 Va.out rfl)
          replace HB := Lib.hid (belS hw7 gea HB.out)
          refine Shut.out hK _ _ hS (fun _ => ?_)
          clear hK K
          try simp only [Act.put, List.setIfInBounds_toArray, List.set_cons_zero, List.set_cons_succ]
          refine wpAnyH_ready (rs := [12]) (by kernel_rfl) (by simp) (AllReadyH.cons (o := ⟨none, .store 38 (.tmp 15) (.tmp 74), 0, "law.go:89", #[⟨9, .data⟩, ⟨6, .data⟩, ⟨11, .chain⟩, ⟨0, .phase⟩, ⟨1, .phase⟩, ⟨2, .phase⟩, ⟨3, .phase⟩, ⟨4, .phase⟩, ⟨5, .phase⟩, ⟨6, .phase⟩, ⟨7, .phase⟩, ⟨8, .phase⟩, ⟨9, .phase⟩, ⟨10, .phase⟩, ⟨11, .phase⟩], none⟩) rfl (fun K hK => ?_) AllReadyH.nil)
          refine op_storeS (by rfl) rfl rfl rfl tha.out (by kernel_rfl) (by simp [Value.oneCell']) hw7 ?_
          replace hS := hw7 ▸ below_setCells gsa [.bool true, .bool false, .bool false, .int .i64 0, .int .i64 0, .int .u64 0, .slice none 0 0] 0 _ hS
          refine Shut.out hK _ _ hS (fun _ => ?_)
          clear hK K
          try simp only [Act.put, List.setIfInBounds_toArray, List.set_cons_zero, List.set_cons_succ]
          refine wpAnyH_done (by kernel_rfl) ?_ _
          refine NoPanic.normal ?_
          clear hS gsx gsg gsa thx thg tha
          have ca := row7 Va.out
          have cg := row10 Vg.out
          have cx := row11 Vx.out
          obtain ⟨mw8, w8, hw8, hse, VN⟩ := set11 Vo.out (.int .i64 2) (.int .i64 0) (.int .i64 0) (.int .i64 0) (.int .i64 0) (.int .i64 y1) (.int .i64 0) (.int .u32 0) (.int .u32 0) (.slice none 0 0) (.slice none 0 0)
          replace Vx := Lib.hid (stayS hse neo_x.symm Vx.out)
          replace Vg := Lib.hid (stayS hse neo_g.symm Vg.out)
          replace Va := Lib.hid (stayS hse neo_a.symm Va.out)
          replace Vo := VN
          replace HB := Lib.hid (belS hse geo HB.out)
          clear VN hse
          have i0 : (0 : Int) ≤ (i : Int) := by omega
          have i1 : (i : Int) < 256 := by have h := HI.out; omega
          go_wp2
          go_roundw
          case rel =>
            obtain ⟨q1, q2, q3, q4⟩ := HI.out
            exact ⟨i + 1, y1, by go_num, by omega, by omega, HB, Vo⟩
          case measure =>
            obtain ⟨q1, q2, q3, q4⟩ := HI.out
            simp [intOf]; omega
        · have c1 : decide ((i : Int) < (m : Int)) = false := by simp; omega
          have c1n : decide (i < m) = false := by simp; omega
          have hv0 : v = 0 := by omega
          clear hlt hi hv
          subst hv0
          have co := row11 Vo.out
          go_wp2_with fail
          refine (N2.out _).mono ?_
          rintro e w5 ⟨rfl, hb⟩
          clear co
          replace Vo := Lib.hid (blk_below Vo.out hb (blk_lt Vo.out))
          replace HB := Lib.hid (And.intro (HB.out.1.trans (hb.mono HB.out.2)) (Nat.le_trans HB.out.2 hb.size))
          clear hb
          have lto := blk_lt Vo.out
          have gq := HB.out.2
          obtain ⟨w6, hw6⟩ : ∃ W, (w5.alloc (.cells #[.int .i64 0, .int .i64 0, .int .i64 0, .int .i64 0, .int .i64 0, .int .i64 0, .bool false, .bool false, .int .i64 0, .bool false] 31)) = W := ⟨_, rfl⟩
          have hb : Below w5.heap.size w5 w6 := hw6 ▸ ((Below.refl _ _).alloc (Nat.le_refl _) _)
          have hv0 : w6.heap[w5.heap.size]? = some (.cells #[.int .i64 0, .int .i64 0, .int .i64 0, .int .i64 0, .int .i64 0, .int .i64 0, .bool false, .bool false, .int .i64 0, .bool false] 31) := by
            have h0 := heap_alloc_new w5 (.cells #[.int .i64 0, .int .i64 0, .int .i64 0, .int .i64 0, .int .i64 0, .int .i64 0, .bool false, .bool false, .int .i64 0, .bool false] 31)
            rw [show w5.heap.size = w5.heap.size by simp [Nat.add_assoc]] at h0
            rw [← hw6]
            exact h0
          replace Vo := Lib.hid (blk_below Vo.out hb (blk_lt Vo.out))
          replace HB := Lib.hid (And.intro (HB.out.1.trans (hb.mono HB.out.2)) (Nat.le_trans HB.out.2 hb.size))
          have Vf := Lib.hid hv0
          have neo_f := Nat.ne_of_lt lto
          have gef := gq
          generalize hsf : w5.heap.size = sf at *
          clear hb gq hv0 lto
          obtain ⟨mw7, w7, hw7, hse, VN⟩ := set10 Vf.out (.int .i64 30) (.int .i64 0) (.int .i64 0) (.int .i64 0) (.int .i64 (-1)) (.int .i64 0) (.bool false) (.bool false) (.int .i64 0) (.bool false)
          replace Vo := Lib.hid (stayS hse neo_f Vo.out)
          replace Vf := VN
          replace HB := Lib.hid (belS hse gef HB.out)
          clear VN hse
          have co := row11 Vo.out
          have cf := row10 Vf.out
          go_wp2_with fail
          refine (K3.out _).mono ?_
          rintro e w8 ⟨rfl, hb⟩
          clear mw7 hw7 co cf
          replace Vo := Lib.hid (blk_below Vo.out hb (blk_lt Vo.out))
          replace Vf := Lib.hid (blk_below Vf.out hb (blk_lt Vf.out))
          replace HB := Lib.hid (And.intro (HB.out.1.trans (hb.mono HB.out.2)) (Nat.le_trans HB.out.2 hb.size))
          clear hb
          have lto := blk_lt Vo.out
          have ltf := blk_lt Vf.out
          have gq := HB.out.2
          obtain ⟨w9, hw9⟩ : ∃ W, (w8.alloc (.cells #[.bool false, .bool false, .bool false, .int .i64 0, .int .i64 0, .int .u64 0, .slice none 0 0] 38)) = W := ⟨_, rfl⟩
          have hb : Below w8.heap.size w8 w9 := hw9 ▸ ((Below.refl _ _).alloc (Nat.le_refl _) _)
          have hv0 : w9.heap[w8.heap.size]? = some (.cells #[.bool false, .bool false, .bool false, .int .i64 0, .int .i64 0, .int .u64 0, .slice none 0 0] 38) := by
            have h0 := heap_alloc_new w8 (.cells #[.bool false, .bool false, .bool false, .int .i64 0, .int .i64 0, .int .u64 0, .slice none 0 0] 38)
            rw [show w8.heap.size = w8.heap.size by simp [Nat.add_assoc]] at h0
            rw [← hw9]
            exact h0
          replace Vo := Lib.hid (blk_below Vo.out hb (blk_lt Vo.out))
          replace Vf := Lib.hid (blk_below Vf.out hb (blk_lt Vf.out))
          replace HB := Lib.hid (And.intro (HB.out.1.trans (hb.mono HB.out.2)) (Nat.le_trans HB.out.2 hb.size))
          have Va := Lib.hid hv0
          have neo_a := Nat.ne_of_lt lto
          have nef_a := Nat.ne_of_lt ltf
          have gea := gq
          generalize hsa : w8.heap.size = sa at *
          clear hb gq hv0 lto ltf
          obtain ⟨mw10, w10, hw10, hse, VN⟩ := set11 Vo.out (.int .i64 2) (.int .i64 1) (.int .i64 0) (.int .i64 0) (.int .i64 0) (.int .i64 0) (.int .i64 0) (.int .u32 0) (.int .u32 0) (.slice none 0 0) (.slice none 0 0)
          replace Vf := Lib.hid (stayS hse neo_f.symm Vf.out)
          replace Va := Lib.hid (stayS hse neo_a.symm Va.out)
          replace Vo := VN
          replace HB := Lib.hid (belS hse geo HB.out)
          clear VN hse
          obtain ⟨mw11, w11, hw11, hse, VN⟩ := set10 Vf.out (.int .i64 30) (.int .i64 1) (.int .i64 0) (.int .i64 0) (.int .i64 (-1)) (.int .i64 0) (.bool false) (.bool false) (.int .i64 0) (.bool false)
          replace Vo := Lib.hid (stayS hse neo_f Vo.out)
          replace Va := Lib.hid (stayS hse nef_a.symm Va.out)
          replace Vf := VN
          replace HB := Lib.hid (belS hse gef HB.out)
          clear VN hse
          obtain ⟨mw12, w12, hw12, hse, VN⟩ := set7 Va.out (.bool false) (.bool false) (.bool false) (.int .i64 0) (.int .i64 0) (.int .u64 0) (.slice none 0 0)
          replace Vo := Lib.hid (stayS hse neo_a Vo.out)
          replace Vf := Lib.hid (stayS hse nef_a Vf.out)
          replace Va := VN
          replace HB := Lib.hid (belS hse gea HB.out)
          clear VN hse
          have co := row11 Vo.out
          have cf := row10 Vf.out
          go_wp2_with fail
          refine (K4.out _).mono ?_
          rintro e w13 ⟨rfl, hb⟩
          clear mw10 hw10 mw11 hw11 mw12 hw12 co cf
          replace Vo := Lib.hid (blk_below Vo.out hb (blk_lt Vo.out))
          replace Vf := Lib.hid (blk_below Vf.out hb (blk_lt Vf.out))
          replace Va := Lib.hid (blk_below Va.out hb (blk_lt Va.out))
          replace HB := Lib.hid (And.intro (HB.out.1.trans (hb.mono HB.out.2)) (Nat.le_trans HB.out.2 hb.size))
          clear hb
          have lto := blk_lt Vo.out
          have ltf := blk_lt Vf.out
          have lta := blk_lt Va.out
          have gq := HB.out.2
          obtain ⟨w14, hw14⟩ : ∃ W, (w13.alloc (.cells #[.bool false, .bool false, .bool false, .int .i64 0, .int .i64 0, .int .u64 0, .slice none 0 0] 38)) = W := ⟨_, rfl⟩
          have hb : Below w13.heap.size w13 w14 := hw14 ▸ ((Below.refl _ _).alloc (Nat.le_refl _) _)
          have hv0 : w14.heap[w13.heap.size]? = some (.cells #[.bool false, .bool false, .bool false, .int .i64 0, .int .i64 0, .int .u64 0, .slice none 0 0] 38) := by
            have h0 := heap_alloc_new w13 (.cells #[.bool false, .bool false, .bool false, .int .i64 0, .int .i64 0, .int .u64 0, .slice none 0 0] 38)
            rw [show w13.heap.size = w13.heap.size by simp [Nat.add_assoc]] at h0
            rw [← hw14]
            exact h0
          replace Vo := Lib.hid (blk_below Vo.out hb (blk_lt Vo.out))
          replace Vf := Lib.hid (blk_below Vf.out hb (blk_lt Vf.out))
          replace Va := Lib.hid (blk_below Va.out hb (blk_lt Va.out))
          replace HB := Lib.hid (And.intro (HB.out.1.trans (hb.mono HB.out.2)) (Nat.le_trans HB.out.2 hb.size))
          have Vb := Lib.hid hv0
          have neo_b := Nat.ne_of_lt lto
          have nef_b := Nat.ne_of_lt ltf
          have nea_b := Nat.ne_of_lt lta
          have geb := gq
          generalize hsb : w13.heap.size = sb at *
          clear hb gq hv0 lto ltf lta
          obtain ⟨mw15, w15, hw15, hse, VN⟩ := set11 Vo.out (.int .i64 2) (.int .i64 1) (.int .i64 0) (.int .i64 0) (.int .i64 0) (.int .i64 (-1048576)) (.int .i64 0) (.int .u32 0) (.int .u32 0) (.slice none 0 0) (.slice none 0 0)
          replace Vf := Lib.hid (stayS hse neo_f.symm Vf.out)
          replace Va := Lib.hid (stayS hse neo_a.symm Va.out)
          replace Vb := Lib.hid (stayS hse neo_b.symm Vb.out)
          replace Vo := VN
          replace HB := Lib.hid (belS hse geo HB.out)
          clear VN hse
          obtain ⟨mw16, w16, hw16, hse, VN⟩ := set10 Vf.out (.int .i64 0) (.int .i64 0) (.int .i64 0) (.int .i64 0) (.int .i64 0) (.int .i64 0) (.bool false) (.bool false) (.int .i64 0) (.bool false)
          replace Vo := Lib.hid (stayS hse neo_f Vo.out)
          replace Va := Lib.hid (stayS hse nef_a.symm Va.out)
          replace Vb := Lib.hid (stayS hse nef_b.symm Vb.out)
          replace Vf := VN
          replace HB := Lib.hid (belS hse gef HB.out)
          clear VN hse
          obtain ⟨mw17, w17, hw17, hse, VN⟩ := set7 Vb.out (.bool true) (.bool false) (.bool false) (.int .i64 0) (.int .i64 0) (.int .u64 0) (.slice none 0 0)
          replace Vo := Lib.hid (stayS hse neo_b Vo.out)
          replace Vf := Lib.hid (stayS hse nef_b Vf.out)
          replace Va := Lib.hid (stayS hse nea_b Va.out)
          replace Vb := VN
          replace HB := Lib.hid (belS hse geb HB.out)
          clear VN hse
          have co := row11 Vo.out
          have cf := row10 Vf.out
          have ca := row7 Va.out
          have cb := row7 Vb.out
          go_wp2_with fail
          refine (R2.out _).mono ?_
          rintro e w18 ⟨rfl, hb⟩
          clear mw15 hw15 mw16 hw16 mw17 hw17 co cf ca cb
          replace Vo := Lib.hid (blk_below Vo.out hb (blk_lt Vo.out))
          replace Vf := Lib.hid (blk_below Vf.out hb (blk_lt Vf.out))
          replace Va := Lib.hid (blk_below Va.out hb (blk_lt Va.out))
          replace Vb := Lib.hid (blk_below Vb.out hb (blk_lt Vb.out))
          replace HB := Lib.hid (And.intro (HB.out.1.trans (hb.mono HB.out.2)) (Nat.le_trans HB.out.2 hb.size))
          clear hb
          clear Vf
          clear Va
          clear Vb
          go_wp2_with fail
          refine (N4.out _).mono ?_
          rintro e w19 ⟨rfl, hb⟩
          replace Vo := Lib.hid (blk_below Vo.out hb (blk_lt Vo.out))
          replace HB := Lib.hid (And.intro (HB.out.1.trans (hb.mono HB.out.2)) (Nat.le_trans HB.out.2 hb.size))
          clear hb
          have lto := blk_lt Vo.out
          have gq := HB.out.2
          obtain ⟨w20, hw20⟩ : ∃ W, (w19.alloc (.cells #[.int .i64 0, .int .i64 0, .int .i64 0, .int .i64 0, .int .i64 0, .int .i64 0, .bool false, .bool false, .int .i64 0, .bool false] 31)) = W := ⟨_, rfl⟩
          have hb : Below w19.heap.size w19 w20 := hw20 ▸ ((Below.refl _ _).alloc (Nat.le_refl _) _)
          have hv0 : w20.heap[w19.heap.size]? = some (.cells #[.int .i64 0, .int .i64 0, .int .i64 0, .int .i64 0, .int .i64 0, .int .i64 0, .bool false, .bool false, .int .i64 0, .bool false] 31) := by
            have h0 := heap_alloc_new w19 (.cells #[.int .i64 0, .int .i64 0, .int .i64 0, .int .i64 0, .int .i64 0, .int .i64 0, .bool false, .bool false, .int .i64 0, .bool false] 31)
            rw [show w19.heap.size = w19.heap.size by simp [Nat.add_assoc]] at h0
            rw [← hw20]
            exact h0
          replace Vo := Lib.hid (blk_below Vo.out hb (blk_lt Vo.out))
          replace HB := Lib.hid (And.intro (HB.out.1.trans (hb.mono HB.out.2)) (Nat.le_trans HB.out.2 hb.size))
          have Vg := Lib.hid hv0
          have neo_g := Nat.ne_of_lt lto
          have geg := gq
          generalize hsg : w19.heap.size = sg at *
          clear hb gq hv0 lto
          obtain ⟨mw21, w21, hw21, hse, VN⟩ := set10 Vg.out (.int .i64 31) (.int .i64 0) (.int .i64 0) (.int .i64 0) (.int .i64 (-1)) (.int .i64 0) (.bool false) (.bool false) (.int .i64 0) (.bool false)
          replace Vo := Lib.hid (stayS hse neo_g Vo.out)
          replace Vg := VN
          replace HB := Lib.hid (belS hse geg HB.out)
          clear VN hse
          have co := row11 Vo.out
          have cg := row10 Vg.out
          go_wp2_with fail
          refine (K5.out _).mono ?_
          rintro e w22 ⟨rfl, hb⟩
          clear mw21 hw21 co cg
          replace Vo := Lib.hid (blk_below Vo.out hb (blk_lt Vo.out))
          replace Vg := Lib.hid (blk_below Vg.out hb (blk_lt Vg.out))
          replace HB := Lib.hid (And.intro (HB.out.1.trans (hb.mono HB.out.2)) (Nat.le_trans HB.out.2 hb.size))
          clear hb
          have lto := blk_lt Vo.out
          have ltg := blk_lt Vg.out
          have gq := HB.out.2
          obtain ⟨w23, hw23⟩ : ∃ W, (w22.alloc (.cells #[.bool false, .bool false, .bool false, .int .i64 0, .int .i64 0, .int .u64 0, .slice none 0 0] 38)) = W := ⟨_, rfl⟩
          have hb : Below w22.heap.size w22 w23 := hw23 ▸ ((Below.refl _ _).alloc (Nat.le_refl _) _)
          have hv0 : w23.heap[w22.heap.size]? = some (.cells #[.bool false, .bool false, .bool false, .int .i64 0, .int .i64 0, .int .u64 0, .slice none 0 0] 38) := by
            have h0 := heap_alloc_new w22 (.cells #[.bool false, .bool false, .bool false, .int .i64 0, .int .i64 0, .int .u64 0, .slice none 0 0] 38)
            rw [show w22.heap.size = w22.heap.size by simp [Nat.add_assoc]] at h0
            rw [← hw23]
            exact h0
          replace Vo := Lib.hid (blk_below Vo.out hb (blk_lt Vo.out))
          replace Vg := Lib.hid (blk_below Vg.out hb (blk_lt Vg.out))
          replace HB := Lib.hid (And.intro (HB.out.1.trans (hb.mono HB.out.2)) (Nat.le_trans HB.out.2 hb.size))
          have Vc := Lib.hid hv0
          have neo_c := Nat.ne_of_lt lto
          have neg_c := Nat.ne_of_lt ltg
          have gec := gq
          generalize hsc : w22.heap.size = sc at *
          clear hb gq hv0 lto ltg
          obtain ⟨mw24, w24, hw24, hse, VN⟩ := set11 Vo.out (.int .i64 2) (.int .i64 1) (.int .i64 0) (.int .i64 0) (.int .i64 0) (.int .i64 0) (.int .i64 0) (.int .u32 0) (.int .u32 0) (.slice none 0 0) (.slice none 0 0)
          replace Vg := Lib.hid (stayS hse neo_g.symm Vg.out)
          replace Vc := Lib.hid (stayS hse neo_c.symm Vc.out)
          replace Vo := VN
          replace HB := Lib.hid (belS hse geo HB.out)
          clear VN hse
          obtain ⟨mw25, w25, hw25, hse, VN⟩ := set10 Vg.out (.int .i64 31) (.int .i64 1) (.int .i64 0) (.int .i64 0) (.int .i64 (-1)) (.int .i64 0) (.bool false) (.bool false) (.int .i64 0) (.bool false)
          replace Vo := Lib.hid (stayS hse neo_g Vo.out)
          replace Vc := Lib.hid (stayS hse neg_c.symm Vc.out)
          replace Vg := VN
          replace HB := Lib.hid (belS hse geg HB.out)
          clear VN hse
          obtain ⟨mw26, w26, hw26, hse, VN⟩ := set7 Vc.out (.bool false) (.bool false) (.bool false) (.int .i64 0) (.int .i64 0) (.int .u64 0) (.slice none 0 0)
          replace Vo := Lib.hid (stayS hse neo_c Vo.out)
          replace Vg := Lib.hid (stayS hse neg_c Vg.out)
          replace Vc := VN
          replace HB := Lib.hid (belS hse gec HB.out)
          clear VN hse
          have co := row11 Vo.out
          have cg := row10 Vg.out
          go_wp2_with fail
          refine (K6.out _).mono ?_
          rintro e w27 ⟨rfl, hb⟩
          clear mw24 hw24 mw25 hw25 mw26 hw26 co cg
          replace Vo := Lib.hid (blk_below Vo.out hb (blk_lt Vo.out))
          replace Vg := Lib.hid (blk_below Vg.out hb (blk_lt Vg.out))
          replace Vc := Lib.hid (blk_below Vc.out hb (blk_lt Vc.out))
          replace HB := Lib.hid (And.intro (HB.out.1.trans (hb.mono HB.out.2)) (Nat.le_trans HB.out.2 hb.size))
          clear hb
          have lto := blk_lt Vo.out
          have ltg := blk_lt Vg.out
          have ltc := blk_lt Vc.out
          have gq := HB.out.2
          obtain ⟨w28, hw28⟩ : ∃ W, (w27.alloc (.cells #[.bool false, .bool false, .bool false, .int .i64 0, .int .i64 0, .int .u64 0, .slice none 0 0] 38)) = W := ⟨_, rfl⟩
          have hb : Below w27.heap.size w27 w28 := hw28 ▸ ((Below.refl _ _).alloc (Nat.le_refl _) _)
          have hv0 : w28.heap[w27.heap.size]? = some (.cells #[.bool false, .bool false, .bool false, .int .i64 0, .int .i64 0, .int .u64 0, .slice none 0 0] 38) := by
            have h0 := heap_alloc_new w27 (.cells #[.bool false, .bool false, .bool false, .int .i64 0, .int .i64 0, .int .u64 0, .slice none 0 0] 38)
            rw [show w27.heap.size = w27.heap.size by simp [Nat.add_assoc]] at h0
            rw [← hw28]
            exact h0
          replace Vo := Lib.hid (blk_below Vo.out hb (blk_lt Vo.out))
          replace Vg := Lib.hid (blk_below Vg.out hb (blk_lt Vg.out))
          replace Vc := Lib.hid (blk_below Vc.out hb (blk_lt Vc.out))
          replace HB := Lib.hid (And.intro (HB.out.1.trans (hb.mono HB.out.2)) (Nat.le_trans HB.out.2 hb.size))
          have Vd := Lib.hid hv0
          have neo_d := Nat.ne_of_lt lto
          have neg_d := Nat.ne_of_lt ltg
          have nec_d := Nat.ne_of_lt ltc
          have ged := gq
          generalize hsd : w27.heap.size = sd at *
          clear hb gq hv0 lto ltg ltc
          obtain ⟨mw29, w29, hw29, hse, VN⟩ := set11 Vo.out (.int .i64 2) (.int .i64 1) (.int .i64 0) (.int .i64 0) (.int .i64 0) (.int .i64 0) (.int .i64 0) (.int .u32 0) (.int .u32 0) (.slice none 0 0) (.slice none 0 0)
          replace Vg := Lib.hid (stayS hse neo_g.symm Vg.out)
          replace Vc := Lib.hid (stayS hse neo_c.symm Vc.out)
          replace Vd := Lib.hid (stayS hse neo_d.symm Vd.out)
          replace Vo := VN
          replace HB := Lib.hid (belS hse geo HB.out)
          clear VN hse
          obtain ⟨mw30, w30, hw30, hse, VN⟩ := set10 Vg.out (.int .i64 31) (.int .i64 2) (.int .i64 0) (.int .i64 0) (.int .i64 (-1)) (.int .i64 0) (.bool false) (.bool false) (.int .i64 0) (.bool false)
          replace Vo := Lib.hid (stayS hse neo_g Vo.out)
          replace Vc := Lib.hid (stayS hse neg_c.symm Vc.out)
          replace Vd := Lib.hid (stayS hse neg_d.symm Vd.out)
          replace Vg := VN
          replace HB := Lib.hid (belS hse geg HB.out)
          clear VN hse
          obtain ⟨mw31, w31, hw31, hse, VN⟩ := set7 Vd.out (.bool false) (.bool false) (.bool false) (.int .i64 0) (.int .i64 0) (.int .u64 0) (.slice none 0 0)
          replace Vo := Lib.hid (stayS hse neo_d Vo.out)
          replace Vg := Lib.hid (stayS hse neg_d Vg.out)
          replace Vc := Lib.hid (stayS hse nec_d Vc.out)
          replace Vd := VN
          replace HB := Lib.hid (belS hse ged HB.out)
          clear VN hse
          have co := row11 Vo.out
          have cg := row10 Vg.out
          go_wp2_with fail
          refine (K7.out _).mono ?_
          rintro e w32 ⟨rfl, hb⟩
          clear mw29 hw29 mw30 hw30 mw31 hw31 co cg
          replace Vo := Lib.hid (blk_below Vo.out hb (blk_lt Vo.out))
          replace Vg := Lib.hid (blk_below Vg.out hb (blk_lt Vg.out))
          replace Vc := Lib.hid (blk_below Vc.out hb (blk_lt Vc.out))
          replace Vd := Lib.hid (blk_below Vd.out hb (blk_lt Vd.out))
          replace HB := Lib.hid (And.intro (HB.out.1.trans (hb.mono HB.out.2)) (Nat.le_trans HB.out.2 hb.size))
          clear hb
          have lto := blk_lt Vo.out
          have ltg := blk_lt Vg.out
          have ltc := blk_lt Vc.out
          have ltd := blk_lt Vd.out
          have gq := HB.out.2
          obtain ⟨w33, hw33⟩ : ∃ W, (w32.alloc (.cells #[.bool false, .bool false, .bool false, .int .i64 0, .int .i64 0, .int .u64 0, .slice none 0 0] 38)) = W := ⟨_, rfl⟩
          have hb : Below w32.heap.size w32 w33 := hw33 ▸ ((Below.refl _ _).alloc (Nat.le_refl _) _)
          have hv0 : w33.heap[w32.heap.size]? = some (.cells #[.bool false, .bool false, .bool false, .int .i64 0, .int .i64 0, .int .u64 0, .slice none 0 0] 38) := by
            have h0 := heap_alloc_new w32 (.cells #[.bool false, .bool false, .bool false, .int .i64 0, .int .i64 0, .int .u64 0, .slice none 0 0] 38)
            rw [show w32.heap.size = w32.heap.size by simp [Nat.add_assoc]] at h0
            rw [← hw33]
            exact h0
          replace Vo := Lib.hid (blk_below Vo.out hb (blk_lt Vo.out))
          replace Vg := Lib.hid (blk_below Vg.out hb (blk_lt Vg.out))
          replace Vc := Lib.hid (blk_below Vc.out hb (blk_lt Vc.out))
          replace Vd := Lib.hid (blk_below Vd.out hb (blk_lt Vd.out))
          replace HB := Lib.hid (And.intro (HB.out.1.trans (hb.mono HB.out.2)) (Nat.le_trans HB.out.2 hb.size))
          have Ve := Lib.hid hv0
          have neo_e := Nat.ne_of_lt lto
          have neg_e := Nat.ne_of_lt ltg
          have nec_e := Nat.ne_of_lt ltc
          have ned_e := Nat.ne_of_lt ltd
          have gee := gq
          generalize hse : w32.heap.size = se at *
          clear hb gq hv0 lto ltg ltc ltd
          obtain ⟨mw34, w34, hw34, hse, VN⟩ := set11 Vo.out (.int .i64 2) (.int .i64 0) (.int .i64 0) (.int .i64 0) (.int .i64 0) (.int .i64 0) (.int .i64 0) (.int .u32 0) (.int .u32 0) (.slice none 0 0) (.slice none 0 0)
          replace Vg := Lib.hid (stayS hse neo_g.symm Vg.out)
          replace Vc := Lib.hid (stayS hse neo_c.symm Vc.out)
          replace Vd := Lib.hid (stayS hse neo_d.symm Vd.out)
          replace Ve := Lib.hid (stayS hse neo_e.symm Ve.out)
          replace Vo := VN
          replace HB := Lib.hid (belS hse geo HB.out)
          clear VN hse
          obtain ⟨mw35, w35, hw35, hse, VN⟩ := set10 Vg.out (.int .i64 0) (.int .i64 0) (.int .i64 0) (.int .i64 0) (.int .i64 0) (.int .i64 0) (.bool false) (.bool false) (.int .i64 0) (.bool false)
          replace Vo := Lib.hid (stayS hse neo_g Vo.out)
          replace Vc := Lib.hid (stayS hse neg_c.symm Vc.out)
          replace Vd := Lib.hid (stayS hse neg_d.symm Vd.out)
          replace Ve := Lib.hid (stayS hse neg_e.symm Ve.out)
          replace Vg := VN
          replace HB := Lib.hid (belS hse geg HB.out)
          clear VN hse
          obtain ⟨mw36, w36, hw36, hse, VN⟩ := set7 Ve.out (.bool true) (.bool false) (.bool false) (.int .i64 0) (.int .i64 0) (.int .u64 0) (.slice none 0 0)
          replace Vo := Lib.hid (stayS hse neo_e Vo.out)
          replace Vg := Lib.hid (stayS hse neg_e Vg.out)
          replace Vc := Lib.hid (stayS hse nec_e Vc.out)
          replace Vd := Lib.hid (stayS hse ned_e Vd.out)
          replace Ve := VN
          replace HB := Lib.hid (belS hse gee HB.out)
          clear VN hse
          have co := row11 Vo.out
          have cg := row10 Vg.out
          have cc := row7 Vc.out
          have cd := row7 Vd.out
          have ce := row7 Ve.out
          go_wp2
          go_ret
          exact ⟨rfl, HB.out.1⟩
end Go.Proofs.Ytpkegfochfkkcaa
