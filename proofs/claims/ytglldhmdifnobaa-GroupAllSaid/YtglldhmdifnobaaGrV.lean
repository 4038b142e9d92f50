/- The walk of GroupAll: it answers true, over any world; a condition: both are bytes. -/
import Derived.Test.YtglldhmdifnobaaGrS
import Derived.BigQuiet
import Derived.Deep.QuietTactic
namespace Go.Proofs.Ytglldhmdifnobaa
set_option linter.unusedVariables false
set_option linter.unusedSimpArgs false
open Go.RowKit
set_option maxRecDepth 100000 in
set_option maxHeartbeats 16000000 in
theorem all17_walk (nn bb : Int) (w : World) (f0 : 0 ≤ nn) (f1 : nn < 256) (g0 : 0 ≤ bb) (g1 : bb < 256) : Calls Try.prog 5 #[.int .u8 nn, .int .u8 bb] w fun e w' => e = .returned (.bool true) ∧ Below w.heap.size w w' := by
  obtain ⟨m, hm⟩ : ∃ m : Nat, nn = (m : Int) := ⟨nn.toNat, by omega⟩
  subst hm
  have hm1 : m < 256 := by omega
  have hwm : IntKind.i64.wrap (m : Int) = (m : Int) := by rw [IntKind.wrap_i64]; omega
  have hwb : IntKind.i64.wrap bb = bb := by rw [IntKind.wrap_i64]; omega
  obtain ⟨p, hp⟩ : ∃ p, IntKind.i64.wrap (1 + bb) = p := ⟨_, rfl⟩
  obtain ⟨qq, hqq⟩ : ∃ q, IntKind.i64.wrap (-1 - bb) = q := ⟨_, rfl⟩
  have HP := Lib.hid (show 0 < p ∧ p < 257 ∧ qq = -p by rw [← hp, ← hqq, IntKind.wrap_i64, IntKind.wrap_i64]; omega)
  have HM := Lib.hid hm1
  have AL := Lib.hid alive17
  have N1 := Lib.hid (show ∀ W : World, Calls Try.prog 14 #[.int .i64 32] W (fun e w' => e = .returned (.agg #[.int .i64 32, .int .i64 0, .int .i64 0, .int .i64 0, .int .i64 (-1), .int .i64 0, .bool false, .bool false, .int .i64 0, .bool false]) ∧ Below W.heap.size W w') from fun W => begin17_any 32 W)
  have N2 := Lib.hid (show ∀ W : World, Calls Try.prog 14 #[.int .i64 33] W (fun e w' => e = .returned (.agg #[.int .i64 33, .int .i64 0, .int .i64 0, .int .i64 0, .int .i64 (-1), .int .i64 0, .bool false, .bool false, .int .i64 0, .bool false]) ∧ Below W.heap.size W w') from fun W => begin17_any 33 W)
  clear f0 f1 g0 g1
  have KW := Lib.hid (show ∀ (v u : Int) (hv : 0 ≤ v ∧ v < 256 ∧ u = v + 1) (W : World), Calls Try.prog 10 #[.agg #[.int .i64 3, .int .i64 p, .int .i64 v, .int .i64 0, .int .i64 0, .int .i64 0, .int .i64 0, .int .u32 0, .int .u32 0, .slice none 0 0, .slice none 0 0], .agg #[.int .i64 33, .int .i64 0, .int .i64 0, .int .i64 0, .int .i64 (-1), .int .i64 0, .bool false, .bool false, .int .i64 0, .bool false]] W (fun e w' => e = .returned (.tuple #[.agg #[.int .i64 3, .int .i64 p, .int .i64 u, .int .i64 0, .int .i64 0, .int .i64 0, .int .i64 0, .int .u32 0, .int .u32 0, .slice none 0 0, .slice none 0 0], .agg #[.int .i64 33, .int .i64 1, .int .i64 0, .int .i64 0, .int .i64 (-1), .int .i64 0, .bool false, .bool false, .int .i64 3, .bool false], .agg #[.bool false, .bool false, .bool false, .int .i64 0, .int .i64 0, .int .u64 0, .slice none 0 0]]) ∧ Below W.heap.size W w') from fun v u hv W => by
    have h := grWait_nil 3 p v 0 0 0 0 0 0 (⟨33, 0, 0, 0, -1, 0, false, false, 0, false⟩ : MFr) ⟨by have := HP.out; rw [IntKind.wrap_i64]; omega, by rw [IntKind.wrap_i64]; omega⟩ W
    rw [show waitW p v (⟨33, 0, 0, 0, -1, 0, false, false, 0, false⟩ : MFr) = ((p, u), (⟨33, 1, 0, 0, -1, 0, false, false, 3, false⟩ : MFr), (⟨false, 0, false, 0⟩ : MAct)) from (by
      have e : IntKind.i64.wrap (v + 1) = u := by rw [IntKind.wrap_i64]; omega
      have h1 := HP.out
      unfold waitW
      rw [if_neg (fun h => by rcases h with h | h; exact absurd (show (0 : Int) = 1 from h) (by decide); have := h.2; omega), if_pos rfl, e]
      rfl)] at h
    exact h)
  have KZ := Lib.hid (show ∀ (v : Int) (hv : v = 0) (W : World), Calls Try.prog 8 #[.agg #[.int .i64 3, .int .i64 p, .int .i64 v, .int .i64 0, .int .i64 0, .int .i64 0, .int .i64 0, .int .u32 0, .int .u32 0, .slice none 0 0, .slice none 0 0], .agg #[.int .i64 32, .int .i64 0, .int .i64 0, .int .i64 0, .int .i64 (-1), .int .i64 0, .bool false, .bool false, .int .i64 0, .bool false], .int .i64 qq] W (fun e w' => e = .returned (.tuple #[.agg #[.int .i64 3, .int .i64 0, .int .i64 v, .int .i64 0, .int .i64 0, .int .i64 0, .int .i64 0, .int .u32 0, .int .u32 0, .slice none 0 0, .slice none 0 0], .agg #[.int .i64 0, .int .i64 0, .int .i64 0, .int .i64 0, .int .i64 0, .int .i64 0, .bool false, .bool false, .int .i64 0, .bool false], .agg #[.bool true, .bool false, .bool false, .int .i64 0, .int .i64 0, .int .u64 0, .slice none 0 0]]) ∧ Below W.heap.size W w') from fun v hv W => by
    have h := grCount_nil 3 p v 0 0 0 0 0 0 (⟨32, 0, 0, 0, -1, 0, false, false, 0, false⟩ : MFr) qq ⟨by have := HP.out; rw [IntKind.wrap_i64]; omega, by subst hv; kernel_rfl⟩ W
    rw [show countW p v (⟨32, 0, 0, 0, -1, 0, false, false, 0, false⟩ : MFr) qq = ((0, v), (⟨0, 0, 0, 0, 0, 0, false, false, 0, false⟩ : MFr), (⟨true, 0, false, 0⟩ : MAct)) from (by
      have h1 := HP.out
      have e : IntKind.i64.wrap (p + qq) = 0 := by rw [IntKind.wrap_i64]; omega
      unfold countW
      rw [if_pos rfl, e, if_neg (by omega), if_pos (Or.inr hv)]
      rfl)] at h
    exact h)
  have KN := Lib.hid (show ∀ (v : Int) (hv : 0 < v ∧ v < 256) (W : World), Calls Try.prog 8 #[.agg #[.int .i64 3, .int .i64 p, .int .i64 v, .int .i64 0, .int .i64 0, .int .i64 0, .int .i64 0, .int .u32 0, .int .u32 0, .slice none 0 0, .slice none 0 0], .agg #[.int .i64 32, .int .i64 0, .int .i64 0, .int .i64 0, .int .i64 (-1), .int .i64 0, .bool false, .bool false, .int .i64 0, .bool false], .int .i64 qq] W (fun e w' => e = .returned (.tuple #[.agg #[.int .i64 3, .int .i64 0, .int .i64 0, .int .i64 0, .int .i64 0, .int .i64 0, .int .i64 0, .int .u32 0, .int .u32 0, .slice none 0 0, .slice none 0 0], .agg #[.int .i64 32, .int .i64 1, .int .i64 0, .int .i64 0, .int .i64 (-1), .int .i64 v, .bool false, .bool false, .int .i64 0, .bool false], .agg #[.bool false, .bool false, .bool false, .int .i64 0, .int .i64 0, .int .u64 0, .slice none 0 0]]) ∧ Below W.heap.size W w') from fun v hv W => by
    have h := grCount_nil 3 p v 0 0 0 0 0 0 (⟨32, 0, 0, 0, -1, 0, false, false, 0, false⟩ : MFr) qq ⟨by have := HP.out; rw [IntKind.wrap_i64]; omega, by rw [IntKind.wrap_i64]; omega⟩ W
    rw [show countW p v (⟨32, 0, 0, 0, -1, 0, false, false, 0, false⟩ : MFr) qq = ((0, 0), (⟨32, 1, 0, 0, -1, v, false, false, 0, false⟩ : MFr), (⟨false, 0, false, 0⟩ : MAct)) from (by
      have h1 := HP.out
      have e : IntKind.i64.wrap (p + qq) = 0 := by rw [IntKind.wrap_i64]; omega
      unfold countW
      rw [if_pos rfl, e, if_neg (by omega), if_neg (by omega)]
      rfl)] at h
    exact h)
  have KG := Lib.hid (show ∀ (v u : Int) (hv : 1 < v ∧ v < 256 ∧ u = v - 1) (W : World), Calls Try.prog 8 #[.agg #[.int .i64 3, .int .i64 0, .int .i64 0, .int .i64 0, .int .i64 0, .int .i64 0, .int .i64 0, .int .u32 0, .int .u32 0, .slice none 0 0, .slice none 0 0], .agg #[.int .i64 32, .int .i64 1, .int .i64 0, .int .i64 0, .int .i64 (-1), .int .i64 v, .bool false, .bool false, .int .i64 0, .bool false], .int .i64 qq] W (fun e w' => e = .returned (.tuple #[.agg #[.int .i64 3, .int .i64 0, .int .i64 0, .int .i64 0, .int .i64 0, .int .i64 0, .int .i64 0, .int .u32 0, .int .u32 0, .slice none 0 0, .slice none 0 0], .agg #[.int .i64 32, .int .i64 1, .int .i64 0, .int .i64 0, .int .i64 (-1), .int .i64 u, .bool false, .bool false, .int .i64 0, .bool false], .agg #[.bool false, .bool false, .bool false, .int .i64 3, .int .i64 0, .int .u64 0, .slice none 0 0]]) ∧ Below W.heap.size W w') from fun v u hv W => by
    have h := grCount_nil 3 0 0 0 0 0 0 0 0 (⟨32, 1, 0, 0, -1, v, false, false, 0, false⟩ : MFr) qq ⟨by kernel_rfl, by kernel_rfl⟩ W
    rw [show countW 0 0 (⟨32, 1, 0, 0, -1, v, false, false, 0, false⟩ : MFr) qq = ((0, 0), (⟨32, 1, 0, 0, -1, u, false, false, 0, false⟩ : MFr), (⟨false, 3, false, 0⟩ : MAct)) from (by
      have e : IntKind.i64.wrap (v - 1) = u := by rw [IntKind.wrap_i64]; omega
      unfold countW
      rw [if_neg (show ¬ ((1 : Int) = 0) by decide), if_pos rfl]
      simp only [e]
      rw [if_neg (by omega)])] at h
    exact h)
  have KL := Lib.hid (show ∀ (W : World), Calls Try.prog 8 #[.agg #[.int .i64 3, .int .i64 0, .int .i64 0, .int .i64 0, .int .i64 0, .int .i64 0, .int .i64 0, .int .u32 0, .int .u32 0, .slice none 0 0, .slice none 0 0], .agg #[.int .i64 32, .int .i64 1, .int .i64 0, .int .i64 0, .int .i64 (-1), .int .i64 1, .bool false, .bool false, .int .i64 0, .bool false], .int .i64 qq] W (fun e w' => e = .returned (.tuple #[.agg #[.int .i64 3, .int .i64 0, .int .i64 0, .int .i64 0, .int .i64 0, .int .i64 0, .int .i64 0, .int .u32 0, .int .u32 0, .slice none 0 0, .slice none 0 0], .agg #[.int .i64 0, .int .i64 0, .int .i64 0, .int .i64 0, .int .i64 0, .int .i64 0, .bool false, .bool false, .int .i64 0, .bool false], .agg #[.bool true, .bool false, .bool false, .int .i64 3, .int .i64 0, .int .u64 0, .slice none 0 0]]) ∧ Below W.heap.size W w') from fun W => by
    have h := grCount_nil 3 0 0 0 0 0 0 0 0 (⟨32, 1, 0, 0, -1, 1, false, false, 0, false⟩ : MFr) qq ⟨by kernel_rfl, by kernel_rfl⟩ W
    rw [show countW 0 0 (⟨32, 1, 0, 0, -1, 1, false, false, 0, false⟩ : MFr) qq = ((0, 0), (⟨0, 0, 0, 0, 0, 0, false, false, 0, false⟩ : MFr), (⟨true, 3, false, 0⟩ : MAct)) from (by
      unfold countW
      rw [if_neg (show ¬ ((1 : Int) = 0) by decide), if_pos rfl] <;> rfl)] at h
    exact h)
  have hw2 := w6_eq 0 0 0 0 0 0
  have hmm : ((m : Int) == (m : Int)) = true := by simp
  have hm0 : (0 : Int) ≤ (m : Int) := by omega
  have HB := Lib.hid (And.intro (Below.refl w.heap.size w) (Nat.le_refl w.heap.size))
  go_enter Try.func5, Try.ntmps5
  go_wp2_with fail
  refine (AL.out _).mono ?_
  rintro e w1 ⟨rfl, hb⟩
  replace HB := Lib.hid (And.intro (HB.out.1.trans (hb.mono HB.out.2)) (Nat.le_trans HB.out.2 hb.size))
  clear hb
  have gq := HB.out.2
  obtain ⟨w2, hw2⟩ : ∃ W, (w1.alloc (.cells #[.int .i64 0, .int .i64 0, .int .i64 0, .int .i64 0, .int .i64 0, .int .i64 0, .int .i64 0, .int .u32 0, .int .u32 0, .slice none 0 0, .slice none 0 0] 29)) = W := ⟨_, rfl⟩
  have hb : Below w1.heap.size w1 w2 := hw2 ▸ ((Below.refl _ _).alloc (Nat.le_refl _) _)
  have hv0 : w2.heap[w1.heap.size]? = some (.cells #[.int .i64 0, .int .i64 0, .int .i64 0, .int .i64 0, .int .i64 0, .int .i64 0, .int .i64 0, .int .u32 0, .int .u32 0, .slice none 0 0, .slice none 0 0] 29) := by
    have h0 := heap_alloc_new w1 (.cells #[.int .i64 0, .int .i64 0, .int .i64 0, .int .i64 0, .int .i64 0, .int .i64 0, .int .i64 0, .int .u32 0, .int .u32 0, .slice none 0 0, .slice none 0 0] 29)
    rw [show w1.heap.size = w1.heap.size by simp [Nat.add_assoc]] at h0
    rw [← hw2]
    exact h0
  replace HB := Lib.hid (And.intro (HB.out.1.trans (hb.mono HB.out.2)) (Nat.le_trans HB.out.2 hb.size))
  have Vo := Lib.hid hv0
  have geo := gq
  generalize hso : w1.heap.size = so at *
  clear hb gq hv0
  obtain ⟨mw3, w3, hw3, hse, VN⟩ := set11 Vo.out (.int .i64 3) (.int .i64 p) (.int .i64 0) (.int .i64 0) (.int .i64 0) (.int .i64 0) (.int .i64 0) (.int .u32 0) (.int .u32 0) (.slice none 0 0) (.slice none 0 0)
  replace Vo := VN
  replace HB := Lib.hid (belS hse geo HB.out)
  clear VN hse
  go_wp2
  clear mw3 hw3
  go_loopw [6] (fun iv wr => ∃ (i : Nat) (v : Int), iv = .int .i64 (i : Int) ∧ i ≤ m ∧ v = (i : Int) ∧ Hid (Below w.heap.size w wr ∧ w.heap.size ≤ wr.heap.size) ∧ Hid (wr.heap[so]? = some (.cells #[.int .i64 3, .int .i64 p, .int .i64 v, .int .i64 0, .int .i64 0, .int .i64 0, .int .i64 0, .int .u32 0, .int .u32 0, .slice none 0 0, .slice none 0 0] 29))) (fun iv _ => m - (intOf iv).toNat)
  case atStart => exact ⟨0, 0, rfl, by omega, rfl, HB, Vo⟩
  case round =>
    clear HB Vo
    obtain ⟨i, v, rfl, hi, hv, HB, Vo⟩ := hrel
    by_cases hlt : i < m
    · have c1 : decide ((i : Int) < (m : Int)) = true := by simpa using hlt
      have c1n : decide (i < m) = true := by simpa using hlt
      obtain ⟨y1, hu⟩ : ∃ y, y = v + 1 := ⟨_, rfl⟩
      have KC := Lib.hid (KW.out v y1 (by omega))
      have HI := Lib.hid (And.intro hlt (And.intro hv (And.intro hu hm1)))
      clear hlt hi hv hu
      go_wp2
      refine wp_region_noPanic ?_
      refine wp_region_held_drew (S := (fun wv => Below wr.heap.size wr wv)) (by kernel_rfl) ((Below.refl wr.heap.size wr).drew) (fun hS => ?_)
      refine wpAnyH_take (i := 0) (oi := ⟨some 30, .load 29 (.tmp 5), 29, "law.go:80", #[], none⟩) (v := .agg (([.int .i64 3, .int .i64 p, .int .i64 v, .int .i64 0, .int .i64 0, .int .i64 0, .int .i64 0, .int .u32 0, .int .u32 0, .slice none 0 0, .slice none 0 0] : List Value)).toArray) rfl (by kernel_rfl) (by kernel_rfl) (by kernel_rfl) (fun _ _ _ h => h) (yieldsIf_load_mid (by rfl) _ _ (by rfl) (so) (0) (by rfl) _ _ (fun wv hS => blk_rngl (blk_below Vo.out hS (blk_lt Vo.out))) Try.underlying29 (by rfl) (by kernel_rfl)) hS ?_
      try simp only [Act.put, List.setIfInBounds_toArray, List.set_cons_zero, List.set_cons_succ]
      refine inv_region (fun a0 fu listed a u => ∃ (cq0 cq1 xq0 xq1 xq2 : Bool) (v31 v32 v29 v33 v34 v35 p7 p8 p9 : Value) (sx sg sa : Nat), listed = #[true, cq0, cq1, cq1, cq1, cq1, cq1, xq0, xq1, xq2, false, false, false] ∧ a = ⟨(((((((((a0.tmps.setIfInBounds 31 v31).setIfInBounds 32 v32).setIfInBounds 29 v29).setIfInBounds 33 v33).setIfInBounds 34 v34).setIfInBounds 35 v35).setIfInBounds 7 p7).setIfInBounds 8 p8).setIfInBounds 9 p9), a0.defers⟩ ∧ (bif cq0 then 0 else 1) + (bif cq1 then 0 else 5) + (bif xq0 then 0 else 1) + (bif xq1 then 0 else 1) + (bif xq2 then 0 else 1) + 3 ≤ fu ∧ (cq1 = true → cq0 = true) ∧ Below wr.heap.size wr u ∧ (cq0 = true → v31 = .agg #[.int .i64 33, .int .i64 0, .int .i64 0, .int .i64 0, .int .i64 (-1), .int .i64 0, .bool false, .bool false, .int .i64 0, .bool false]) ∧ (cq1 = true → v33 = .agg #[.int .i64 3, .int .i64 p, .int .i64 y1, .int .i64 0, .int .i64 0, .int .i64 0, .int .i64 0, .int .u32 0, .int .u32 0, .slice none 0 0, .slice none 0 0]) ∧ (cq1 = true → v34 = .agg #[.int .i64 33, .int .i64 1, .int .i64 0, .int .i64 0, .int .i64 (-1), .int .i64 0, .bool false, .bool false, .int .i64 3, .bool false]) ∧ (cq1 = true → v35 = .agg #[.bool false, .bool false, .bool false, .int .i64 0, .int .i64 0, .int .u64 0, .slice none 0 0]) ∧ (xq0 = true → p7 = .pointer (some ⟨sx, 0, none⟩) ∧ wr.heap.size ≤ sx ∧ u.heap[sx]? = some (.cells #[.int .i64 0, .int .i64 0, .int .i64 0, .int .i64 0, .int .i64 0, .int .i64 0, .int .i64 0, .int .u32 0, .int .u32 0, .slice none 0 0, .slice none 0 0] 29)) ∧ (xq1 = true → p8 = .pointer (some ⟨sg, 0, none⟩) ∧ wr.heap.size ≤ sg ∧ u.heap[sg]? = some (.cells #[.int .i64 0, .int .i64 0, .int .i64 0, .int .i64 0, .int .i64 0, .int .i64 0, .bool false, .bool false, .int .i64 0, .bool false] 31)) ∧ (xq2 = true → p9 = .pointer (some ⟨sa, 0, none⟩) ∧ wr.heap.size ≤ sa ∧ u.heap[sa]? = some (.cells #[.bool false, .bool false, .bool false, .int .i64 0, .int .i64 0, .int .u64 0, .slice none 0 0] 38))) ⟨false, false, false, false, false, u31, u32, u29, u33, u34, u35, u7, u8, u9, 0, 0, 0, rfl, (by first | (simp only [List.setIfInBounds_toArray, List.set_cons_zero, List.set_cons_succ]; done) | rfl), (by show _ + _ ≤ _; decide), (fun h => nomatch h), hS, (fun h => nomatch h), (fun h => nomatch h), (fun h => nomatch h), (fun h => nomatch h), (fun h => nomatch h), (fun h => nomatch h), (fun h => nomatch h)⟩ ?_
      clear hS; rintro fu listed a u ⟨cq0, cq1, xq0, xq1, xq2, v31, v32, v29, v33, v34, v35, p7, p8, p9, sx, sg, sa, rfl, rfl, hn, hc0, hS, h31, h33, h34, h35, ksx, ksg, ksa⟩ IH
      try simp only [List.setIfInBounds_toArray, List.set_cons_zero, List.set_cons_succ]
      by_cases hall : (cq0 && (cq1 && (xq0 && (xq1 && (xq2))))) = true
      rotate_left
      · have hbad : ((cq1 && !cq0) || ((cq0 && (cq1 && (xq0 && (xq1 && (xq2))))))) = false := inv_or (inv_imp hc0) (inv_not hall)
        obtain ⟨fu, rfl⟩ : ∃ m, fu = m + 1 := ⟨fu - 1, by omega⟩
        refine inv_step (bad := ((cq1 && !cq0) || ((cq0 && (cq1 && (xq0 && (xq1 && (xq2)))))))) (fun i => ((i == 1 && !cq0) || ((i == 2 && (cq0 && !cq1)) || ((i == 7 && !xq0) || ((i == 8 && !xq1) || ((i == 9 && !xq2))))))) ((show ∀ cq0 cq1 xq0 xq1 xq2 : Bool, (((cq1 && !cq0) || ((cq0 && (cq1 && (xq0 && (xq1 && (xq2))))))) || (!(Region.ready _ _ #[true, cq0, cq1, cq1, cq1, cq1, cq1, xq0, xq1, xq2, false, false, false]).isEmpty && (Region.ready _ _ #[true, cq0, cq1, cq1, cq1, cq1, cq1, xq0, xq1, xq2, false, false, false]).all (fun i => ((i == 1 && !cq0) || ((i == 2 && (cq0 && !cq1)) || ((i == 7 && !xq0) || ((i == 8 && !xq1) || ((i == 9 && !xq2))))))))) = true from by intro cq0 cq1 xq0 xq1 xq2; cases cq0 <;> cases cq1 <;> cases xq0 <;> cases xq1 <;> cases xq2 <;> kernel_rfl) cq0 cq1 xq0 xq1 xq2) hbad (fun i hi => ?_)
        simp only [Bool.or_eq_true, Bool.and_eq_true, beq_iff_eq, Bool.not_eq_true'] at hi
        clear hall hbad
        rcases hi with ⟨rfl, rfl⟩ | ⟨rfl, rfl, rfl⟩ | ⟨rfl, rfl⟩ | ⟨rfl, rfl⟩ | ⟨rfl, rfl⟩
        · skip
          refine inv_arm (o := ⟨some 31, .call { callee := .value (.func 14), args := #[.const (Value.int IntKind.i64 33)], argTypes := #[3] }, 31, "law.go:80", #[], none⟩) rfl (fun K hK => ?_)
          go_simp
          go_wp2_with fail
          refine (N2.out _).mono ?_; rintro e u1 ⟨rfl, hb⟩
          replace hS := hS.trans (hb.mono hS.size)
          refine Shut.out hK _ _ hS (fun _ => ?_)
          clear hK K
          try simp only [Act.put, List.setIfInBounds_toArray, List.set_cons_zero, List.set_cons_succ]
          exact IH _ _ _ _ (by omega) ⟨true, cq1, xq0, xq1, xq2, _, v32, v29, v33, v34, v35, p7, p8, p9, sx, sg, sa, rfl, (by (try simp only [List.setIfInBounds_toArray, List.set_cons_zero, List.set_cons_succ]); try rfl), (by simp only [cond_true, cond_false] at hn ⊢; omega), (fun _ => rfl), hS, (fun _ => rfl), h33, h34, h35, (fun h => ⟨(ksx h).1, (ksx h).2.1, blk_below (ksx h).2.2 hb (blk_lt (ksx h).2.2)⟩), (fun h => ⟨(ksg h).1, (ksg h).2.1, blk_below (ksg h).2.2 hb (blk_lt (ksg h).2.2)⟩), (fun h => ⟨(ksa h).1, (ksa h).2.1, blk_below (ksa h).2.2 hb (blk_lt (ksa h).2.2)⟩)⟩
        · skip
          obtain rfl := h31 rfl
          refine inv_arm (o := ⟨some 32, .call { callee := .value (.func 10), args := #[.tmp 30, .tmp 31], argTypes := #[29, 31] }, 39, "law.go:80", #[⟨0, .data⟩, ⟨1, .data⟩, ⟨1, .chain⟩], none⟩) rfl (fun K hK => ?_)
          go_simp
          go_wp2_with fail
          refine (KC.out _).mono ?_; rintro e u2 ⟨rfl, hb⟩
          replace hS := hS.trans (hb.mono hS.size)
          obtain ⟨fu, rfl⟩ : ∃ m, fu = m + 4 := ⟨fu - 4, by simp only [cond_true, cond_false] at hn; omega⟩
          refine Shut.out hK _ _ hS (fun _ => ?_)
          clear hK K
          try simp only [Act.put, List.setIfInBounds_toArray, List.set_cons_zero, List.set_cons_succ]
          refine wpAnyH_take (i := 3) (oi := ⟨some 29, .move (.tmp 32), 39, "law.go:80", #[⟨2, .data⟩], none⟩) (v := ?_) rfl (by kernel_rfl) ((show ∀ xq0 xq1 xq2 : Bool, Region.free _ _ #[true, true, true, false, false, false, false, xq0, xq1, xq2, false, false, false] 3 = true from by intro xq0 xq1 xq2; cases xq0 <;> cases xq1 <;> cases xq2 <;> kernel_rfl) xq0 xq1 xq2) ((show ∀ xq0 xq1 xq2 : Bool, (Region.ready _ _ #[true, true, true, false, false, false, false, xq0, xq1, xq2, false, false, false]).contains 3 = true from by intro xq0 xq1 xq2; cases xq0 <;> cases xq1 <;> cases xq2 <;> kernel_rfl) xq0 xq1 xq2) (fun _ _ _ h => h) (Or.inl ⟨by rfl, ?_⟩) hS ?_
          rotate_left
          · intro wv _; go_simp; try with_reducible rfl
          try simp only [Act.put, List.setIfInBounds_toArray, List.set_cons_zero, List.set_cons_succ]
          refine wpAnyH_take (i := 4) (oi := ⟨some 33, .extract (.tmp 29) 0, 29, "law.go:80", #[⟨3, .data⟩], none⟩) (v := ?_) rfl (by kernel_rfl) ((show ∀ xq0 xq1 xq2 : Bool, Region.free _ _ #[true, true, true, true, false, false, false, xq0, xq1, xq2, false, false, false] 4 = true from by intro xq0 xq1 xq2; cases xq0 <;> cases xq1 <;> cases xq2 <;> kernel_rfl) xq0 xq1 xq2) ((show ∀ xq0 xq1 xq2 : Bool, (Region.ready _ _ #[true, true, true, true, false, false, false, xq0, xq1, xq2, false, false, false]).contains 4 = true from by intro xq0 xq1 xq2; cases xq0 <;> cases xq1 <;> cases xq2 <;> kernel_rfl) xq0 xq1 xq2) (fun _ _ _ h => h) (Or.inl ⟨by rfl, ?_⟩) hS ?_
          rotate_left
          · intro wv _; go_simp; try with_reducible rfl
          try simp only [Act.put, List.setIfInBounds_toArray, List.set_cons_zero, List.set_cons_succ]
          refine wpAnyH_take (i := 5) (oi := ⟨some 34, .extract (.tmp 29) 1, 31, "law.go:80", #[⟨3, .data⟩, ⟨10, .gcOnly .lateStores⟩], none⟩) (v := ?_) rfl (by kernel_rfl) ((show ∀ xq0 xq1 xq2 : Bool, Region.free _ _ #[true, true, true, true, true, false, false, xq0, xq1, xq2, false, false, false] 5 = true from by intro xq0 xq1 xq2; cases xq0 <;> cases xq1 <;> cases xq2 <;> kernel_rfl) xq0 xq1 xq2) ((show ∀ xq0 xq1 xq2 : Bool, (Region.ready _ _ #[true, true, true, true, true, false, false, xq0, xq1, xq2, false, false, false]).contains 5 = true from by intro xq0 xq1 xq2; cases xq0 <;> cases xq1 <;> cases xq2 <;> kernel_rfl) xq0 xq1 xq2) (fun _ _ _ h => h) (Or.inl ⟨by rfl, ?_⟩) hS ?_
          rotate_left
          · intro wv _; go_simp; try with_reducible rfl
          try simp only [Act.put, List.setIfInBounds_toArray, List.set_cons_zero, List.set_cons_succ]
          refine wpAnyH_take (i := 6) (oi := ⟨some 35, .extract (.tmp 29) 2, 38, "law.go:80", #[⟨3, .data⟩, ⟨11, .gcOnly .lateStores⟩], none⟩) (v := ?_) rfl (by kernel_rfl) ((show ∀ xq0 xq1 xq2 : Bool, Region.free _ _ #[true, true, true, true, true, true, false, xq0, xq1, xq2, false, false, false] 6 = true from by intro xq0 xq1 xq2; cases xq0 <;> cases xq1 <;> cases xq2 <;> kernel_rfl) xq0 xq1 xq2) ((show ∀ xq0 xq1 xq2 : Bool, (Region.ready _ _ #[true, true, true, true, true, true, false, xq0, xq1, xq2, false, false, false]).contains 6 = true from by intro xq0 xq1 xq2; cases xq0 <;> cases xq1 <;> cases xq2 <;> kernel_rfl) xq0 xq1 xq2) (fun _ _ _ h => h) (Or.inl ⟨by rfl, ?_⟩) hS ?_
          rotate_left
          · intro wv _; go_simp; try with_reducible rfl
          try simp only [Act.put, List.setIfInBounds_toArray, List.set_cons_zero, List.set_cons_succ]
          exact IH _ _ _ _ (by omega) ⟨true, true, xq0, xq1, xq2, _, _, _, _, _, _, p7, p8, p9, sx, sg, sa, rfl, (by (try simp only [List.setIfInBounds_toArray, List.set_cons_zero, List.set_cons_succ]); try rfl), (by simp only [cond_true, cond_false] at hn ⊢; omega), (fun _ => rfl), hS, (fun _ => rfl), (fun _ => rfl), (fun _ => rfl), (fun _ => rfl), (fun h => ⟨(ksx h).1, (ksx h).2.1, blk_below (ksx h).2.2 hb (blk_lt (ksx h).2.2)⟩), (fun h => ⟨(ksg h).1, (ksg h).2.1, blk_below (ksg h).2.2 hb (blk_lt (ksg h).2.2)⟩), (fun h => ⟨(ksa h).1, (ksa h).2.1, blk_below (ksa h).2.2 hb (blk_lt (ksa h).2.2)⟩)⟩
        · skip
          refine inv_arm (o := ⟨some 7, .alloc 29, 0, "law.go:80", #[], none⟩) rfl (fun K hK => ?_)
          go_simp
          have zs := hS.size
          have hb := (Below.refl u.heap.size u).alloc (Nat.le_refl _) (.cells #[.int .i64 0, .int .i64 0, .int .i64 0, .int .i64 0, .int .i64 0, .int .i64 0, .int .i64 0, .int .u32 0, .int .u32 0, .slice none 0 0, .slice none 0 0] 29)
          replace hS := hS.trans (hb.mono hS.size)
          refine Shut.out hK _ _ hS (fun _ => ?_)
          clear hK K
          try simp only [Act.put, List.setIfInBounds_toArray, List.set_cons_zero, List.set_cons_succ]
          exact IH _ _ _ _ (by omega) ⟨cq0, cq1, true, xq1, xq2, v31, v32, v29, v33, v34, v35, _, p8, p9, u.heap.size, sg, sa, rfl, (by (try simp only [List.setIfInBounds_toArray, List.set_cons_zero, List.set_cons_succ]); try rfl), (by simp only [cond_true, cond_false] at hn ⊢; omega), hc0, hS, h31, h33, h34, h35, (fun _ => ⟨rfl, zs, heap_alloc_new _ _⟩), (fun h => ⟨(ksg h).1, (ksg h).2.1, blk_below (ksg h).2.2 hb (blk_lt (ksg h).2.2)⟩), (fun h => ⟨(ksa h).1, (ksa h).2.1, blk_below (ksa h).2.2 hb (blk_lt (ksa h).2.2)⟩)⟩
        · skip
          refine inv_arm (o := ⟨some 8, .alloc 31, 0, "law.go:80", #[], none⟩) rfl (fun K hK => ?_)
          go_simp
          have zs := hS.size
          have hb := (Below.refl u.heap.size u).alloc (Nat.le_refl _) (.cells #[.int .i64 0, .int .i64 0, .int .i64 0, .int .i64 0, .int .i64 0, .int .i64 0, .bool false, .bool false, .int .i64 0, .bool false] 31)
          replace hS := hS.trans (hb.mono hS.size)
          refine Shut.out hK _ _ hS (fun _ => ?_)
          clear hK K
          try simp only [Act.put, List.setIfInBounds_toArray, List.set_cons_zero, List.set_cons_succ]
          exact IH _ _ _ _ (by omega) ⟨cq0, cq1, xq0, true, xq2, v31, v32, v29, v33, v34, v35, p7, _, p9, sx, u.heap.size, sa, rfl, (by (try simp only [List.setIfInBounds_toArray, List.set_cons_zero, List.set_cons_succ]); try rfl), (by simp only [cond_true, cond_false] at hn ⊢; omega), hc0, hS, h31, h33, h34, h35, (fun h => ⟨(ksx h).1, (ksx h).2.1, blk_below (ksx h).2.2 hb (blk_lt (ksx h).2.2)⟩), (fun _ => ⟨rfl, zs, heap_alloc_new _ _⟩), (fun h => ⟨(ksa h).1, (ksa h).2.1, blk_below (ksa h).2.2 hb (blk_lt (ksa h).2.2)⟩)⟩
        · skip
          refine inv_arm (o := ⟨some 9, .alloc 38, 0, "law.go:80", #[], none⟩) rfl (fun K hK => ?_)
          go_simp
          have zs := hS.size
          have hb := (Below.refl u.heap.size u).alloc (Nat.le_refl _) (.cells #[.bool false, .bool false, .bool false, .int .i64 0, .int .i64 0, .int .u64 0, .slice none 0 0] 38)
          replace hS := hS.trans (hb.mono hS.size)
          refine Shut.out hK _ _ hS (fun _ => ?_)
          clear hK K
          try simp only [Act.put, List.setIfInBounds_toArray, List.set_cons_zero, List.set_cons_succ]
          exact IH _ _ _ _ (by omega) ⟨cq0, cq1, xq0, xq1, true, v31, v32, v29, v33, v34, v35, p7, p8, _, sx, sg, u.heap.size, rfl, (by (try simp only [List.setIfInBounds_toArray, List.set_cons_zero, List.set_cons_succ]); try rfl), (by simp only [cond_true, cond_false] at hn ⊢; omega), hc0, hS, h31, h33, h34, h35, (fun h => ⟨(ksx h).1, (ksx h).2.1, blk_below (ksx h).2.2 hb (blk_lt (ksx h).2.2)⟩), (fun h => ⟨(ksg h).1, (ksg h).2.1, blk_below (ksg h).2.2 hb (blk_lt (ksg h).2.2)⟩), (fun _ => ⟨rfl, zs, heap_alloc_new _ _⟩)⟩
      simp only [Bool.and_eq_true] at hall
      obtain ⟨rfl, rfl, rfl, rfl, rfl⟩ := hall
      obtain rfl := h31 rfl
      obtain rfl := h33 rfl
      obtain rfl := h34 rfl
      obtain rfl := h35 rfl
      obtain ⟨rfl, gsx, Vsx⟩ := ksx rfl
      obtain ⟨rfl, gsg, Vsg⟩ := ksg rfl
      obtain ⟨rfl, gsa, Vsa⟩ := ksa rfl
      obtain ⟨fu, rfl⟩ : ∃ m, fu = m + 3 := ⟨fu - 3, by simp only [cond_true] at hn; omega⟩
      clear IH hn hc0
      have neo_x := Nat.ne_of_lt (Nat.lt_of_lt_of_le (blk_lt Vo.out) gsx)
      have neo_g := Nat.ne_of_lt (Nat.lt_of_lt_of_le (blk_lt Vo.out) gsg)
      have neo_a := Nat.ne_of_lt (Nat.lt_of_lt_of_le (blk_lt Vo.out) gsa)
      have nex_g : sx ≠ sg := blk_ne Vsx Vsg (by decide)
      have nex_a : sx ≠ sa := blk_ne Vsx Vsa (by decide)
      have neg_a : sg ≠ sa := blk_ne Vsg Vsa (by decide)
      have gex := Nat.le_trans HB.out.2 gsx
      have geg := Nat.le_trans HB.out.2 gsg
      have gea := Nat.le_trans HB.out.2 gsa
      replace Vo := Lib.hid (blk_below Vo.out hS (blk_lt Vo.out))
      replace HB := Lib.hid (And.intro (HB.out.1.trans (hS.mono HB.out.2)) (Nat.le_trans HB.out.2 hS.size))
      have Vx := Lib.hid Vsx
      clear Vsx
      have Vg := Lib.hid Vsg
      clear Vsg
      have Va := Lib.hid Vsa
      clear Vsa
      obtain ⟨w4, hw4⟩ : ∃ W, u.setCells (sx) 0 [.int .i64 3, .int .i64 p, .int .i64 y1, .int .i64 0, .int .i64 0, .int .i64 0, .int .i64 0, .int .u32 0, .int .u32 0, .slice none 0 0, .slice none 0 0] = W := ⟨_, rfl⟩
      have thx := Lib.hid (there_blk Vx.out (k := 11) rfl)
      replace Vo := Lib.hid (stayS hw4 neo_x Vo.out)
      replace Vg := Lib.hid (stayS hw4 nex_g.symm Vg.out)
      replace Va := Lib.hid (stayS hw4 nex_a.symm Va.out)
      replace Vx := Lib.hid (setS hw4 Vx.out rfl)
      replace HB := Lib.hid (belS hw4 gex HB.out)
      refine wpAnyH_ready (rs := [10]) (by kernel_rfl) (by simp) (AllReadyH.cons (o := ⟨none, .store 29 (.tmp 7) (.tmp 33), 0, "law.go:80", #[⟨7, .data⟩, ⟨4, .data⟩, ⟨2, .chain⟩, ⟨0, .phase⟩, ⟨1, .phase⟩, ⟨2, .phase⟩, ⟨3, .phase⟩, ⟨4, .phase⟩, ⟨5, .textOnly .lateStores⟩, ⟨6, .textOnly .lateStores⟩, ⟨7, .phase⟩, ⟨8, .phase⟩, ⟨9, .phase⟩], none⟩) rfl (fun K hK => ?_) AllReadyH.nil)
      refine op_storeS (by rfl) rfl rfl rfl thx.out (by kernel_rfl) (by simp [Value.oneCell']) hw4 ?_
      replace hS := hw4 ▸ below_setCells gsx [.int .i64 3, .int .i64 p, .int .i64 y1, .int .i64 0, .int .i64 0, .int .i64 0, .int .i64 0, .int .u32 0, .int .u32 0, .slice none 0 0, .slice none 0 0] 0 _ hS
      obtain ⟨w5, hw5⟩ : ∃ W, w4.setCells (sg) 0 [.int .i64 33, .int .i64 1, .int .i64 0, .int .i64 0, .int .i64 (-1), .int .i64 0, .bool false, .bool false, .int .i64 3, .bool false] = W := ⟨_, rfl⟩
      have thg := Lib.hid (there_blk Vg.out (k := 10) rfl)
      replace Vo := Lib.hid (stayS hw5 neo_g Vo.out)
      replace Vx := Lib.hid (stayS hw5 nex_g Vx.out)
      replace Va := Lib.hid (stayS hw5 neg_a.symm Va.out)
      replace Vg := Lib.hid (setS hw5 Vg.out rfl)
      replace HB := Lib.hid (belS hw5 geg HB.out)
      refine Shut.out hK _ _ hS (fun _ => ?_)
      clear hK K
      try simp only [Act.put, List.setIfInBounds_toArray, List.set_cons_zero, List.set_cons_succ]
      refine wpAnyH_ready (rs := [11]) (by kernel_rfl) (by simp) (AllReadyH.cons (o := ⟨none, .store 31 (.tmp 8) (.tmp 34), 0, "law.go:80", #[⟨8, .data⟩, ⟨5, .data⟩, ⟨10, .chain⟩, ⟨0, .phase⟩, ⟨1, .phase⟩, ⟨2, .phase⟩, ⟨3, .phase⟩, ⟨4, .phase⟩, ⟨5, .phase⟩, ⟨6, .textOnly .lateStores⟩, ⟨7, .phase⟩, ⟨8, .phase⟩, ⟨9, .phase⟩, ⟨10, .phase⟩], none⟩) rfl (fun K hK => ?_) AllReadyH.nil)
      refine op_storeS (by rfl) rfl rfl rfl thg.out (by kernel_rfl) (by simp [Value.oneCell']) hw5 ?_
      replace hS := hw5 ▸ below_setCells gsg [.int .i64 33, .int .i64 1, .int .i64 0, .int .i64 0, .int .i64 (-1), .int .i64 0, .bool false, .bool false, .int .i64 3, .bool false] 0 _ hS
      obtain ⟨w6, hw6⟩ : ∃ W, w5.setCells (sa) 0 [.bool false, .bool false, .bool false, .int .i64 0, .int .i64 0, .int .u64 0, .slice none 0 0] = W := ⟨_, rfl⟩
      have tha := Lib.hid (there_blk Va.out (k := 7) rfl)
      replace Vo := Lib.hid (stayS hw6 neo_a Vo.out)
      replace Vx := Lib.hid (stayS hw6 nex_a Vx.out)
      replace Vg := Lib.hid (stayS hw6 neg_a Vg.out)
      replace Va := Lib.hid (setS hw6 Va.out rfl)
      replace HB := Lib.hid (belS hw6 gea HB.out)
      refine Shut.out hK _ _ hS (fun _ => ?_)
      clear hK K
      try simp only [Act.put, List.setIfInBounds_toArray, List.set_cons_zero, List.set_cons_succ]
      refine wpAnyH_ready (rs := [12]) (by kernel_rfl) (by simp) (AllReadyH.cons (o := ⟨none, .store 38 (.tmp 9) (.tmp 35), 0, "law.go:80", #[⟨9, .data⟩, ⟨6, .data⟩, ⟨11, .chain⟩, ⟨0, .phase⟩, ⟨1, .phase⟩, ⟨2, .phase⟩, ⟨3, .phase⟩, ⟨4, .phase⟩, ⟨5, .phase⟩, ⟨6, .phase⟩, ⟨7, .phase⟩, ⟨8, .phase⟩, ⟨9, .phase⟩, ⟨10, .phase⟩, ⟨11, .phase⟩], none⟩) rfl (fun K hK => ?_) AllReadyH.nil)
      refine op_storeS (by rfl) rfl rfl rfl tha.out (by kernel_rfl) (by simp [Value.oneCell']) hw6 ?_
      replace hS := hw6 ▸ below_setCells gsa [.bool false, .bool false, .bool false, .int .i64 0, .int .i64 0, .int .u64 0, .slice none 0 0] 0 _ hS
      refine Shut.out hK _ _ hS (fun _ => ?_)
      clear hK K
      try simp only [Act.put, List.setIfInBounds_toArray, List.set_cons_zero, List.set_cons_succ]
      refine wpAnyH_done (by kernel_rfl) ?_ _
      refine NoPanic.normal ?_
      clear hS gsx gsg gsa thx thg tha
      have ca := row7 Va.out
      have cg := row10 Vg.out
      have cx := row11 Vx.out
      obtain ⟨mw7, w7, hw7, hse, VN⟩ := set11 Vo.out (.int .i64 3) (.int .i64 p) (.int .i64 y1) (.int .i64 0) (.int .i64 0) (.int .i64 0) (.int .i64 0) (.int .u32 0) (.int .u32 0) (.slice none 0 0) (.slice none 0 0)
      replace Vx := Lib.hid (stayS hse neo_x.symm Vx.out)
      replace Vg := Lib.hid (stayS hse neo_g.symm Vg.out)
      replace Va := Lib.hid (stayS hse neo_a.symm Va.out)
      replace Vo := VN
      replace HB := Lib.hid (belS hse geo HB.out)
      clear VN hse
      have i0 : (0 : Int) ≤ (i : Int) := by omega
      have i1 : (i : Int) < 256 := by have h := HI.out; omega
      go_wp2
      go_roundw
      case rel =>
        obtain ⟨q1, q2, q3, q4⟩ := HI.out
        exact ⟨i + 1, y1, by go_num, by omega, by omega, HB, Vo⟩
      case measure =>
        obtain ⟨q1, q2, q3, q4⟩ := HI.out
        simp [intOf]; omega
    · have c1 : decide ((i : Int) < (m : Int)) = false := by simp; omega
      have c1n : decide (i < m) = false := by simp; omega
      have hvm : v = (m : Int) := by omega
      clear hlt hi hv
      subst hvm
      go_wp2_with fail
      refine (N1.out _).mono ?_
      rintro e w4 ⟨rfl, hb⟩
      replace Vo := Lib.hid (blk_below Vo.out hb (blk_lt Vo.out))
      replace HB := Lib.hid (And.intro (HB.out.1.trans (hb.mono HB.out.2)) (Nat.le_trans HB.out.2 hb.size))
      clear hb
      have lto := blk_lt Vo.out
      have gq := HB.out.2
      obtain ⟨w5, hw5⟩ : ∃ W, (w4.alloc (.cells #[.int .i64 0, .int .i64 0, .int .i64 0, .int .i64 0, .int .i64 0, .int .i64 0, .bool false, .bool false, .int .i64 0, .bool false] 31)) = W := ⟨_, rfl⟩
      have hb : Below w4.heap.size w4 w5 := hw5 ▸ ((Below.refl _ _).alloc (Nat.le_refl _) _)
      have hv0 : w5.heap[w4.heap.size]? = some (.cells #[.int .i64 0, .int .i64 0, .int .i64 0, .int .i64 0, .int .i64 0, .int .i64 0, .bool false, .bool false, .int .i64 0, .bool false] 31) := by
        have h0 := heap_alloc_new w4 (.cells #[.int .i64 0, .int .i64 0, .int .i64 0, .int .i64 0, .int .i64 0, .int .i64 0, .bool false, .bool false, .int .i64 0, .bool false] 31)
        rw [show w4.heap.size = w4.heap.size by simp [Nat.add_assoc]] at h0
        rw [← hw5]
        exact h0
      replace Vo := Lib.hid (blk_below Vo.out hb (blk_lt Vo.out))
      replace HB := Lib.hid (And.intro (HB.out.1.trans (hb.mono HB.out.2)) (Nat.le_trans HB.out.2 hb.size))
      have Vf := Lib.hid hv0
      have neo_f := Nat.ne_of_lt lto
      have gef := gq
      generalize hsf : w4.heap.size = sf at *
      clear hb gq hv0 lto
      obtain ⟨mw6, w6, hw6, hse, VN⟩ := set10 Vf.out (.int .i64 32) (.int .i64 0) (.int .i64 0) (.int .i64 0) (.int .i64 (-1)) (.int .i64 0) (.bool false) (.bool false) (.int .i64 0) (.bool false)
      replace Vo := Lib.hid (stayS hse neo_f Vo.out)
      replace Vf := VN
      replace HB := Lib.hid (belS hse gef HB.out)
      clear VN hse
      go_wp2
      clear mw6 hw6
      go_loopw [11, 12] (fun gv sv wr2 => (gv = .int .i64 0 ∧ sv = .int .i64 0 ∧ Hid (Below w.heap.size w wr2 ∧ w.heap.size ≤ wr2.heap.size) ∧ Hid (wr2.heap[so]? = some (.cells #[.int .i64 3, .int .i64 p, .int .i64 (m : Int), .int .i64 0, .int .i64 0, .int .i64 0, .int .i64 0, .int .u32 0, .int .u32 0, .slice none 0 0, .slice none 0 0] 29)) ∧ Hid (wr2.heap[sf]? = some (.cells #[.int .i64 32, .int .i64 0, .int .i64 0, .int .i64 0, .int .i64 (-1), .int .i64 0, .bool false, .bool false, .int .i64 0, .bool false] 31))) ∨ (∃ (kk s lv : Int), gv = .int .i64 kk ∧ sv = .int .i64 s ∧ Hid (0 ≤ kk ∧ s = kk + 1 ∧ 0 < lv ∧ lv + kk = (m : Int)) ∧ Hid (Below w.heap.size w wr2 ∧ w.heap.size ≤ wr2.heap.size) ∧ Hid (wr2.heap[so]? = some (.cells #[.int .i64 3, .int .i64 0, .int .i64 0, .int .i64 0, .int .i64 0, .int .i64 0, .int .i64 0, .int .u32 0, .int .u32 0, .slice none 0 0, .slice none 0 0] 29)) ∧ Hid (wr2.heap[sf]? = some (.cells #[.int .i64 32, .int .i64 1, .int .i64 0, .int .i64 0, .int .i64 (-1), .int .i64 lv, .bool false, .bool false, .int .i64 0, .bool false] 31))) ∨ (∃ s : Int, gv = .int .i64 (m : Int) ∧ sv = .int .i64 s ∧ Hid (s = (m : Int) + 1) ∧ Hid (Below w.heap.size w wr2 ∧ w.heap.size ≤ wr2.heap.size) ∧ Hid (wr2.heap[so]? = some (.cells #[.int .i64 3, .int .i64 0, .int .i64 0, .int .i64 0, .int .i64 0, .int .i64 0, .int .i64 0, .int .u32 0, .int .u32 0, .slice none 0 0, .slice none 0 0] 29)) ∧ Hid (wr2.heap[sf]? = some (.cells #[.int .i64 0, .int .i64 0, .int .i64 0, .int .i64 0, .int .i64 0, .int .i64 0, .bool false, .bool false, .int .i64 0, .bool false] 31)))) (fun _ sv _ => m + 1 - (intOf sv).toNat)
      case atStart => exact Or.inl ⟨rfl, rfl, HB, Vo, Vf⟩
      case round =>
        clear HB Vo Vf
        rcases hrel with ⟨rfl, rfl, HB, Vo, Vf⟩ | ⟨kk, s, lv, rfl, rfl, HL, HB, Vo, Vf⟩ | ⟨s, rfl, rfl, HL, HB, Vo, Vf⟩
        · have HLF := Lib.hid hm0
          by_cases hmz : m = 0
          · have hmz2 : (m : Int) = 0 := by omega
            have KZ2 := Lib.hid (KZ.out (m : Int) hmz2)
            have HMZ := Lib.hid hmz2
            clear hmz hmz2
            have co := row11 Vo.out
            have cf := row10 Vf.out
            go_wp2_with fail
            refine (KZ2.out _).mono ?_
            rintro e w7 ⟨rfl, hb⟩
            clear co cf
            replace Vo := Lib.hid (blk_below Vo.out hb (blk_lt Vo.out))
            replace Vf := Lib.hid (blk_below Vf.out hb (blk_lt Vf.out))
            replace HB := Lib.hid (And.intro (HB.out.1.trans (hb.mono HB.out.2)) (Nat.le_trans HB.out.2 hb.size))
            clear hb
            have lto := blk_lt Vo.out
            have ltf := blk_lt Vf.out
            have gq := HB.out.2
            obtain ⟨w8, hw8⟩ : ∃ W, (((w7.alloc (.cells #[.int .i64 0, .int .i64 0, .int .i64 0, .int .i64 0, .int .i64 0, .int .i64 0, .int .i64 0, .int .u32 0, .int .u32 0, .slice none 0 0, .slice none 0 0] 29)).alloc (.cells #[.int .i64 0, .int .i64 0, .int .i64 0, .int .i64 0, .int .i64 0, .int .i64 0, .bool false, .bool false, .int .i64 0, .bool false] 31)).alloc (.cells #[.bool false, .bool false, .bool false, .int .i64 0, .int .i64 0, .int .u64 0, .slice none 0 0] 38)) = W := ⟨_, rfl⟩
            have hb : Below w7.heap.size w7 w8 := hw8 ▸ ((((Below.refl _ _).alloc (Nat.le_refl _) _).alloc (by first | (simp; done) | (simp; omega)) _).alloc (by first | (simp; done) | (simp; omega)) _)
            have hv0 : w8.heap[w7.heap.size]? = some (.cells #[.int .i64 0, .int .i64 0, .int .i64 0, .int .i64 0, .int .i64 0, .int .i64 0, .int .i64 0, .int .u32 0, .int .u32 0, .slice none 0 0, .slice none 0 0] 29) := by
              have h0 := heap_alloc_new w7 (.cells #[.int .i64 0, .int .i64 0, .int .i64 0, .int .i64 0, .int .i64 0, .int .i64 0, .int .i64 0, .int .u32 0, .int .u32 0, .slice none 0 0, .slice none 0 0] 29)
              rw [show w7.heap.size = w7.heap.size by simp [Nat.add_assoc]] at h0
              rw [← hw8]
              rw [heap_alloc_old _ _ (by simp <;> omega), heap_alloc_old _ _ (by simp <;> omega)]; exact h0
            have hv1 : w8.heap[w7.heap.size + 1]? = some (.cells #[.int .i64 0, .int .i64 0, .int .i64 0, .int .i64 0, .int .i64 0, .int .i64 0, .bool false, .bool false, .int .i64 0, .bool false] 31) := by
              have h0 := heap_alloc_new (w7.alloc (.cells #[.int .i64 0, .int .i64 0, .int .i64 0, .int .i64 0, .int .i64 0, .int .i64 0, .int .i64 0, .int .u32 0, .int .u32 0, .slice none 0 0, .slice none 0 0] 29)) (.cells #[.int .i64 0, .int .i64 0, .int .i64 0, .int .i64 0, .int .i64 0, .int .i64 0, .bool false, .bool false, .int .i64 0, .bool false] 31)
              rw [show (w7.alloc (.cells #[.int .i64 0, .int .i64 0, .int .i64 0, .int .i64 0, .int .i64 0, .int .i64 0, .int .i64 0, .int .u32 0, .int .u32 0, .slice none 0 0, .slice none 0 0] 29)).heap.size = w7.heap.size + 1 by simp [Nat.add_assoc]] at h0
              rw [← hw8]
              rw [heap_alloc_old _ _ (by simp <;> omega)]; exact h0
            have hv2 : w8.heap[w7.heap.size + 2]? = some (.cells #[.bool false, .bool false, .bool false, .int .i64 0, .int .i64 0, .int .u64 0, .slice none 0 0] 38) := by
              have h0 := heap_alloc_new ((w7.alloc (.cells #[.int .i64 0, .int .i64 0, .int .i64 0, .int .i64 0, .int .i64 0, .int .i64 0, .int .i64 0, .int .u32 0, .int .u32 0, .slice none 0 0, .slice none 0 0] 29)).alloc (.cells #[.int .i64 0, .int .i64 0, .int .i64 0, .int .i64 0, .int .i64 0, .int .i64 0, .bool false, .bool false, .int .i64 0, .bool false] 31)) (.cells #[.bool false, .bool false, .bool false, .int .i64 0, .int .i64 0, .int .u64 0, .slice none 0 0] 38)
              rw [show ((w7.alloc (.cells #[.int .i64 0, .int .i64 0, .int .i64 0, .int .i64 0, .int .i64 0, .int .i64 0, .int .i64 0, .int .u32 0, .int .u32 0, .slice none 0 0, .slice none 0 0] 29)).alloc (.cells #[.int .i64 0, .int .i64 0, .int .i64 0, .int .i64 0, .int .i64 0, .int .i64 0, .bool false, .bool false, .int .i64 0, .bool false] 31)).heap.size = w7.heap.size + 2 by simp [Nat.add_assoc]] at h0
              rw [← hw8]
              exact h0
            replace Vo := Lib.hid (blk_below Vo.out hb (blk_lt Vo.out))
            replace Vf := Lib.hid (blk_below Vf.out hb (blk_lt Vf.out))
            replace HB := Lib.hid (And.intro (HB.out.1.trans (hb.mono HB.out.2)) (Nat.le_trans HB.out.2 hb.size))
            have Vx := Lib.hid hv0
            have neo_x := Nat.ne_of_lt lto
            have nef_x := Nat.ne_of_lt ltf
            have gex := gq
            have Vg := Lib.hid hv1
            have neo_g := Nat.ne_of_lt (Nat.lt_of_lt_of_le lto (Nat.le_add_right w7.heap.size 1))
            have nef_g := Nat.ne_of_lt (Nat.lt_of_lt_of_le ltf (Nat.le_add_right w7.heap.size 1))
            have nex_g : w7.heap.size ≠ w7.heap.size + 1 := by omega
            have geg : _ ≤ w7.heap.size + 1 := Nat.le_trans gq (Nat.le_add_right _ 1)
            have Va := Lib.hid hv2
            have neo_a := Nat.ne_of_lt (Nat.lt_of_lt_of_le lto (Nat.le_add_right w7.heap.size 2))
            have nef_a := Nat.ne_of_lt (Nat.lt_of_lt_of_le ltf (Nat.le_add_right w7.heap.size 2))
            have nex_a : w7.heap.size ≠ w7.heap.size + 2 := by omega
            have neg_a : w7.heap.size + 1 ≠ w7.heap.size + 2 := by omega
            have gea : _ ≤ w7.heap.size + 2 := Nat.le_trans gq (Nat.le_add_right _ 2)
            generalize hsx : w7.heap.size = sx at *
            clear hb gq hv0 hv1 hv2 lto ltf
            obtain ⟨mw9, w9, hw9, hse, VN⟩ := set11 Vx.out (.int .i64 3) (.int .i64 0) (.int .i64 (m : Int)) (.int .i64 0) (.int .i64 0) (.int .i64 0) (.int .i64 0) (.int .u32 0) (.int .u32 0) (.slice none 0 0) (.slice none 0 0)
            replace Vo := Lib.hid (stayS hse neo_x Vo.out)
            replace Vf := Lib.hid (stayS hse nef_x Vf.out)
            replace Vg := Lib.hid (stayS hse nex_g.symm Vg.out)
            replace Va := Lib.hid (stayS hse nex_a.symm Va.out)
            replace Vx := VN
            replace HB := Lib.hid (belS hse gex HB.out)
            clear VN hse
            obtain ⟨mw10, w10, hw10, hse, VN⟩ := set10 Vg.out (.int .i64 0) (.int .i64 0) (.int .i64 0) (.int .i64 0) (.int .i64 0) (.int .i64 0) (.bool false) (.bool false) (.int .i64 0) (.bool false)
            replace Vo := Lib.hid (stayS hse neo_g Vo.out)
            replace Vf := Lib.hid (stayS hse nef_g Vf.out)
            replace Vx := Lib.hid (stayS hse nex_g Vx.out)
            replace Va := Lib.hid (stayS hse neg_a.symm Va.out)
            replace Vg := VN
            replace HB := Lib.hid (belS hse geg HB.out)
            clear VN hse
            obtain ⟨mw11, w11, hw11, hse, VN⟩ := set7 Va.out (.bool true) (.bool false) (.bool false) (.int .i64 0) (.int .i64 0) (.int .u64 0) (.slice none 0 0)
            replace Vo := Lib.hid (stayS hse neo_a Vo.out)
            replace Vf := Lib.hid (stayS hse nef_a Vf.out)
            replace Vx := Lib.hid (stayS hse nex_a Vx.out)
            replace Vg := Lib.hid (stayS hse neg_a Vg.out)
            replace Va := VN
            replace HB := Lib.hid (belS hse gea HB.out)
            clear VN hse
            go_wp2
            clear mw9 hw9 mw10 hw10 mw11 hw11
            obtain ⟨we, hwe⟩ : ∃ W, (w11).drew = W := ⟨_, rfl⟩
            have hb : Below (w11).heap.size (w11) we := hwe ▸ (Below.refl _ _).drew
            replace Vo := Lib.hid (blk_below Vo.out hb (blk_lt Vo.out))
            replace Vf := Lib.hid (blk_below Vf.out hb (blk_lt Vf.out))
            replace Vx := Lib.hid (blk_below Vx.out hb (blk_lt Vx.out))
            replace Vg := Lib.hid (blk_below Vg.out hb (blk_lt Vg.out))
            replace Va := Lib.hid (blk_below Va.out hb (blk_lt Va.out))
            replace HB := Lib.hid (And.intro (HB.out.1.trans (hb.mono HB.out.2)) (Nat.le_trans HB.out.2 hb.size))
            clear hb
            have S0 := Lib.hid (And.intro (Vx.out) (Vg.out))
            obtain ⟨w12, hw12⟩ : ∃ W, we.setCells (so) 0 [.int .i64 3, .int .i64 0, .int .i64 (m : Int), .int .i64 0, .int .i64 0, .int .i64 0, .int .i64 0, .int .u32 0, .int .u32 0, .slice none 0 0, .slice none 0 0] = W := ⟨_, rfl⟩
            have tho := Lib.hid (there_blk Vo.out (k := 11) rfl)
            replace Vf := Lib.hid (stayS hw12 neo_f.symm Vf.out)
            replace Vx := Lib.hid (stayS hw12 neo_x.symm Vx.out)
            replace Vg := Lib.hid (stayS hw12 neo_g.symm Vg.out)
            replace Va := Lib.hid (stayS hw12 neo_a.symm Va.out)
            replace Vo := Lib.hid (setS hw12 Vo.out rfl)
            replace HB := Lib.hid (belS hw12 geo HB.out)
            have S1 := Lib.hid (And.intro (Vx.out) (Vg.out))
            obtain ⟨w13, hw13⟩ : ∃ W, w12.setCells (sf) 0 [.int .i64 0, .int .i64 0, .int .i64 0, .int .i64 0, .int .i64 0, .int .i64 0, .bool false, .bool false, .int .i64 0, .bool false] = W := ⟨_, rfl⟩
            have thf := Lib.hid (there_blk Vf.out (k := 10) rfl)
            replace Vo := Lib.hid (stayS hw13 neo_f Vo.out)
            replace Vx := Lib.hid (stayS hw13 nef_x.symm Vx.out)
            replace Vg := Lib.hid (stayS hw13 nef_g.symm Vg.out)
            replace Va := Lib.hid (stayS hw13 nef_a.symm Va.out)
            replace Vf := Lib.hid (setS hw13 Vf.out rfl)
            replace HB := Lib.hid (belS hw13 gef HB.out)
            have S2 := Lib.hid (And.intro (Vx.out) (Vg.out))
            refine wp_region_noPanic ?_
            refine wp_region_held_drew (S := (fun wv => Hid (wv.heap[sx]? = some (.cells #[.int .i64 3, .int .i64 0, .int .i64 (m : Int), .int .i64 0, .int .i64 0, .int .i64 0, .int .i64 0, .int .u32 0, .int .u32 0, .slice none 0 0, .slice none 0 0] 29) ∧ wv.heap[sx + 1]? = some (.cells #[.int .i64 0, .int .i64 0, .int .i64 0, .int .i64 0, .int .i64 0, .int .i64 0, .bool false, .bool false, .int .i64 0, .bool false] 31)))) (by kernel_rfl) ((by rw [hwe]; exact S0)) (fun hS => ?_)
            rw [hwe] at hS ⊢
            refine wpAnyH_take (i := 0) (oi := ⟨some 62, .load 29 (.tmp 13), 29, "law.go:91", #[], none⟩) (v := .agg (([.int .i64 3, .int .i64 0, .int .i64 (m : Int), .int .i64 0, .int .i64 0, .int .i64 0, .int .i64 0, .int .u32 0, .int .u32 0, .slice none 0 0, .slice none 0 0] : List Value)).toArray) rfl (by kernel_rfl) (by kernel_rfl) (by kernel_rfl) (fun _ _ _ h => h) (yieldsIf_load_mid (by rfl) _ _ (by rfl) (sx) (0) (by rfl) _ _ (fun wv hS => blk_rngl hS.out.1) Try.underlying29 (by rfl) (by kernel_rfl)) hS ?_
            try simp only [Act.put, List.setIfInBounds_toArray, List.set_cons_zero, List.set_cons_succ]
            refine wpAnyH_take (i := 1) (oi := ⟨some 63, .load 31 (.tmp 14), 31, "law.go:91", #[⟨2, .gcOnly .lateStores⟩], none⟩) (v := .agg (([.int .i64 0, .int .i64 0, .int .i64 0, .int .i64 0, .int .i64 0, .int .i64 0, .bool false, .bool false, .int .i64 0, .bool false] : List Value)).toArray) rfl (by kernel_rfl) (by kernel_rfl) (by kernel_rfl) (fun _ _ _ h => h) (yieldsIf_load_mid (by rfl) _ _ (by rfl) (sx + 1) (0) (by rfl) _ _ (fun wv hS => blk_rngl hS.out.2) Try.underlying31 (by rfl) (by kernel_rfl)) hS ?_
            try simp only [Act.put, List.setIfInBounds_toArray, List.set_cons_zero, List.set_cons_succ]
            refine wpAnyH_ready (rs := [2]) (by kernel_rfl) (by simp) (AllReadyH.cons (o := ⟨none, .store 29 (.tmp 5) (.tmp 62), 0, "law.go:91", #[⟨0, .data⟩, ⟨0, .phase⟩, ⟨1, .textOnly .lateStores⟩], none⟩) rfl (fun K hK => ?_) AllReadyH.nil)
            refine op_storeS (by rfl) rfl rfl rfl tho.out (by kernel_rfl) (by simp [Value.oneCell']) hw12 ?_
            replace hS := S1
            refine Shut.out hK _ _ hS (fun _ => ?_)
            clear hK K
            try simp only [Act.put, List.setIfInBounds_toArray, List.set_cons_zero, List.set_cons_succ]
            refine wpAnyH_ready (rs := [3]) (by kernel_rfl) (by simp) (AllReadyH.cons (o := ⟨none, .store 31 (.tmp 10) (.tmp 63), 0, "law.go:91", #[⟨1, .data⟩, ⟨2, .chain⟩, ⟨0, .phase⟩, ⟨1, .phase⟩, ⟨2, .phase⟩], none⟩) rfl (fun K hK => ?_) AllReadyH.nil)
            refine op_storeS (by rfl) rfl rfl rfl thf.out (by kernel_rfl) (by simp [Value.oneCell']) hw13 ?_
            replace hS := S2
            refine Shut.out hK _ _ hS (fun _ => ?_)
            clear hK K
            try simp only [Act.put, List.setIfInBounds_toArray, List.set_cons_zero, List.set_cons_succ]
            refine wpAnyH_done (by kernel_rfl) ?_ _
            refine NoPanic.normal ?_
            clear hS S0 S1 S2 tho thf
            have ca := row7 Va.out
            have cg := row10 Vg.out
            skip
            go_wp2
            go_quiet (fail)
            go_wp2
            go_roundw
            case rel => exact Or.inr (Or.inr ⟨1, by rw [HMZ.out], rfl, Lib.hid (by have := HMZ.out; omega), Lib.hid ⟨bel_drewN HB.out.1 _, HB.out.2⟩, Lib.hid (by have h := Vo.out; rw [HMZ.out] at h; exact h), Lib.hid Vf.out⟩)
            case measure => have hm2 := HM.out; have hL2 := HLF.out; first | (simp [intOf]; done) | (simp [intOf]; omega)
          · have KN2 := Lib.hid (KN.out (m : Int) (by omega))
            have HMZ := Lib.hid hmz
            clear hmz
            have co := row11 Vo.out
            have cf := row10 Vf.out
            go_wp2_with fail
            refine (KN2.out _).mono ?_
            rintro e w7 ⟨rfl, hb⟩
            clear co cf
            replace Vo := Lib.hid (blk_below Vo.out hb (blk_lt Vo.out))
            replace Vf := Lib.hid (blk_below Vf.out hb (blk_lt Vf.out))
            replace HB := Lib.hid (And.intro (HB.out.1.trans (hb.mono HB.out.2)) (Nat.le_trans HB.out.2 hb.size))
            clear hb
            have lto := blk_lt Vo.out
            have ltf := blk_lt Vf.out
            have gq := HB.out.2
            obtain ⟨w8, hw8⟩ : ∃ W, (((w7.alloc (.cells #[.int .i64 0, .int .i64 0, .int .i64 0, .int .i64 0, .int .i64 0, .int .i64 0, .int .i64 0, .int .u32 0, .int .u32 0, .slice none 0 0, .slice none 0 0] 29)).alloc (.cells #[.int .i64 0, .int .i64 0, .int .i64 0, .int .i64 0, .int .i64 0, .int .i64 0, .bool false, .bool false, .int .i64 0, .bool false] 31)).alloc (.cells #[.bool false, .bool false, .bool false, .int .i64 0, .int .i64 0, .int .u64 0, .slice none 0 0] 38)) = W := ⟨_, rfl⟩
            have hb : Below w7.heap.size w7 w8 := hw8 ▸ ((((Below.refl _ _).alloc (Nat.le_refl _) _).alloc (by first | (simp; done) | (simp; omega)) _).alloc (by first | (simp; done) | (simp; omega)) _)
            have hv0 : w8.heap[w7.heap.size]? = some (.cells #[.int .i64 0, .int .i64 0, .int .i64 0, .int .i64 0, .int .i64 0, .int .i64 0, .int .i64 0, .int .u32 0, .int .u32 0, .slice none 0 0, .slice none 0 0] 29) := by
              have h0 := heap_alloc_new w7 (.cells #[.int .i64 0, .int .i64 0, .int .i64 0, .int .i64 0, .int .i64 0, .int .i64 0, .int .i64 0, .int .u32 0, .int .u32 0, .slice none 0 0, .slice none 0 0] 29)
              rw [show w7.heap.size = w7.heap.size by simp [Nat.add_assoc]] at h0
              rw [← hw8]
              rw [heap_alloc_old _ _ (by simp <;> omega), heap_alloc_old _ _ (by simp <;> omega)]; exact h0
            have hv1 : w8.heap[w7.heap.size + 1]? = some (.cells #[.int .i64 0, .int .i64 0, .int .i64 0, .int .i64 0, .int .i64 0, .int .i64 0, .bool false, .bool false, .int .i64 0, .bool false] 31) := by
              have h0 := heap_alloc_new (w7.alloc (.cells #[.int .i64 0, .int .i64 0, .int .i64 0, .int .i64 0, .int .i64 0, .int .i64 0, .int .i64 0, .int .u32 0, .int .u32 0, .slice none 0 0, .slice none 0 0] 29)) (.cells #[.int .i64 0, .int .i64 0, .int .i64 0, .int .i64 0, .int .i64 0, .int .i64 0, .bool false, .bool false, .int .i64 0, .bool false] 31)
              rw [show (w7.alloc (.cells #[.int .i64 0, .int .i64 0, .int .i64 0, .int .i64 0, .int .i64 0, .int .i64 0, .int .i64 0, .int .u32 0, .int .u32 0, .slice none 0 0, .slice none 0 0] 29)).heap.size = w7.heap.size + 1 by simp [Nat.add_assoc]] at h0
              rw [← hw8]
              rw [heap_alloc_old _ _ (by simp <;> omega)]; exact h0
            have hv2 : w8.heap[w7.heap.size + 2]? = some (.cells #[.bool false, .bool false, .bool false, .int .i64 0, .int .i64 0, .int .u64 0, .slice none 0 0] 38) := by
              have h0 := heap_alloc_new ((w7.alloc (.cells #[.int .i64 0, .int .i64 0, .int .i64 0, .int .i64 0, .int .i64 0, .int .i64 0, .int .i64 0, .int .u32 0, .int .u32 0, .slice none 0 0, .slice none 0 0] 29)).alloc (.cells #[.int .i64 0, .int .i64 0, .int .i64 0, .int .i64 0, .int .i64 0, .int .i64 0, .bool false, .bool false, .int .i64 0, .bool false] 31)) (.cells #[.bool false, .bool false, .bool false, .int .i64 0, .int .i64 0, .int .u64 0, .slice none 0 0] 38)
              rw [show ((w7.alloc (.cells #[.int .i64 0, .int .i64 0, .int .i64 0, .int .i64 0, .int .i64 0, .int .i64 0, .int .i64 0, .int .u32 0, .int .u32 0, .slice none 0 0, .slice none 0 0] 29)).alloc (.cells #[.int .i64 0, .int .i64 0, .int .i64 0, .int .i64 0, .int .i64 0, .int .i64 0, .bool false, .bool false, .int .i64 0, .bool false] 31)).heap.size = w7.heap.size + 2 by simp [Nat.add_assoc]] at h0
              rw [← hw8]
              exact h0
            replace Vo := Lib.hid (blk_below Vo.out hb (blk_lt Vo.out))
            replace Vf := Lib.hid (blk_below Vf.out hb (blk_lt Vf.out))
            replace HB := Lib.hid (And.intro (HB.out.1.trans (hb.mono HB.out.2)) (Nat.le_trans HB.out.2 hb.size))
            have Vx := Lib.hid hv0
            have neo_x := Nat.ne_of_lt lto
            have nef_x := Nat.ne_of_lt ltf
            have gex := gq
            have Vg := Lib.hid hv1
            have neo_g := Nat.ne_of_lt (Nat.lt_of_lt_of_le lto (Nat.le_add_right w7.heap.size 1))
            have nef_g := Nat.ne_of_lt (Nat.lt_of_lt_of_le ltf (Nat.le_add_right w7.heap.size 1))
            have nex_g : w7.heap.size ≠ w7.heap.size + 1 := by omega
            have geg : _ ≤ w7.heap.size + 1 := Nat.le_trans gq (Nat.le_add_right _ 1)
            have Va := Lib.hid hv2
            have neo_a := Nat.ne_of_lt (Nat.lt_of_lt_of_le lto (Nat.le_add_right w7.heap.size 2))
            have nef_a := Nat.ne_of_lt (Nat.lt_of_lt_of_le ltf (Nat.le_add_right w7.heap.size 2))
            have nex_a : w7.heap.size ≠ w7.heap.size + 2 := by omega
            have neg_a : w7.heap.size + 1 ≠ w7.heap.size + 2 := by omega
            have gea : _ ≤ w7.heap.size + 2 := Nat.le_trans gq (Nat.le_add_right _ 2)
            generalize hsx : w7.heap.size = sx at *
            clear hb gq hv0 hv1 hv2 lto ltf
            obtain ⟨mw9, w9, hw9, hse, VN⟩ := set11 Vx.out (.int .i64 3) (.int .i64 0) (.int .i64 0) (.int .i64 0) (.int .i64 0) (.int .i64 0) (.int .i64 0) (.int .u32 0) (.int .u32 0) (.slice none 0 0) (.slice none 0 0)
            replace Vo := Lib.hid (stayS hse neo_x Vo.out)
            replace Vf := Lib.hid (stayS hse nef_x Vf.out)
            replace Vg := Lib.hid (stayS hse nex_g.symm Vg.out)
            replace Va := Lib.hid (stayS hse nex_a.symm Va.out)
            replace Vx := VN
            replace HB := Lib.hid (belS hse gex HB.out)
            clear VN hse
            obtain ⟨mw10, w10, hw10, hse, VN⟩ := set10 Vg.out (.int .i64 32) (.int .i64 1) (.int .i64 0) (.int .i64 0) (.int .i64 (-1)) (.int .i64 (m : Int)) (.bool false) (.bool false) (.int .i64 0) (.bool false)
            replace Vo := Lib.hid (stayS hse neo_g Vo.out)
            replace Vf := Lib.hid (stayS hse nef_g Vf.out)
            replace Vx := Lib.hid (stayS hse nex_g Vx.out)
            replace Va := Lib.hid (stayS hse neg_a.symm Va.out)
            replace Vg := VN
            replace HB := Lib.hid (belS hse geg HB.out)
            clear VN hse
            obtain ⟨mw11, w11, hw11, hse, VN⟩ := set7 Va.out (.bool false) (.bool false) (.bool false) (.int .i64 0) (.int .i64 0) (.int .u64 0) (.slice none 0 0)
            replace Vo := Lib.hid (stayS hse neo_a Vo.out)
            replace Vf := Lib.hid (stayS hse nef_a Vf.out)
            replace Vx := Lib.hid (stayS hse nex_a Vx.out)
            replace Vg := Lib.hid (stayS hse neg_a Vg.out)
            replace Va := VN
            replace HB := Lib.hid (belS hse gea HB.out)
            clear VN hse
            go_wp2
            clear mw9 hw9 mw10 hw10 mw11 hw11
            obtain ⟨we, hwe⟩ : ∃ W, (w11).drew = W := ⟨_, rfl⟩
            have hb : Below (w11).heap.size (w11) we := hwe ▸ (Below.refl _ _).drew
            replace Vo := Lib.hid (blk_below Vo.out hb (blk_lt Vo.out))
            replace Vf := Lib.hid (blk_below Vf.out hb (blk_lt Vf.out))
            replace Vx := Lib.hid (blk_below Vx.out hb (blk_lt Vx.out))
            replace Vg := Lib.hid (blk_below Vg.out hb (blk_lt Vg.out))
            replace Va := Lib.hid (blk_below Va.out hb (blk_lt Va.out))
            replace HB := Lib.hid (And.intro (HB.out.1.trans (hb.mono HB.out.2)) (Nat.le_trans HB.out.2 hb.size))
            clear hb
            have S0 := Lib.hid (And.intro (Vx.out) (Vg.out))
            obtain ⟨w12, hw12⟩ : ∃ W, we.setCells (so) 0 [.int .i64 3, .int .i64 0, .int .i64 0, .int .i64 0, .int .i64 0, .int .i64 0, .int .i64 0, .int .u32 0, .int .u32 0, .slice none 0 0, .slice none 0 0] = W := ⟨_, rfl⟩
            have tho := Lib.hid (there_blk Vo.out (k := 11) rfl)
            replace Vf := Lib.hid (stayS hw12 neo_f.symm Vf.out)
            replace Vx := Lib.hid (stayS hw12 neo_x.symm Vx.out)
            replace Vg := Lib.hid (stayS hw12 neo_g.symm Vg.out)
            replace Va := Lib.hid (stayS hw12 neo_a.symm Va.out)
            replace Vo := Lib.hid (setS hw12 Vo.out rfl)
            replace HB := Lib.hid (belS hw12 geo HB.out)
            have S1 := Lib.hid (And.intro (Vx.out) (Vg.out))
            obtain ⟨w13, hw13⟩ : ∃ W, w12.setCells (sf) 0 [.int .i64 32, .int .i64 1, .int .i64 0, .int .i64 0, .int .i64 (-1), .int .i64 (m : Int), .bool false, .bool false, .int .i64 0, .bool false] = W := ⟨_, rfl⟩
            have thf := Lib.hid (there_blk Vf.out (k := 10) rfl)
            replace Vo := Lib.hid (stayS hw13 neo_f Vo.out)
            replace Vx := Lib.hid (stayS hw13 nef_x.symm Vx.out)
            replace Vg := Lib.hid (stayS hw13 nef_g.symm Vg.out)
            replace Va := Lib.hid (stayS hw13 nef_a.symm Va.out)
            replace Vf := Lib.hid (setS hw13 Vf.out rfl)
            replace HB := Lib.hid (belS hw13 gef HB.out)
            have S2 := Lib.hid (And.intro (Vx.out) (Vg.out))
            refine wp_region_noPanic ?_
            refine wp_region_held_drew (S := (fun wv => Hid (wv.heap[sx]? = some (.cells #[.int .i64 3, .int .i64 0, .int .i64 0, .int .i64 0, .int .i64 0, .int .i64 0, .int .i64 0, .int .u32 0, .int .u32 0, .slice none 0 0, .slice none 0 0] 29) ∧ wv.heap[sx + 1]? = some (.cells #[.int .i64 32, .int .i64 1, .int .i64 0, .int .i64 0, .int .i64 (-1), .int .i64 (m : Int), .bool false, .bool false, .int .i64 0, .bool false] 31)))) (by kernel_rfl) ((by rw [hwe]; exact S0)) (fun hS => ?_)
            rw [hwe] at hS ⊢
            refine wpAnyH_take (i := 0) (oi := ⟨some 62, .load 29 (.tmp 13), 29, "law.go:91", #[], none⟩) (v := .agg (([.int .i64 3, .int .i64 0, .int .i64 0, .int .i64 0, .int .i64 0, .int .i64 0, .int .i64 0, .int .u32 0, .int .u32 0, .slice none 0 0, .slice none 0 0] : List Value)).toArray) rfl (by kernel_rfl) (by kernel_rfl) (by kernel_rfl) (fun _ _ _ h => h) (yieldsIf_load_mid (by rfl) _ _ (by rfl) (sx) (0) (by rfl) _ _ (fun wv hS => blk_rngl hS.out.1) Try.underlying29 (by rfl) (by kernel_rfl)) hS ?_
            try simp only [Act.put, List.setIfInBounds_toArray, List.set_cons_zero, List.set_cons_succ]
            refine wpAnyH_take (i := 1) (oi := ⟨some 63, .load 31 (.tmp 14), 31, "law.go:91", #[⟨2, .gcOnly .lateStores⟩], none⟩) (v := .agg (([.int .i64 32, .int .i64 1, .int .i64 0, .int .i64 0, .int .i64 (-1), .int .i64 (m : Int), .bool false, .bool false, .int .i64 0, .bool false] : List Value)).toArray) rfl (by kernel_rfl) (by kernel_rfl) (by kernel_rfl) (fun _ _ _ h => h) (yieldsIf_load_mid (by rfl) _ _ (by rfl) (sx + 1) (0) (by rfl) _ _ (fun wv hS => blk_rngl hS.out.2) Try.underlying31 (by rfl) (by kernel_rfl)) hS ?_
            try simp only [Act.put, List.setIfInBounds_toArray, List.set_cons_zero, List.set_cons_succ]
            refine wpAnyH_ready (rs := [2]) (by kernel_rfl) (by simp) (AllReadyH.cons (o := ⟨none, .store 29 (.tmp 5) (.tmp 62), 0, "law.go:91", #[⟨0, .data⟩, ⟨0, .phase⟩, ⟨1, .textOnly .lateStores⟩], none⟩) rfl (fun K hK => ?_) AllReadyH.nil)
            refine op_storeS (by rfl) rfl rfl rfl tho.out (by kernel_rfl) (by simp [Value.oneCell']) hw12 ?_
            replace hS := S1
            refine Shut.out hK _ _ hS (fun _ => ?_)
            clear hK K
            try simp only [Act.put, List.setIfInBounds_toArray, List.set_cons_zero, List.set_cons_succ]
            refine wpAnyH_ready (rs := [3]) (by kernel_rfl) (by simp) (AllReadyH.cons (o := ⟨none, .store 31 (.tmp 10) (.tmp 63), 0, "law.go:91", #[⟨1, .data⟩, ⟨2, .chain⟩, ⟨0, .phase⟩, ⟨1, .phase⟩, ⟨2, .phase⟩], none⟩) rfl (fun K hK => ?_) AllReadyH.nil)
            refine op_storeS (by rfl) rfl rfl rfl thf.out (by kernel_rfl) (by simp [Value.oneCell']) hw13 ?_
            replace hS := S2
            refine Shut.out hK _ _ hS (fun _ => ?_)
            clear hK K
            try simp only [Act.put, List.setIfInBounds_toArray, List.set_cons_zero, List.set_cons_succ]
            refine wpAnyH_done (by kernel_rfl) ?_ _
            refine NoPanic.normal ?_
            clear hS S0 S1 S2 tho thf
            have ca := row7 Va.out
            have cg := row10 Vg.out
            skip
            go_wp2
            go_quiet (fail)
            go_wp2
            go_roundw
            case rel => have := HMZ.out; exact Or.inr (Or.inl ⟨0, 1, (m : Int), rfl, rfl, Lib.hid ⟨by omega, by omega, by omega, by omega⟩, Lib.hid ⟨bel_drewN HB.out.1 _, HB.out.2⟩, Lib.hid Vo.out, Lib.hid Vf.out⟩)
            case measure => have hm2 := HM.out; have hL2 := HLF.out; first | (simp [intOf]; done) | (simp [intOf]; omega)
        · have hk0 : (0 : Int) ≤ kk := HL.out.1
          have hk1 : kk < 256 := by have := HL.out; omega
          have hs0 : (0 : Int) ≤ s := by have := HL.out; omega
          have hs1 : s < 257 := by have := HL.out; omega
          have ks : (s == 0) = false := by have := HL.out; simp; omega
          have ks2 : decide ((300 : Int) < s + 1) = false := by simp; omega
          have HLF := Lib.hid (show 0 ≤ s ∧ s ≤ (m : Int) from by have := HL.out; omega)
          by_cases hl1 : lv = 1
          · subst hl1
            have co := row11 Vo.out
            have cf := row10 Vf.out
            go_wp2_with fail
            refine (KL.out _).mono ?_
            rintro e w7 ⟨rfl, hb⟩
            clear co cf
            replace Vo := Lib.hid (blk_below Vo.out hb (blk_lt Vo.out))
            replace Vf := Lib.hid (blk_below Vf.out hb (blk_lt Vf.out))
            replace HB := Lib.hid (And.intro (HB.out.1.trans (hb.mono HB.out.2)) (Nat.le_trans HB.out.2 hb.size))
            clear hb
            have lto := blk_lt Vo.out
            have ltf := blk_lt Vf.out
            have gq := HB.out.2
            obtain ⟨w8, hw8⟩ : ∃ W, (((w7.alloc (.cells #[.int .i64 0, .int .i64 0, .int .i64 0, .int .i64 0, .int .i64 0, .int .i64 0, .int .i64 0, .int .u32 0, .int .u32 0, .slice none 0 0, .slice none 0 0] 29)).alloc (.cells #[.int .i64 0, .int .i64 0, .int .i64 0, .int .i64 0, .int .i64 0, .int .i64 0, .bool false, .bool false, .int .i64 0, .bool false] 31)).alloc (.cells #[.bool false, .bool false, .bool false, .int .i64 0, .int .i64 0, .int .u64 0, .slice none 0 0] 38)) = W := ⟨_, rfl⟩
            have hb : Below w7.heap.size w7 w8 := hw8 ▸ ((((Below.refl _ _).alloc (Nat.le_refl _) _).alloc (by first | (simp; done) | (simp; omega)) _).alloc (by first | (simp; done) | (simp; omega)) _)
            have hv0 : w8.heap[w7.heap.size]? = some (.cells #[.int .i64 0, .int .i64 0, .int .i64 0, .int .i64 0, .int .i64 0, .int .i64 0, .int .i64 0, .int .u32 0, .int .u32 0, .slice none 0 0, .slice none 0 0] 29) := by
              have h0 := heap_alloc_new w7 (.cells #[.int .i64 0, .int .i64 0, .int .i64 0, .int .i64 0, .int .i64 0, .int .i64 0, .int .i64 0, .int .u32 0, .int .u32 0, .slice none 0 0, .slice none 0 0] 29)
              rw [show w7.heap.size = w7.heap.size by simp [Nat.add_assoc]] at h0
              rw [← hw8]
              rw [heap_alloc_old _ _ (by simp <;> omega), heap_alloc_old _ _ (by simp <;> omega)]; exact h0
            have hv1 : w8.heap[w7.heap.size + 1]? = some (.cells #[.int .i64 0, .int .i64 0, .int .i64 0, .int .i64 0, .int .i64 0, .int .i64 0, .bool false, .bool false, .int .i64 0, .bool false] 31) := by
              have h0 := heap_alloc_new (w7.alloc (.cells #[.int .i64 0, .int .i64 0, .int .i64 0, .int .i64 0, .int .i64 0, .int .i64 0, .int .i64 0, .int .u32 0, .int .u32 0, .slice none 0 0, .slice none 0 0] 29)) (.cells #[.int .i64 0, .int .i64 0, .int .i64 0, .int .i64 0, .int .i64 0, .int .i64 0, .bool false, .bool false, .int .i64 0, .bool false] 31)
              rw [show (w7.alloc (.cells #[.int .i64 0, .int .i64 0, .int .i64 0, .int .i64 0, .int .i64 0, .int .i64 0, .int .i64 0, .int .u32 0, .int .u32 0, .slice none 0 0, .slice none 0 0] 29)).heap.size = w7.heap.size + 1 by simp [Nat.add_assoc]] at h0
              rw [← hw8]
              rw [heap_alloc_old _ _ (by simp <;> omega)]; exact h0
            have hv2 : w8.heap[w7.heap.size + 2]? = some (.cells #[.bool false, .bool false, .bool false, .int .i64 0, .int .i64 0, .int .u64 0, .slice none 0 0] 38) := by
              have h0 := heap_alloc_new ((w7.alloc (.cells #[.int .i64 0, .int .i64 0, .int .i64 0, .int .i64 0, .int .i64 0, .int .i64 0, .int .i64 0, .int .u32 0, .int .u32 0, .slice none 0 0, .slice none 0 0] 29)).alloc (.cells #[.int .i64 0, .int .i64 0, .int .i64 0, .int .i64 0, .int .i64 0, .int .i64 0, .bool false, .bool false, .int .i64 0, .bool false] 31)) (.cells #[.bool false, .bool false, .bool false, .int .i64 0, .int .i64 0, .int .u64 0, .slice none 0 0] 38)
              rw [show ((w7.alloc (.cells #[.int .i64 0, .int .i64 0, .int .i64 0, .int .i64 0, .int .i64 0, .int .i64 0, .int .i64 0, .int .u32 0, .int .u32 0, .slice none 0 0, .slice none 0 0] 29)).alloc (.cells #[.int .i64 0, .int .i64 0, .int .i64 0, .int .i64 0, .int .i64 0, .int .i64 0, .bool false, .bool false, .int .i64 0, .bool false] 31)).heap.size = w7.heap.size + 2 by simp [Nat.add_assoc]] at h0
              rw [← hw8]
              exact h0
            replace Vo := Lib.hid (blk_below Vo.out hb (blk_lt Vo.out))
            replace Vf := Lib.hid (blk_below Vf.out hb (blk_lt Vf.out))
            replace HB := Lib.hid (And.intro (HB.out.1.trans (hb.mono HB.out.2)) (Nat.le_trans HB.out.2 hb.size))
            have Vx := Lib.hid hv0
            have neo_x := Nat.ne_of_lt lto
            have nef_x := Nat.ne_of_lt ltf
            have gex := gq
            have Vg := Lib.hid hv1
            have neo_g := Nat.ne_of_lt (Nat.lt_of_lt_of_le lto (Nat.le_add_right w7.heap.size 1))
            have nef_g := Nat.ne_of_lt (Nat.lt_of_lt_of_le ltf (Nat.le_add_right w7.heap.size 1))
            have nex_g : w7.heap.size ≠ w7.heap.size + 1 := by omega
            have geg : _ ≤ w7.heap.size + 1 := Nat.le_trans gq (Nat.le_add_right _ 1)
            have Va := Lib.hid hv2
            have neo_a := Nat.ne_of_lt (Nat.lt_of_lt_of_le lto (Nat.le_add_right w7.heap.size 2))
            have nef_a := Nat.ne_of_lt (Nat.lt_of_lt_of_le ltf (Nat.le_add_right w7.heap.size 2))
            have nex_a : w7.heap.size ≠ w7.heap.size + 2 := by omega
            have neg_a : w7.heap.size + 1 ≠ w7.heap.size + 2 := by omega
            have gea : _ ≤ w7.heap.size + 2 := Nat.le_trans gq (Nat.le_add_right _ 2)
            generalize hsx : w7.heap.size = sx at *
            clear hb gq hv0 hv1 hv2 lto ltf
            obtain ⟨mw9, w9, hw9, hse, VN⟩ := set11 Vx.out (.int .i64 3) (.int .i64 0) (.int .i64 0) (.int .i64 0) (.int .i64 0) (.int .i64 0) (.int .i64 0) (.int .u32 0) (.int .u32 0) (.slice none 0 0) (.slice none 0 0)
            replace Vo := Lib.hid (stayS hse neo_x Vo.out)
            replace Vf := Lib.hid (stayS hse nef_x Vf.out)
            replace Vg := Lib.hid (stayS hse nex_g.symm Vg.out)
            replace Va := Lib.hid (stayS hse nex_a.symm Va.out)
            replace Vx := VN
            replace HB := Lib.hid (belS hse gex HB.out)
            clear VN hse
            obtain ⟨mw10, w10, hw10, hse, VN⟩ := set10 Vg.out (.int .i64 0) (.int .i64 0) (.int .i64 0) (.int .i64 0) (.int .i64 0) (.int .i64 0) (.bool false) (.bool false) (.int .i64 0) (.bool false)
            replace Vo := Lib.hid (stayS hse neo_g Vo.out)
            replace Vf := Lib.hid (stayS hse nef_g Vf.out)
            replace Vx := Lib.hid (stayS hse nex_g Vx.out)
            replace Va := Lib.hid (stayS hse neg_a.symm Va.out)
            replace Vg := VN
            replace HB := Lib.hid (belS hse geg HB.out)
            clear VN hse
            obtain ⟨mw11, w11, hw11, hse, VN⟩ := set7 Va.out (.bool true) (.bool false) (.bool false) (.int .i64 3) (.int .i64 0) (.int .u64 0) (.slice none 0 0)
            replace Vo := Lib.hid (stayS hse neo_a Vo.out)
            replace Vf := Lib.hid (stayS hse nef_a Vf.out)
            replace Vx := Lib.hid (stayS hse nex_a Vx.out)
            replace Vg := Lib.hid (stayS hse neg_a Vg.out)
            replace Va := VN
            replace HB := Lib.hid (belS hse gea HB.out)
            clear VN hse
            go_wp2
            clear mw9 hw9 mw10 hw10 mw11 hw11
            obtain ⟨we, hwe⟩ : ∃ W, (w11).drew = W := ⟨_, rfl⟩
            have hb : Below (w11).heap.size (w11) we := hwe ▸ (Below.refl _ _).drew
            replace Vo := Lib.hid (blk_below Vo.out hb (blk_lt Vo.out))
            replace Vf := Lib.hid (blk_below Vf.out hb (blk_lt Vf.out))
            replace Vx := Lib.hid (blk_below Vx.out hb (blk_lt Vx.out))
            replace Vg := Lib.hid (blk_below Vg.out hb (blk_lt Vg.out))
            replace Va := Lib.hid (blk_below Va.out hb (blk_lt Va.out))
            replace HB := Lib.hid (And.intro (HB.out.1.trans (hb.mono HB.out.2)) (Nat.le_trans HB.out.2 hb.size))
            clear hb
            have S0 := Lib.hid (And.intro (Vx.out) (Vg.out))
            obtain ⟨w12, hw12⟩ : ∃ W, we.setCells (so) 0 [.int .i64 3, .int .i64 0, .int .i64 0, .int .i64 0, .int .i64 0, .int .i64 0, .int .i64 0, .int .u32 0, .int .u32 0, .slice none 0 0, .slice none 0 0] = W := ⟨_, rfl⟩
            have tho := Lib.hid (there_blk Vo.out (k := 11) rfl)
            replace Vf := Lib.hid (stayS hw12 neo_f.symm Vf.out)
            replace Vx := Lib.hid (stayS hw12 neo_x.symm Vx.out)
            replace Vg := Lib.hid (stayS hw12 neo_g.symm Vg.out)
            replace Va := Lib.hid (stayS hw12 neo_a.symm Va.out)
            replace Vo := Lib.hid (setS hw12 Vo.out rfl)
            replace HB := Lib.hid (belS hw12 geo HB.out)
            have S1 := Lib.hid (And.intro (Vx.out) (Vg.out))
            obtain ⟨w13, hw13⟩ : ∃ W, w12.setCells (sf) 0 [.int .i64 0, .int .i64 0, .int .i64 0, .int .i64 0, .int .i64 0, .int .i64 0, .bool false, .bool false, .int .i64 0, .bool false] = W := ⟨_, rfl⟩
            have thf := Lib.hid (there_blk Vf.out (k := 10) rfl)
            replace Vo := Lib.hid (stayS hw13 neo_f Vo.out)
            replace Vx := Lib.hid (stayS hw13 nef_x.symm Vx.out)
            replace Vg := Lib.hid (stayS hw13 nef_g.symm Vg.out)
            replace Va := Lib.hid (stayS hw13 nef_a.symm Va.out)
            replace Vf := Lib.hid (setS hw13 Vf.out rfl)
            replace HB := Lib.hid (belS hw13 gef HB.out)
            have S2 := Lib.hid (And.intro (Vx.out) (Vg.out))
            refine wp_region_noPanic ?_
            refine wp_region_held_drew (S := (fun wv => Hid (wv.heap[sx]? = some (.cells #[.int .i64 3, .int .i64 0, .int .i64 0, .int .i64 0, .int .i64 0, .int .i64 0, .int .i64 0, .int .u32 0, .int .u32 0, .slice none 0 0, .slice none 0 0] 29) ∧ wv.heap[sx + 1]? = some (.cells #[.int .i64 0, .int .i64 0, .int .i64 0, .int .i64 0, .int .i64 0, .int .i64 0, .bool false, .bool false, .int .i64 0, .bool false] 31)))) (by kernel_rfl) ((by rw [hwe]; exact S0)) (fun hS => ?_)
            rw [hwe] at hS ⊢
            refine wpAnyH_take (i := 0) (oi := ⟨some 62, .load 29 (.tmp 13), 29, "law.go:91", #[], none⟩) (v := .agg (([.int .i64 3, .int .i64 0, .int .i64 0, .int .i64 0, .int .i64 0, .int .i64 0, .int .i64 0, .int .u32 0, .int .u32 0, .slice none 0 0, .slice none 0 0] : List Value)).toArray) rfl (by kernel_rfl) (by kernel_rfl) (by kernel_rfl) (fun _ _ _ h => h) (yieldsIf_load_mid (by rfl) _ _ (by rfl) (sx) (0) (by rfl) _ _ (fun wv hS => blk_rngl hS.out.1) Try.underlying29 (by rfl) (by kernel_rfl)) hS ?_
            try simp only [Act.put, List.setIfInBounds_toArray, List.set_cons_zero, List.set_cons_succ]
            refine wpAnyH_take (i := 1) (oi := ⟨some 63, .load 31 (.tmp 14), 31, "law.go:91", #[⟨2, .gcOnly .lateStores⟩], none⟩) (v := .agg (([.int .i64 0, .int .i64 0, .int .i64 0, .int .i64 0, .int .i64 0, .int .i64 0, .bool false, .bool false, .int .i64 0, .bool false] : List Value)).toArray) rfl (by kernel_rfl) (by kernel_rfl) (by kernel_rfl) (fun _ _ _ h => h) (yieldsIf_load_mid (by rfl) _ _ (by rfl) (sx + 1) (0) (by rfl) _ _ (fun wv hS => blk_rngl hS.out.2) Try.underlying31 (by rfl) (by kernel_rfl)) hS ?_
            try simp only [Act.put, List.setIfInBounds_toArray, List.set_cons_zero, List.set_cons_succ]
            refine wpAnyH_ready (rs := [2]) (by kernel_rfl) (by simp) (AllReadyH.cons (o := ⟨none, .store 29 (.tmp 5) (.tmp 62), 0, "law.go:91", #[⟨0, .data⟩, ⟨0, .phase⟩, ⟨1, .textOnly .lateStores⟩], none⟩) rfl (fun K hK => ?_) AllReadyH.nil)
            refine op_storeS (by rfl) rfl rfl rfl tho.out (by kernel_rfl) (by simp [Value.oneCell']) hw12 ?_
            replace hS := S1
            refine Shut.out hK _ _ hS (fun _ => ?_)
            clear hK K
            try simp only [Act.put, List.setIfInBounds_toArray, List.set_cons_zero, List.set_cons_succ]
            refine wpAnyH_ready (rs := [3]) (by kernel_rfl) (by simp) (AllReadyH.cons (o := ⟨none, .store 31 (.tmp 10) (.tmp 63), 0, "law.go:91", #[⟨1, .data⟩, ⟨2, .chain⟩, ⟨0, .phase⟩, ⟨1, .phase⟩, ⟨2, .phase⟩], none⟩) rfl (fun K hK => ?_) AllReadyH.nil)
            refine op_storeS (by rfl) rfl rfl rfl thf.out (by kernel_rfl) (by simp [Value.oneCell']) hw13 ?_
            replace hS := S2
            refine Shut.out hK _ _ hS (fun _ => ?_)
            clear hK K
            try simp only [Act.put, List.setIfInBounds_toArray, List.set_cons_zero, List.set_cons_succ]
            refine wpAnyH_done (by kernel_rfl) ?_ _
            refine NoPanic.normal ?_
            clear hS S0 S1 S2 tho thf
            have ca := row7 Va.out
            have cg := row10 Vg.out
            skip
            go_wp2
            go_quiet (fail)
            go_wp2
            go_roundw
            case rel => exact Or.inr (Or.inr ⟨s + 1, (by first | rfl | go_num | (have := HL.out; congr 1; omega)), by first | rfl | go_num, Lib.hid (by have := HL.out; omega), Lib.hid ⟨bel_drewN HB.out.1 _, HB.out.2⟩, Lib.hid Vo.out, Lib.hid Vf.out⟩)
            case measure => have hm2 := HM.out; have hL2 := HLF.out; first | (simp [intOf]; done) | (simp [intOf]; omega)
          · obtain ⟨lu, hlu⟩ : ∃ u, u = lv - 1 := ⟨_, rfl⟩
            have KG2 := Lib.hid (KG.out lv lu (by have := HL.out; omega))
            have HLU := Lib.hid (And.intro hl1 hlu)
            clear hl1 hlu
            have co := row11 Vo.out
            have cf := row10 Vf.out
            go_wp2_with fail
            refine (KG2.out _).mono ?_
            rintro e w7 ⟨rfl, hb⟩
            clear co cf
            replace Vo := Lib.hid (blk_below Vo.out hb (blk_lt Vo.out))
            replace Vf := Lib.hid (blk_below Vf.out hb (blk_lt Vf.out))
            replace HB := Lib.hid (And.intro (HB.out.1.trans (hb.mono HB.out.2)) (Nat.le_trans HB.out.2 hb.size))
            clear hb
            have lto := blk_lt Vo.out
            have ltf := blk_lt Vf.out
            have gq := HB.out.2
            obtain ⟨w8, hw8⟩ : ∃ W, (((w7.alloc (.cells #[.int .i64 0, .int .i64 0, .int .i64 0, .int .i64 0, .int .i64 0, .int .i64 0, .int .i64 0, .int .u32 0, .int .u32 0, .slice none 0 0, .slice none 0 0] 29)).alloc (.cells #[.int .i64 0, .int .i64 0, .int .i64 0, .int .i64 0, .int .i64 0, .int .i64 0, .bool false, .bool false, .int .i64 0, .bool false] 31)).alloc (.cells #[.bool false, .bool false, .bool false, .int .i64 0, .int .i64 0, .int .u64 0, .slice none 0 0] 38)) = W := ⟨_, rfl⟩
            have hb : Below w7.heap.size w7 w8 := hw8 ▸ ((((Below.refl _ _).alloc (Nat.le_refl _) _).alloc (by first | (simp; done) | (simp; omega)) _).alloc (by first | (simp; done) | (simp; omega)) _)
            have hv0 : w8.heap[w7.heap.size]? = some (.cells #[.int .i64 0, .int .i64 0, .int .i64 0, .int .i64 0, .int .i64 0, .int .i64 0, .int .i64 0, .int .u32 0, .int .u32 0, .slice none 0 0, .slice none 0 0] 29) := by
              have h0 := heap_alloc_new w7 (.cells #[.int .i64 0, .int .i64 0, .int .i64 0, .int .i64 0, .int .i64 0, .int .i64 0, .int .i64 0, .int .u32 0, .int .u32 0, .slice none 0 0, .slice none 0 0] 29)
              rw [show w7.heap.size = w7.heap.size by simp [Nat.add_assoc]] at h0
              rw [← hw8]
              rw [heap_alloc_old _ _ (by simp <;> omega), heap_alloc_old _ _ (by simp <;> omega)]; exact h0
            have hv1 : w8.heap[w7.heap.size + 1]? = some (.cells #[.int .i64 0, .int .i64 0, .int .i64 0, .int .i64 0, .int .i64 0, .int .i64 0, .bool false, .bool false, .int .i64 0, .bool false] 31) := by
              have h0 := heap_alloc_new (w7.alloc (.cells #[.int .i64 0, .int .i64 0, .int .i64 0, .int .i64 0, .int .i64 0, .int .i64 0, .int .i64 0, .int .u32 0, .int .u32 0, .slice none 0 0, .slice none 0 0] 29)) (.cells #[.int .i64 0, .int .i64 0, .int .i64 0, .int .i64 0, .int .i64 0, .int .i64 0, .bool false, .bool false, .int .i64 0, .bool false] 31)
              rw [show (w7.alloc (.cells #[.int .i64 0, .int .i64 0, .int .i64 0, .int .i64 0, .int .i64 0, .int .i64 0, .int .i64 0, .int .u32 0, .int .u32 0, .slice none 0 0, .slice none 0 0] 29)).heap.size = w7.heap.size + 1 by simp [Nat.add_assoc]] at h0
              rw [← hw8]
              rw [heap_alloc_old _ _ (by simp <;> omega)]; exact h0
            have hv2 : w8.heap[w7.heap.size + 2]? = some (.cells #[.bool false, .bool false, .bool false, .int .i64 0, .int .i64 0, .int .u64 0, .slice none 0 0] 38) := by
              have h0 := heap_alloc_new ((w7.alloc (.cells #[.int .i64 0, .int .i64 0, .int .i64 0, .int .i64 0, .int .i64 0, .int .i64 0, .int .i64 0, .int .u32 0, .int .u32 0, .slice none 0 0, .slice none 0 0] 29)).alloc (.cells #[.int .i64 0, .int .i64 0, .int .i64 0, .int .i64 0, .int .i64 0, .int .i64 0, .bool false, .bool false, .int .i64 0, .bool false] 31)) (.cells #[.bool false, .bool false, .bool false, .int .i64 0, .int .i64 0, .int .u64 0, .slice none 0 0] 38)
              rw [show ((w7.alloc (.cells #[.int .i64 0, .int .i64 0, .int .i64 0, .int .i64 0, .int .i64 0, .int .i64 0, .int .i64 0, .int .u32 0, .int .u32 0, .slice none 0 0, .slice none 0 0] 29)).alloc (.cells #[.int .i64 0, .int .i64 0, .int .i64 0, .int .i64 0, .int .i64 0, .int .i64 0, .bool false, .bool false, .int .i64 0, .bool false] 31)).heap.size = w7.heap.size + 2 by simp [Nat.add_assoc]] at h0
              rw [← hw8]
              exact h0
            replace Vo := Lib.hid (blk_below Vo.out hb (blk_lt Vo.out))
            replace Vf := Lib.hid (blk_below Vf.out hb (blk_lt Vf.out))
            replace HB := Lib.hid (And.intro (HB.out.1.trans (hb.mono HB.out.2)) (Nat.le_trans HB.out.2 hb.size))
            have Vx := Lib.hid hv0
            have neo_x := Nat.ne_of_lt lto
            have nef_x := Nat.ne_of_lt ltf
            have gex := gq
            have Vg := Lib.hid hv1
            have neo_g := Nat.ne_of_lt (Nat.lt_of_lt_of_le lto (Nat.le_add_right w7.heap.size 1))
            have nef_g := Nat.ne_of_lt (Nat.lt_of_lt_of_le ltf (Nat.le_add_right w7.heap.size 1))
            have nex_g : w7.heap.size ≠ w7.heap.size + 1 := by omega
            have geg : _ ≤ w7.heap.size + 1 := Nat.le_trans gq (Nat.le_add_right _ 1)
            have Va := Lib.hid hv2
            have neo_a := Nat.ne_of_lt (Nat.lt_of_lt_of_le lto (Nat.le_add_right w7.heap.size 2))
            have nef_a := Nat.ne_of_lt (Nat.lt_of_lt_of_le ltf (Nat.le_add_right w7.heap.size 2))
            have nex_a : w7.heap.size ≠ w7.heap.size + 2 := by omega
            have neg_a : w7.heap.size + 1 ≠ w7.heap.size + 2 := by omega
            have gea : _ ≤ w7.heap.size + 2 := Nat.le_trans gq (Nat.le_add_right _ 2)
            generalize hsx : w7.heap.size = sx at *
            clear hb gq hv0 hv1 hv2 lto ltf
            obtain ⟨mw9, w9, hw9, hse, VN⟩ := set11 Vx.out (.int .i64 3) (.int .i64 0) (.int .i64 0) (.int .i64 0) (.int .i64 0) (.int .i64 0) (.int .i64 0) (.int .u32 0) (.int .u32 0) (.slice none 0 0) (.slice none 0 0)
            replace Vo := Lib.hid (stayS hse neo_x Vo.out)
            replace Vf := Lib.hid (stayS hse nef_x Vf.out)
            replace Vg := Lib.hid (stayS hse nex_g.symm Vg.out)
            replace Va := Lib.hid (stayS hse nex_a.symm Va.out)
            replace Vx := VN
            replace HB := Lib.hid (belS hse gex HB.out)
            clear VN hse
            obtain ⟨mw10, w10, hw10, hse, VN⟩ := set10 Vg.out (.int .i64 32) (.int .i64 1) (.int .i64 0) (.int .i64 0) (.int .i64 (-1)) (.int .i64 lu) (.bool false) (.bool false) (.int .i64 0) (.bool false)
            replace Vo := Lib.hid (stayS hse neo_g Vo.out)
            replace Vf := Lib.hid (stayS hse nef_g Vf.out)
            replace Vx := Lib.hid (stayS hse nex_g Vx.out)
            replace Va := Lib.hid (stayS hse neg_a.symm Va.out)
            replace Vg := VN
            replace HB := Lib.hid (belS hse geg HB.out)
            clear VN hse
            obtain ⟨mw11, w11, hw11, hse, VN⟩ := set7 Va.out (.bool false) (.bool false) (.bool false) (.int .i64 3) (.int .i64 0) (.int .u64 0) (.slice none 0 0)
            replace Vo := Lib.hid (stayS hse neo_a Vo.out)
            replace Vf := Lib.hid (stayS hse nef_a Vf.out)
            replace Vx := Lib.hid (stayS hse nex_a Vx.out)
            replace Vg := Lib.hid (stayS hse neg_a Vg.out)
            replace Va := VN
            replace HB := Lib.hid (belS hse gea HB.out)
            clear VN hse
            go_wp2
            clear mw9 hw9 mw10 hw10 mw11 hw11
            obtain ⟨we, hwe⟩ : ∃ W, (w11).drew = W := ⟨_, rfl⟩
            have hb : Below (w11).heap.size (w11) we := hwe ▸ (Below.refl _ _).drew
            replace Vo := Lib.hid (blk_below Vo.out hb (blk_lt Vo.out))
            replace Vf := Lib.hid (blk_below Vf.out hb (blk_lt Vf.out))
            replace Vx := Lib.hid (blk_below Vx.out hb (blk_lt Vx.out))
            replace Vg := Lib.hid (blk_below Vg.out hb (blk_lt Vg.out))
            replace Va := Lib.hid (blk_below Va.out hb (blk_lt Va.out))
            replace HB := Lib.hid (And.intro (HB.out.1.trans (hb.mono HB.out.2)) (Nat.le_trans HB.out.2 hb.size))
            clear hb
            have S0 := Lib.hid (And.intro (Vx.out) (Vg.out))
            obtain ⟨w12, hw12⟩ : ∃ W, we.setCells (so) 0 [.int .i64 3, .int .i64 0, .int .i64 0, .int .i64 0, .int .i64 0, .int .i64 0, .int .i64 0, .int .u32 0, .int .u32 0, .slice none 0 0, .slice none 0 0] = W := ⟨_, rfl⟩
            have tho := Lib.hid (there_blk Vo.out (k := 11) rfl)
            replace Vf := Lib.hid (stayS hw12 neo_f.symm Vf.out)
            replace Vx := Lib.hid (stayS hw12 neo_x.symm Vx.out)
            replace Vg := Lib.hid (stayS hw12 neo_g.symm Vg.out)
            replace Va := Lib.hid (stayS hw12 neo_a.symm Va.out)
            replace Vo := Lib.hid (setS hw12 Vo.out rfl)
            replace HB := Lib.hid (belS hw12 geo HB.out)
            have S1 := Lib.hid (And.intro (Vx.out) (Vg.out))
            obtain ⟨w13, hw13⟩ : ∃ W, w12.setCells (sf) 0 [.int .i64 32, .int .i64 1, .int .i64 0, .int .i64 0, .int .i64 (-1), .int .i64 lu, .bool false, .bool false, .int .i64 0, .bool false] = W := ⟨_, rfl⟩
            have thf := Lib.hid (there_blk Vf.out (k := 10) rfl)
            replace Vo := Lib.hid (stayS hw13 neo_f Vo.out)
            replace Vx := Lib.hid (stayS hw13 nef_x.symm Vx.out)
            replace Vg := Lib.hid (stayS hw13 nef_g.symm Vg.out)
            replace Va := Lib.hid (stayS hw13 nef_a.symm Va.out)
            replace Vf := Lib.hid (setS hw13 Vf.out rfl)
            replace HB := Lib.hid (belS hw13 gef HB.out)
            have S2 := Lib.hid (And.intro (Vx.out) (Vg.out))
            refine wp_region_noPanic ?_
            refine wp_region_held_drew (S := (fun wv => Hid (wv.heap[sx]? = some (.cells #[.int .i64 3, .int .i64 0, .int .i64 0, .int .i64 0, .int .i64 0, .int .i64 0, .int .i64 0, .int .u32 0, .int .u32 0, .slice none 0 0, .slice none 0 0] 29) ∧ wv.heap[sx + 1]? = some (.cells #[.int .i64 32, .int .i64 1, .int .i64 0, .int .i64 0, .int .i64 (-1), .int .i64 lu, .bool false, .bool false, .int .i64 0, .bool false] 31)))) (by kernel_rfl) ((by rw [hwe]; exact S0)) (fun hS => ?_)
            rw [hwe] at hS ⊢
            refine wpAnyH_take (i := 0) (oi := ⟨some 62, .load 29 (.tmp 13), 29, "law.go:91", #[], none⟩) (v := .agg (([.int .i64 3, .int .i64 0, .int .i64 0, .int .i64 0, .int .i64 0, .int .i64 0, .int .i64 0, .int .u32 0, .int .u32 0, .slice none 0 0, .slice none 0 0] : List Value)).toArray) rfl (by kernel_rfl) (by kernel_rfl) (by kernel_rfl) (fun _ _ _ h => h) (yieldsIf_load_mid (by rfl) _ _ (by rfl) (sx) (0) (by rfl) _ _ (fun wv hS => blk_rngl hS.out.1) Try.underlying29 (by rfl) (by kernel_rfl)) hS ?_
            try simp only [Act.put, List.setIfInBounds_toArray, List.set_cons_zero, List.set_cons_succ]
            refine wpAnyH_take (i := 1) (oi := ⟨some 63, .load 31 (.tmp 14), 31, "law.go:91", #[⟨2, .gcOnly .lateStores⟩], none⟩) (v := .agg (([.int .i64 32, .int .i64 1, .int .i64 0, .int .i64 0, .int .i64 (-1), .int .i64 lu, .bool false, .bool false, .int .i64 0, .bool false] : List Value)).toArray) rfl (by kernel_rfl) (by kernel_rfl) (by kernel_rfl) (fun _ _ _ h => h) (yieldsIf_load_mid (by rfl) _ _ (by rfl) (sx + 1) (0) (by rfl) _ _ (fun wv hS => blk_rngl hS.out.2) Try.underlying31 (by rfl) (by kernel_rfl)) hS ?_
            try simp only [Act.put, List.setIfInBounds_toArray, List.set_cons_zero, List.set_cons_succ]
            refine wpAnyH_ready (rs := [2]) (by kernel_rfl) (by simp) (AllReadyH.cons (o := ⟨none, .store 29 (.tmp 5) (.tmp 62), 0, "law.go:91", #[⟨0, .data⟩, ⟨0, .phase⟩, ⟨1, .textOnly .lateStores⟩], none⟩) rfl (fun K hK => ?_) AllReadyH.nil)
            refine op_storeS (by rfl) rfl rfl rfl tho.out (by kernel_rfl) (by simp [Value.oneCell']) hw12 ?_
            replace hS := S1
            refine Shut.out hK _ _ hS (fun _ => ?_)
            clear hK K
            try simp only [Act.put, List.setIfInBounds_toArray, List.set_cons_zero, List.set_cons_succ]
            refine wpAnyH_ready (rs := [3]) (by kernel_rfl) (by simp) (AllReadyH.cons (o := ⟨none, .store 31 (.tmp 10) (.tmp 63), 0, "law.go:91", #[⟨1, .data⟩, ⟨2, .chain⟩, ⟨0, .phase⟩, ⟨1, .phase⟩, ⟨2, .phase⟩], none⟩) rfl (fun K hK => ?_) AllReadyH.nil)
            refine op_storeS (by rfl) rfl rfl rfl thf.out (by kernel_rfl) (by simp [Value.oneCell']) hw13 ?_
            replace hS := S2
            refine Shut.out hK _ _ hS (fun _ => ?_)
            clear hK K
            try simp only [Act.put, List.setIfInBounds_toArray, List.set_cons_zero, List.set_cons_succ]
            refine wpAnyH_done (by kernel_rfl) ?_ _
            refine NoPanic.normal ?_
            clear hS S0 S1 S2 tho thf
            have ca := row7 Va.out
            have cg := row10 Vg.out
            skip
            go_wp2
            go_quiet (fail)
            go_wp2
            go_roundw
            case rel => have q1 := HL.out; have q2 := HLU.out; exact Or.inr (Or.inl ⟨kk + 1, s + 1, lu, by first | rfl | go_num, by first | rfl | go_num, Lib.hid ⟨by omega, by omega, by omega, by omega⟩, Lib.hid ⟨bel_drewN HB.out.1 _, HB.out.2⟩, Lib.hid Vo.out, Lib.hid Vf.out⟩)
            case measure => have hm2 := HM.out; have hL2 := HLF.out; first | (simp [intOf]; done) | (simp [intOf]; omega)
        · have hs0 : (0 : Int) ≤ s := by have := HL.out; omega
          have ks : (s == 0) = false := by have := HL.out; simp; omega
          have ks3 : (s == (m : Int) + 1) = true := by have := HL.out; simp; omega
          have co := row11 Vo.out
          have cf := row10 Vf.out
          go_wp2
          go_ret
          exact ⟨rfl, HB.out.1⟩
end Go.Proofs.Ytglldhmdifnobaa
