/- Layer 15: what the document's own Lock answers; no condition. -/
import Derived.Test.YtagaijghfikdoaaMutC
import Derived.Test.YtagaijghfikdoaaSyn
namespace Go.Proofs.Ytagaijghfikdoaa
set_option linter.unusedVariables false
set_option linter.unusedSimpArgs false
open Go.RowKit
set_option maxRecDepth 100000 in
set_option maxHeartbeats 16000000 in
theorem lock15_any (kd o0 o1 o2 o3 o4 o5 wa to : Int) (A : Option Addr) (n c : Nat) (B : Option Addr) (m d : Nat) (f : MFr) (now pat : Int) (w : World) : Calls Try.prog 11 #[obV kd o0 o1 o2 o3 o4 o5 wa to A n c B m d, frV f, .int .i64 now, .int .i64 pat] w (StepC w kd o1 o2 o3 o4 o5 wa to A n c B m d (lockM o0 f now pat)) := by
  obtain ⟨op, stage, phase, old, since, left, awoke, starve, need, front⟩ := f
  unfold obV frV frC
  simp only
  obtain ⟨v1, hv1⟩ : ∃ W, w.alloc (.cells #[.int .i64 kd, .int .i64 o0, .int .i64 o1, .int .i64 o2, .int .i64 o3, .int .i64 o4, .int .i64 o5, .int .u32 wa, .int .u32 to, .slice A n c, .slice B m d] 29) = W := ⟨_, rfl⟩
  have fr1 : Fr w v1 w.heap.size [.cells #[.int .i64 kd, .int .i64 o0, .int .i64 o1, .int .i64 o2, .int .i64 o3, .int .i64 o4, .int .i64 o5, .int .u32 wa, .int .u32 to, .slice A n c, .slice B m d] 29] := hv1 ▸ Fr.first w _
  have z1 : v1.heap.size = w.heap.size + 1 := by rw [← hv1, Fr.size1]
  obtain ⟨v2, hv2⟩ : ∃ W, v1.alloc (.cells #[.int .i64 op, .int .i64 stage, .int .i64 phase, .int .i64 old, .int .i64 since, .int .i64 left, .bool awoke, .bool starve, .int .i64 need, .bool front] 31) = W := ⟨_, rfl⟩
  have fr2 : Fr w v2 w.heap.size [.cells #[.int .i64 kd, .int .i64 o0, .int .i64 o1, .int .i64 o2, .int .i64 o3, .int .i64 o4, .int .i64 o5, .int .u32 wa, .int .u32 to, .slice A n c, .slice B m d] 29, .cells #[.int .i64 op, .int .i64 stage, .int .i64 phase, .int .i64 old, .int .i64 since, .int .i64 left, .bool awoke, .bool starve, .int .i64 need, .bool front] 31] := hv2 ▸ fr1.more z1 _
  have z2 : v2.heap.size = w.heap.size + 2 := by rw [← hv2, Fr.size1, z1]
  obtain ⟨v3, hv3⟩ : ∃ W, v2.alloc (.cells #[.int .i64 0, .int .i64 0, .int .i64 0, .int .i64 0, .int .i64 0, .int .i64 0, .int .i64 0, .int .u32 0, .int .u32 0, .slice none 0 0, .slice none 0 0] 29) = W := ⟨_, rfl⟩
  have fr3 : Fr w v3 w.heap.size [.cells #[.int .i64 kd, .int .i64 o0, .int .i64 o1, .int .i64 o2, .int .i64 o3, .int .i64 o4, .int .i64 o5, .int .u32 wa, .int .u32 to, .slice A n c, .slice B m d] 29, .cells #[.int .i64 op, .int .i64 stage, .int .i64 phase, .int .i64 old, .int .i64 since, .int .i64 left, .bool awoke, .bool starve, .int .i64 need, .bool front] 31, .cells #[.int .i64 0, .int .i64 0, .int .i64 0, .int .i64 0, .int .i64 0, .int .i64 0, .int .i64 0, .int .u32 0, .int .u32 0, .slice none 0 0, .slice none 0 0] 29] := hv3 ▸ fr2.more z2 _
  have z3 : v3.heap.size = w.heap.size + 3 := by rw [← hv3, Fr.size1, z2]
  obtain ⟨v4, hv4⟩ : ∃ W, v3.alloc (.cells #[.int .i64 0, .int .i64 0, .int .i64 0, .int .i64 0, .int .i64 0, .int .i64 0, .bool false, .bool false, .int .i64 0, .bool false] 31) = W := ⟨_, rfl⟩
  have fr4 : Fr w v4 w.heap.size [.cells #[.int .i64 kd, .int .i64 o0, .int .i64 o1, .int .i64 o2, .int .i64 o3, .int .i64 o4, .int .i64 o5, .int .u32 wa, .int .u32 to, .slice A n c, .slice B m d] 29, .cells #[.int .i64 op, .int .i64 stage, .int .i64 phase, .int .i64 old, .int .i64 since, .int .i64 left, .bool awoke, .bool starve, .int .i64 need, .bool front] 31, .cells #[.int .i64 0, .int .i64 0, .int .i64 0, .int .i64 0, .int .i64 0, .int .i64 0, .int .i64 0, .int .u32 0, .int .u32 0, .slice none 0 0, .slice none 0 0] 29, .cells #[.int .i64 0, .int .i64 0, .int .i64 0, .int .i64 0, .int .i64 0, .int .i64 0, .bool false, .bool false, .int .i64 0, .bool false] 31] := hv4 ▸ fr3.more z3 _
  have z4 : v4.heap.size = w.heap.size + 4 := by rw [← hv4, Fr.size1, z3]
  obtain ⟨v5, hv5⟩ : ∃ W, v4.alloc (.cells #[.bool false, .bool false, .bool false, .int .i64 0, .int .i64 0, .int .u64 0, .slice none 0 0] 39) = W := ⟨_, rfl⟩
  have fr5 : Fr w v5 w.heap.size [.cells #[.int .i64 kd, .int .i64 o0, .int .i64 o1, .int .i64 o2, .int .i64 o3, .int .i64 o4, .int .i64 o5, .int .u32 wa, .int .u32 to, .slice A n c, .slice B m d] 29, .cells #[.int .i64 op, .int .i64 stage, .int .i64 phase, .int .i64 old, .int .i64 since, .int .i64 left, .bool awoke, .bool starve, .int .i64 need, .bool front] 31, .cells #[.int .i64 0, .int .i64 0, .int .i64 0, .int .i64 0, .int .i64 0, .int .i64 0, .int .i64 0, .int .u32 0, .int .u32 0, .slice none 0 0, .slice none 0 0] 29, .cells #[.int .i64 0, .int .i64 0, .int .i64 0, .int .i64 0, .int .i64 0, .int .i64 0, .bool false, .bool false, .int .i64 0, .bool false] 31, .cells #[.bool false, .bool false, .bool false, .int .i64 0, .int .i64 0, .int .u64 0, .slice none 0 0] 39] := hv5 ▸ fr4.more z4 _
  have z5 : v5.heap.size = w.heap.size + 5 := by rw [← hv5, Fr.size1, z4]
  generalize hq : w.heap.size = q at *
  have FR := Lib.hid fr5
  clear fr1 fr2 fr3 fr4 fr5
  by_cases p0 : phase = 0
  · subst p0
    by_cases h0 : o0 = 0
    · have b0 : (o0 == 0) = true := by simp [h0]
      have HE := Lib.hid (show lockM o0 ⟨op, stage, 0, old, since, left, awoke, starve, need, front⟩ now pat = (1, noF, doneA) from by
        unfold lockM
        exact if_pos ⟨rfl, h0⟩)
      clear h0
      go_enter Try.func11, Try.ntmps11
      obtain ⟨ac00, ac01, ac02, ac03, ac04, ac05, ac06, ac07, ac08, ac09, ac010⟩ := row11 (b := q) (FR.out.at 0 rfl rfl)
      have af01 : v5.frozen? ⟨q, 1, none⟩ = false := FR.out.frozen 0 1 rfl rfl
      obtain ⟨ac10, ac11, ac12, ac13, ac14, ac15, ac16, ac17, ac18, ac19⟩ := row10 (b := q + 1) (FR.out.at 1 rfl rfl)
      obtain ⟨w6p, hw6p⟩ : ∃ W, (v5.setCell ⟨q, 1, none⟩ (.int .i64 1)) = W := ⟨_, rfl⟩
      replace FR := Lib.hid (((FR.out.set 0 1 rfl rfl (.int .i64 1))).eqw hw6p)
      obtain ⟨bc00, bc01, bc02, bc03, bc04, bc05, bc06, bc07, bc08, bc09, bc010⟩ := row11 (b := q) (FR.out.at 0 rfl rfl)
      obtain ⟨bc10, bc11, bc12, bc13, bc14, bc15, bc16, bc17, bc18, bc19⟩ := row10 (b := q + 1) (FR.out.at 1 rfl rfl)
      obtain ⟨mc20, mc21, mc22, mc23, mc24, mc25, mc26, mc27, mc28, mc29, mc210⟩ := row11 (b := q + 2) (FR.out.at 2 rfl rfl)
      obtain ⟨mf20, mf21, mf22, mf23, mf24, mf25, mf26, mf27, mf28, mf29, mf210⟩ := frz11 (b := q + 2) (FR.out.at 2 rfl rfl)
      obtain ⟨w7r, hw7r⟩ : ∃ W, (((((((((((w6p.setCell ⟨q + 2, 0, none⟩ (.int .i64 kd)).setCell ⟨q + 2, 1, none⟩ (.int .i64 1)).setCell ⟨q + 2, 2, none⟩ (.int .i64 o1)).setCell ⟨q + 2, 3, none⟩ (.int .i64 o2)).setCell ⟨q + 2, 4, none⟩ (.int .i64 o3)).setCell ⟨q + 2, 5, none⟩ (.int .i64 o4)).setCell ⟨q + 2, 6, none⟩ (.int .i64 o5)).setCell ⟨q + 2, 7, none⟩ (.int .u32 wa)).setCell ⟨q + 2, 8, none⟩ (.int .u32 to)).setCell ⟨q + 2, 9, none⟩ (.slice A n c)).setCell ⟨q + 2, 10, none⟩ (.slice B m d)) = W := ⟨_, rfl⟩
      replace FR := Lib.hid ((FR.out.all 2 (vs := [.int .i64 kd, .int .i64 1, .int .i64 o1, .int .i64 o2, .int .i64 o3, .int .i64 o4, .int .i64 o5, .int .u32 wa, .int .u32 to, .slice A n c, .slice B m d]) rfl rfl rfl).eqw hw7r)
      obtain ⟨nc30, nc31, nc32, nc33, nc34, nc35, nc36, nc37, nc38, nc39⟩ := row10 (b := q + 3) (FR.out.at 3 rfl rfl)
      obtain ⟨nf30, nf31, nf32, nf33, nf34, nf35, nf36, nf37, nf38, nf39⟩ := frz10 (b := q + 3) (FR.out.at 3 rfl rfl)
      obtain ⟨w8r, hw8r⟩ : ∃ W, ((((((((((w7r.setCell ⟨q + 3, 0, none⟩ (.int .i64 0)).setCell ⟨q + 3, 1, none⟩ (.int .i64 0)).setCell ⟨q + 3, 2, none⟩ (.int .i64 0)).setCell ⟨q + 3, 3, none⟩ (.int .i64 0)).setCell ⟨q + 3, 4, none⟩ (.int .i64 0)).setCell ⟨q + 3, 5, none⟩ (.int .i64 0)).setCell ⟨q + 3, 6, none⟩ (.bool false)).setCell ⟨q + 3, 7, none⟩ (.bool false)).setCell ⟨q + 3, 8, none⟩ (.int .i64 0)).setCell ⟨q + 3, 9, none⟩ (.bool false)) = W := ⟨_, rfl⟩
      replace FR := Lib.hid ((FR.out.all 3 (vs := [.int .i64 0, .int .i64 0, .int .i64 0, .int .i64 0, .int .i64 0, .int .i64 0, .bool false, .bool false, .int .i64 0, .bool false]) rfl rfl rfl).eqw hw8r)
      obtain ⟨oc40, oc41, oc42, oc43, oc44, oc45, oc46⟩ := row7 (b := q + 4) (FR.out.at 4 rfl rfl)
      obtain ⟨of40, of41, of42, of43, of44, of45, of46⟩ := frz7 (b := q + 4) (FR.out.at 4 rfl rfl)
      obtain ⟨w9r, hw9r⟩ : ∃ W, (((((((w8r.setCell ⟨q + 4, 0, none⟩ (.bool true)).setCell ⟨q + 4, 1, none⟩ (.bool false)).setCell ⟨q + 4, 2, none⟩ (.bool false)).setCell ⟨q + 4, 3, none⟩ (.int .i64 0)).setCell ⟨q + 4, 4, none⟩ (.int .i64 0)).setCell ⟨q + 4, 5, none⟩ (.int .u64 0)).setCell ⟨q + 4, 6, none⟩ (.slice none 0 0)) = W := ⟨_, rfl⟩
      replace FR := Lib.hid ((FR.out.all 4 (vs := [.bool true, .bool false, .bool false, .int .i64 0, .int .i64 0, .int .u64 0, .slice none 0 0]) rfl rfl rfl).eqw hw9r)
      go_wp2
      refine bodyPost_ret (res_ccc Try.results11 (by rfl) (by rfl) (by rfl) (FR.out.load 2 rfl rfl Try.underlying29 (by kernel_rfl)) (FR.out.load 3 rfl rfl Try.underlying31 (by kernel_rfl)) (FR.out.load 4 rfl rfl Try.underlying39 (by kernel_rfl))) rfl ?_
      rw [HE.out]
      exact ⟨rfl, FR.out.out⟩
    · have b0 : (o0 == 0) = false := by simp [h0]
      have HE := Lib.hid (show lockM o0 ⟨op, stage, 0, old, since, left, awoke, starve, need, front⟩ now pat = (o0, ⟨op, stage, 1, old, since, left, awoke, starve, need, front⟩, noA) from by
        unfold lockM
        rw [if_neg (fun h => h0 h.2)]; exact if_pos (Or.inl rfl))
      clear h0
      go_enter Try.func11, Try.ntmps11
      obtain ⟨ac00, ac01, ac02, ac03, ac04, ac05, ac06, ac07, ac08, ac09, ac010⟩ := row11 (b := q) (FR.out.at 0 rfl rfl)
      obtain ⟨ac10, ac11, ac12, ac13, ac14, ac15, ac16, ac17, ac18, ac19⟩ := row10 (b := q + 1) (FR.out.at 1 rfl rfl)
      have af12 : v5.frozen? ⟨q + 1, 2, none⟩ = false := FR.out.frozen 1 2 rfl rfl
      obtain ⟨w6p, hw6p⟩ : ∃ W, (v5.setCell ⟨q + 1, 2, none⟩ (.int .i64 1)) = W := ⟨_, rfl⟩
      replace FR := Lib.hid (((FR.out.set 1 2 rfl rfl (.int .i64 1))).eqw hw6p)
      obtain ⟨bc00, bc01, bc02, bc03, bc04, bc05, bc06, bc07, bc08, bc09, bc010⟩ := row11 (b := q) (FR.out.at 0 rfl rfl)
      obtain ⟨bc10, bc11, bc12, bc13, bc14, bc15, bc16, bc17, bc18, bc19⟩ := row10 (b := q + 1) (FR.out.at 1 rfl rfl)
      go_wp2
      clear ac00 ac01 ac02 ac03 ac04 ac05 ac06 ac07 ac08 ac09 ac010 ac10 ac11 ac12 ac13 ac14 ac15 ac16 ac17 ac18 ac19 af12 bc00 bc01 bc02 bc03 bc04 bc05 bc06 bc07 bc08 bc09 bc010 bc10 bc11 bc12 bc13 bc14 bc15 bc16 bc17 bc18 bc19
      have HF0 := Lib.hid FR.out.drew
      obtain ⟨w7r, hw7r⟩ : ∃ W, w6p.drew.setCells (q + 2) 0 [.int .i64 kd, .int .i64 o0, .int .i64 o1, .int .i64 o2, .int .i64 o3, .int .i64 o4, .int .i64 o5, .int .u32 wa, .int .u32 to, .slice A n c, .slice B m d] = W := ⟨_, rfl⟩
      have HF1 := Lib.hid ((HF0.out.all 2 rfl rfl (by rfl)).eqw hw7r)
      have hh1 := Lib.hid hw7r
      clear hw7r
      obtain ⟨w8r, hw8r⟩ : ∃ W, w7r.setCells (q + 3) 0 [.int .i64 op, .int .i64 stage, .int .i64 1, .int .i64 old, .int .i64 since, .int .i64 left, .bool awoke, .bool starve, .int .i64 need, .bool front] = W := ⟨_, rfl⟩
      have HF2 := Lib.hid ((HF1.out.all 3 rfl rfl (by rfl)).eqw hw8r)
      have hh2 := Lib.hid hw8r
      clear hw8r
      obtain ⟨w9r, hw9r⟩ : ∃ W, w8r.setCells (q + 4) 0 [.bool false, .bool false, .bool false, .int .i64 0, .int .i64 0, .int .u64 0, .slice none 0 0] = W := ⟨_, rfl⟩
      have HF3 := Lib.hid ((HF2.out.all 4 rfl rfl (by rfl)).eqw hw9r)
      have hh3 := Lib.hid hw9r
      clear hw9r
      refine wp_region_noPanic ?_
      refine wp_region_held_drew (S := (fun wv => Hid (wv.heap[q]? = some (.cells #[.int .i64 kd, .int .i64 o0, .int .i64 o1, .int .i64 o2, .int .i64 o3, .int .i64 o4, .int .i64 o5, .int .u32 wa, .int .u32 to, .slice A n c, .slice B m d] 29) ∧ wv.heap[q + 1]? = some (.cells #[.int .i64 op, .int .i64 stage, .int .i64 1, .int .i64 old, .int .i64 since, .int .i64 left, .bool awoke, .bool starve, .int .i64 need, .bool front] 31)))) (by kernel_rfl) (Lib.hid (show w6p.drew.heap[q]? = some (.cells #[.int .i64 kd, .int .i64 o0, .int .i64 o1, .int .i64 o2, .int .i64 o3, .int .i64 o4, .int .i64 o5, .int .u32 wa, .int .u32 to, .slice A n c, .slice B m d] 29) ∧ w6p.drew.heap[q + 1]? = some (.cells #[.int .i64 op, .int .i64 stage, .int .i64 1, .int .i64 old, .int .i64 since, .int .i64 left, .bool awoke, .bool starve, .int .i64 need, .bool front] 31) from ⟨HF0.out.blk 0 _ rfl, HF0.out.blk 1 _ rfl⟩)) (fun hS => ?_)
      refine wpAnyH_take (i := 0) (oi := ⟨some 43, .load 29 (.tmp 4), 29, "ref.go:43", #[], none⟩) (v := .agg (([.int .i64 kd, .int .i64 o0, .int .i64 o1, .int .i64 o2, .int .i64 o3, .int .i64 o4, .int .i64 o5, .int .u32 wa, .int .u32 to, .slice A n c, .slice B m d] : List Value)).toArray) rfl (by kernel_rfl) (by kernel_rfl) (by kernel_rfl) (fun _ _ _ h => h) (yieldsIf_load_mid (by rfl) _ _ (by rfl) (q) (0) (by rfl) (([.int .i64 kd, .int .i64 o0, .int .i64 o1, .int .i64 o2, .int .i64 o3, .int .i64 o4, .int .i64 o5, .int .u32 wa, .int .u32 to, .slice A n c, .slice B m d] : List Value)) _ (fun wv hS => blk_rngl hS.out.1) Try.underlying29 (by rfl) (by kernel_rfl)) hS ?_
      try simp only [Act.put, List.setIfInBounds_toArray, List.set_cons_zero, List.set_cons_succ]
      refine wpAnyH_take (i := 1) (oi := ⟨some 44, .load 31 (.tmp 5), 31, "ref.go:43", #[⟨3, .gcOnly .lateStores⟩], none⟩) (v := .agg (([.int .i64 op, .int .i64 stage, .int .i64 1, .int .i64 old, .int .i64 since, .int .i64 left, .bool awoke, .bool starve, .int .i64 need, .bool front] : List Value)).toArray) rfl (by kernel_rfl) (by kernel_rfl) (by kernel_rfl) (fun _ _ _ h => h) (yieldsIf_load_mid (by rfl) _ _ (by rfl) (q + 1) (0) (by rfl) (([.int .i64 op, .int .i64 stage, .int .i64 1, .int .i64 old, .int .i64 since, .int .i64 left, .bool awoke, .bool starve, .int .i64 need, .bool front] : List Value)) _ (fun wv hS => blk_rngl hS.out.2) Try.underlying31 (by rfl) (by kernel_rfl)) hS ?_
      try simp only [Act.put, List.setIfInBounds_toArray, List.set_cons_zero, List.set_cons_succ]
      refine wpAnyH_take (i := 2) (oi := ⟨some 45, .build 39 #[], 39, "ref.go:43", #[⟨4, .gcOnly .lateStores⟩], none⟩) (v := ?_) rfl (by kernel_rfl) (by kernel_rfl) (by kernel_rfl) (fun _ _ _ h => h) (Or.inl ⟨by rfl, ?_⟩) hS ?_
      rotate_left
      · intro wv _; go_simp; try with_reducible rfl
      try simp only [Act.put, List.setIfInBounds_toArray, List.set_cons_zero, List.set_cons_succ]
      refine wpAnyH_ready (rs := [3]) (by kernel_rfl) (by simp) (AllReadyH.cons (o := ⟨none, .store 29 (.tmp 8) (.tmp 43), 0, "ref.go:43", #[⟨0, .data⟩, ⟨0, .phase⟩, ⟨1, .textOnly .lateStores⟩, ⟨2, .textOnly .lateStores⟩], none⟩) rfl (fun K hK => ?_) AllReadyH.nil)
      refine op_storeS (by rfl) rfl rfl rfl (there_blk (HF0.out.blk 2 _ rfl) rfl) (by kernel_rfl) (by simp [Value.oneCell']) hh1.out ?_
      replace hS := Lib.hid (show w7r.heap[q]? = some (.cells #[.int .i64 kd, .int .i64 o0, .int .i64 o1, .int .i64 o2, .int .i64 o3, .int .i64 o4, .int .i64 o5, .int .u32 wa, .int .u32 to, .slice A n c, .slice B m d] 29) ∧ w7r.heap[q + 1]? = some (.cells #[.int .i64 op, .int .i64 stage, .int .i64 1, .int .i64 old, .int .i64 since, .int .i64 left, .bool awoke, .bool starve, .int .i64 need, .bool front] 31) from ⟨HF1.out.blk 0 _ rfl, HF1.out.blk 1 _ rfl⟩)
      refine Shut.out hK _ _ hS (fun _ => ?_)
      clear hK K
      try simp only [Act.put, List.setIfInBounds_toArray, List.set_cons_zero, List.set_cons_succ]
      refine wpAnyH_ready (rs := [4]) (by kernel_rfl) (by simp) (AllReadyH.cons (o := ⟨none, .store 31 (.tmp 9) (.tmp 44), 0, "ref.go:43", #[⟨1, .data⟩, ⟨3, .chain⟩, ⟨0, .phase⟩, ⟨1, .phase⟩, ⟨2, .textOnly .lateStores⟩, ⟨3, .phase⟩], none⟩) rfl (fun K hK => ?_) AllReadyH.nil)
      refine op_storeS (by rfl) rfl rfl rfl (there_blk (HF1.out.blk 3 _ rfl) rfl) (by kernel_rfl) (by simp [Value.oneCell']) hh2.out ?_
      replace hS := Lib.hid (show w8r.heap[q]? = some (.cells #[.int .i64 kd, .int .i64 o0, .int .i64 o1, .int .i64 o2, .int .i64 o3, .int .i64 o4, .int .i64 o5, .int .u32 wa, .int .u32 to, .slice A n c, .slice B m d] 29) ∧ w8r.heap[q + 1]? = some (.cells #[.int .i64 op, .int .i64 stage, .int .i64 1, .int .i64 old, .int .i64 since, .int .i64 left, .bool awoke, .bool starve, .int .i64 need, .bool front] 31) from ⟨HF2.out.blk 0 _ rfl, HF2.out.blk 1 _ rfl⟩)
      refine Shut.out hK _ _ hS (fun _ => ?_)
      clear hK K
      try simp only [Act.put, List.setIfInBounds_toArray, List.set_cons_zero, List.set_cons_succ]
      refine wpAnyH_ready (rs := [5]) (by kernel_rfl) (by simp) (AllReadyH.cons (o := ⟨none, .store 39 (.tmp 10) (.tmp 45), 0, "ref.go:43", #[⟨2, .data⟩, ⟨4, .chain⟩, ⟨0, .phase⟩, ⟨1, .phase⟩, ⟨2, .phase⟩, ⟨3, .phase⟩, ⟨4, .phase⟩], none⟩) rfl (fun K hK => ?_) AllReadyH.nil)
      refine op_storeS (by rfl) rfl rfl rfl (there_blk (HF2.out.blk 4 _ rfl) rfl) (by kernel_rfl) (by simp [Value.oneCell']) hh3.out ?_
      replace hS := Lib.hid (show w9r.heap[q]? = some (.cells #[.int .i64 kd, .int .i64 o0, .int .i64 o1, .int .i64 o2, .int .i64 o3, .int .i64 o4, .int .i64 o5, .int .u32 wa, .int .u32 to, .slice A n c, .slice B m d] 29) ∧ w9r.heap[q + 1]? = some (.cells #[.int .i64 op, .int .i64 stage, .int .i64 1, .int .i64 old, .int .i64 since, .int .i64 left, .bool awoke, .bool starve, .int .i64 need, .bool front] 31) from ⟨HF3.out.blk 0 _ rfl, HF3.out.blk 1 _ rfl⟩)
      refine Shut.out hK _ _ hS (fun _ => ?_)
      clear hK K
      try simp only [Act.put, List.setIfInBounds_toArray, List.set_cons_zero, List.set_cons_succ]
      refine wpAnyH_done (by kernel_rfl) ?_ _
      refine NoPanic.normal ?_
      go_wp2
      refine bodyPost_ret (res_ccc Try.results11 (by rfl) (by rfl) (by rfl) (HF3.out.load 2 rfl rfl Try.underlying29 (by kernel_rfl)) (HF3.out.load 3 rfl rfl Try.underlying31 (by kernel_rfl)) (HF3.out.load 4 rfl rfl Try.underlying39 (by kernel_rfl))) rfl ?_
      replace FR := HF3
      rw [HE.out]
      exact ⟨rfl, FR.out.out⟩
  have n0 : (phase == 0) = false := by simp [p0]
  by_cases p1 : phase = 1
  · subst p1
    have HE := Lib.hid (show lockM o0 ⟨op, stage, 1, old, since, left, awoke, starve, need, front⟩ now pat = (o0, ⟨op, stage, 2, o0, since, left, awoke, starve, need, front⟩, noA) from by
      unfold lockM
      rw [if_neg (fun h => absurd (show (1 : Int) = 0 from h.1) (by decide)), if_neg (fun h => by rcases h with h | h; exact absurd (show (1 : Int) = 0 from h) (by decide); exact absurd (show (1 : Int) = 2 from h.1) (by decide)), if_pos rfl])
    clear p0 n0
    go_enter Try.func11, Try.ntmps11
    obtain ⟨ac00, ac01, ac02, ac03, ac04, ac05, ac06, ac07, ac08, ac09, ac010⟩ := row11 (b := q) (FR.out.at 0 rfl rfl)
    obtain ⟨ac10, ac11, ac12, ac13, ac14, ac15, ac16, ac17, ac18, ac19⟩ := row10 (b := q + 1) (FR.out.at 1 rfl rfl)
    have af12 : v5.frozen? ⟨q + 1, 2, none⟩ = false := FR.out.frozen 1 2 rfl rfl
    have af13 : v5.frozen? ⟨q + 1, 3, none⟩ = false := FR.out.frozen 1 3 rfl rfl
    obtain ⟨w6p, hw6p⟩ : ∃ W, ((v5.setCell ⟨q + 1, 3, none⟩ (.int .i64 o0)).setCell ⟨q + 1, 2, none⟩ (.int .i64 2)) = W := ⟨_, rfl⟩
    replace FR := Lib.hid ((((FR.out.set 1 3 rfl rfl (.int .i64 o0)).set 1 2 rfl rfl (.int .i64 2))).eqw hw6p)
    obtain ⟨bc00, bc01, bc02, bc03, bc04, bc05, bc06, bc07, bc08, bc09, bc010⟩ := row11 (b := q) (FR.out.at 0 rfl rfl)
    obtain ⟨bc10, bc11, bc12, bc13, bc14, bc15, bc16, bc17, bc18, bc19⟩ := row10 (b := q + 1) (FR.out.at 1 rfl rfl)
    go_wp2
    clear ac00 ac01 ac02 ac03 ac04 ac05 ac06 ac07 ac08 ac09 ac010 ac10 ac11 ac12 ac13 ac14 ac15 ac16 ac17 ac18 ac19 af12 af13 bc00 bc01 bc02 bc03 bc04 bc05 bc06 bc07 bc08 bc09 bc010 bc10 bc11 bc12 bc13 bc14 bc15 bc16 bc17 bc18 bc19
    have HF0 := Lib.hid FR.out.drew
    obtain ⟨w7r, hw7r⟩ : ∃ W, w6p.drew.setCells (q + 2) 0 [.int .i64 kd, .int .i64 o0, .int .i64 o1, .int .i64 o2, .int .i64 o3, .int .i64 o4, .int .i64 o5, .int .u32 wa, .int .u32 to, .slice A n c, .slice B m d] = W := ⟨_, rfl⟩
    have HF1 := Lib.hid ((HF0.out.all 2 rfl rfl (by rfl)).eqw hw7r)
    have hh1 := Lib.hid hw7r
    clear hw7r
    obtain ⟨w8r, hw8r⟩ : ∃ W, w7r.setCells (q + 3) 0 [.int .i64 op, .int .i64 stage, .int .i64 2, .int .i64 o0, .int .i64 since, .int .i64 left, .bool awoke, .bool starve, .int .i64 need, .bool front] = W := ⟨_, rfl⟩
    have HF2 := Lib.hid ((HF1.out.all 3 rfl rfl (by rfl)).eqw hw8r)
    have hh2 := Lib.hid hw8r
    clear hw8r
    obtain ⟨w9r, hw9r⟩ : ∃ W, w8r.setCells (q + 4) 0 [.bool false, .bool false, .bool false, .int .i64 0, .int .i64 0, .int .u64 0, .slice none 0 0] = W := ⟨_, rfl⟩
    have HF3 := Lib.hid ((HF2.out.all 4 rfl rfl (by rfl)).eqw hw9r)
    have hh3 := Lib.hid hw9r
    clear hw9r
    refine wp_region_noPanic ?_
    refine wp_region_held_drew (S := (fun wv => Hid (wv.heap[q]? = some (.cells #[.int .i64 kd, .int .i64 o0, .int .i64 o1, .int .i64 o2, .int .i64 o3, .int .i64 o4, .int .i64 o5, .int .u32 wa, .int .u32 to, .slice A n c, .slice B m d] 29) ∧ wv.heap[q + 1]? = some (.cells #[.int .i64 op, .int .i64 stage, .int .i64 2, .int .i64 o0, .int .i64 since, .int .i64 left, .bool awoke, .bool starve, .int .i64 need, .bool front] 31)))) (by kernel_rfl) (Lib.hid (show w6p.drew.heap[q]? = some (.cells #[.int .i64 kd, .int .i64 o0, .int .i64 o1, .int .i64 o2, .int .i64 o3, .int .i64 o4, .int .i64 o5, .int .u32 wa, .int .u32 to, .slice A n c, .slice B m d] 29) ∧ w6p.drew.heap[q + 1]? = some (.cells #[.int .i64 op, .int .i64 stage, .int .i64 2, .int .i64 o0, .int .i64 since, .int .i64 left, .bool awoke, .bool starve, .int .i64 need, .bool front] 31) from ⟨HF0.out.blk 0 _ rfl, HF0.out.blk 1 _ rfl⟩)) (fun hS => ?_)
    refine wpAnyH_take (i := 0) (oi := ⟨some 52, .load 29 (.tmp 4), 29, "ref.go:47", #[], none⟩) (v := .agg (([.int .i64 kd, .int .i64 o0, .int .i64 o1, .int .i64 o2, .int .i64 o3, .int .i64 o4, .int .i64 o5, .int .u32 wa, .int .u32 to, .slice A n c, .slice B m d] : List Value)).toArray) rfl (by kernel_rfl) (by kernel_rfl) (by kernel_rfl) (fun _ _ _ h => h) (yieldsIf_load_mid (by rfl) _ _ (by rfl) (q) (0) (by rfl) (([.int .i64 kd, .int .i64 o0, .int .i64 o1, .int .i64 o2, .int .i64 o3, .int .i64 o4, .int .i64 o5, .int .u32 wa, .int .u32 to, .slice A n c, .slice B m d] : List Value)) _ (fun wv hS => blk_rngl hS.out.1) Try.underlying29 (by rfl) (by kernel_rfl)) hS ?_
    try simp only [Act.put, List.setIfInBounds_toArray, List.set_cons_zero, List.set_cons_succ]
    refine wpAnyH_take (i := 1) (oi := ⟨some 53, .load 31 (.tmp 5), 31, "ref.go:47", #[⟨3, .gcOnly .lateStores⟩], none⟩) (v := .agg (([.int .i64 op, .int .i64 stage, .int .i64 2, .int .i64 o0, .int .i64 since, .int .i64 left, .bool awoke, .bool starve, .int .i64 need, .bool front] : List Value)).toArray) rfl (by kernel_rfl) (by kernel_rfl) (by kernel_rfl) (fun _ _ _ h => h) (yieldsIf_load_mid (by rfl) _ _ (by rfl) (q + 1) (0) (by rfl) (([.int .i64 op, .int .i64 stage, .int .i64 2, .int .i64 o0, .int .i64 since, .int .i64 left, .bool awoke, .bool starve, .int .i64 need, .bool front] : List Value)) _ (fun wv hS => blk_rngl hS.out.2) Try.underlying31 (by rfl) (by kernel_rfl)) hS ?_
    try simp only [Act.put, List.setIfInBounds_toArray, List.set_cons_zero, List.set_cons_succ]
    refine wpAnyH_take (i := 2) (oi := ⟨some 54, .build 39 #[], 39, "ref.go:47", #[⟨4, .gcOnly .lateStores⟩], none⟩) (v := ?_) rfl (by kernel_rfl) (by kernel_rfl) (by kernel_rfl) (fun _ _ _ h => h) (Or.inl ⟨by rfl, ?_⟩) hS ?_
    rotate_left
    · intro wv _; go_simp; try with_reducible rfl
    try simp only [Act.put, List.setIfInBounds_toArray, List.set_cons_zero, List.set_cons_succ]
    refine wpAnyH_ready (rs := [3]) (by kernel_rfl) (by simp) (AllReadyH.cons (o := ⟨none, .store 29 (.tmp 8) (.tmp 52), 0, "ref.go:47", #[⟨0, .data⟩, ⟨0, .phase⟩, ⟨1, .textOnly .lateStores⟩, ⟨2, .textOnly .lateStores⟩], none⟩) rfl (fun K hK => ?_) AllReadyH.nil)
    refine op_storeS (by rfl) rfl rfl rfl (there_blk (HF0.out.blk 2 _ rfl) rfl) (by kernel_rfl) (by simp [Value.oneCell']) hh1.out ?_
    replace hS := Lib.hid (show w7r.heap[q]? = some (.cells #[.int .i64 kd, .int .i64 o0, .int .i64 o1, .int .i64 o2, .int .i64 o3, .int .i64 o4, .int .i64 o5, .int .u32 wa, .int .u32 to, .slice A n c, .slice B m d] 29) ∧ w7r.heap[q + 1]? = some (.cells #[.int .i64 op, .int .i64 stage, .int .i64 2, .int .i64 o0, .int .i64 since, .int .i64 left, .bool awoke, .bool starve, .int .i64 need, .bool front] 31) from ⟨HF1.out.blk 0 _ rfl, HF1.out.blk 1 _ rfl⟩)
    refine Shut.out hK _ _ hS (fun _ => ?_)
    clear hK K
    try simp only [Act.put, List.setIfInBounds_toArray, List.set_cons_zero, List.set_cons_succ]
    refine wpAnyH_ready (rs := [4]) (by kernel_rfl) (by simp) (AllReadyH.cons (o := ⟨none, .store 31 (.tmp 9) (.tmp 53), 0, "ref.go:47", #[⟨1, .data⟩, ⟨3, .chain⟩, ⟨0, .phase⟩, ⟨1, .phase⟩, ⟨2, .textOnly .lateStores⟩, ⟨3, .phase⟩], none⟩) rfl (fun K hK => ?_) AllReadyH.nil)
    refine op_storeS (by rfl) rfl rfl rfl (there_blk (HF1.out.blk 3 _ rfl) rfl) (by kernel_rfl) (by simp [Value.oneCell']) hh2.out ?_
    replace hS := Lib.hid (show w8r.heap[q]? = some (.cells #[.int .i64 kd, .int .i64 o0, .int .i64 o1, .int .i64 o2, .int .i64 o3, .int .i64 o4, .int .i64 o5, .int .u32 wa, .int .u32 to, .slice A n c, .slice B m d] 29) ∧ w8r.heap[q + 1]? = some (.cells #[.int .i64 op, .int .i64 stage, .int .i64 2, .int .i64 o0, .int .i64 since, .int .i64 left, .bool awoke, .bool starve, .int .i64 need, .bool front] 31) from ⟨HF2.out.blk 0 _ rfl, HF2.out.blk 1 _ rfl⟩)
    refine Shut.out hK _ _ hS (fun _ => ?_)
    clear hK K
    try simp only [Act.put, List.setIfInBounds_toArray, List.set_cons_zero, List.set_cons_succ]
    refine wpAnyH_ready (rs := [5]) (by kernel_rfl) (by simp) (AllReadyH.cons (o := ⟨none, .store 39 (.tmp 10) (.tmp 54), 0, "ref.go:47", #[⟨2, .data⟩, ⟨4, .chain⟩, ⟨0, .phase⟩, ⟨1, .phase⟩, ⟨2, .phase⟩, ⟨3, .phase⟩, ⟨4, .phase⟩], none⟩) rfl (fun K hK => ?_) AllReadyH.nil)
    refine op_storeS (by rfl) rfl rfl rfl (there_blk (HF2.out.blk 4 _ rfl) rfl) (by kernel_rfl) (by simp [Value.oneCell']) hh3.out ?_
    replace hS := Lib.hid (show w9r.heap[q]? = some (.cells #[.int .i64 kd, .int .i64 o0, .int .i64 o1, .int .i64 o2, .int .i64 o3, .int .i64 o4, .int .i64 o5, .int .u32 wa, .int .u32 to, .slice A n c, .slice B m d] 29) ∧ w9r.heap[q + 1]? = some (.cells #[.int .i64 op, .int .i64 stage, .int .i64 2, .int .i64 o0, .int .i64 since, .int .i64 left, .bool awoke, .bool starve, .int .i64 need, .bool front] 31) from ⟨HF3.out.blk 0 _ rfl, HF3.out.blk 1 _ rfl⟩)
    refine Shut.out hK _ _ hS (fun _ => ?_)
    clear hK K
    try simp only [Act.put, List.setIfInBounds_toArray, List.set_cons_zero, List.set_cons_succ]
    refine wpAnyH_done (by kernel_rfl) ?_ _
    refine NoPanic.normal ?_
    go_wp2
    refine bodyPost_ret (res_ccc Try.results11 (by rfl) (by rfl) (by rfl) (HF3.out.load 2 rfl rfl Try.underlying29 (by kernel_rfl)) (HF3.out.load 3 rfl rfl Try.underlying31 (by kernel_rfl)) (HF3.out.load 4 rfl rfl Try.underlying39 (by kernel_rfl))) rfl ?_
    replace FR := HF3
    rw [HE.out]
    exact ⟨rfl, FR.out.out⟩
  have n1 : (phase == 1) = false := by simp [p1]
  by_cases p2 : phase = 2
  · subst p2
    by_cases h0 : o0 = old
    rotate_left
    · have b0 : (o0 != old) = true := by simp [h0]
      have HE := Lib.hid (show lockM o0 ⟨op, stage, 2, old, since, left, awoke, starve, need, front⟩ now pat = (o0, ⟨op, stage, 1, old, since, left, awoke, starve, need, front⟩, noA) from by
        unfold lockM
        rw [if_neg (fun h => absurd (show (2 : Int) = 0 from h.1) (by decide)), if_pos (Or.inr ⟨rfl, h0⟩)])
      clear h0 p0 p1 n0 n1
      go_enter Try.func11, Try.ntmps11
      obtain ⟨ac00, ac01, ac02, ac03, ac04, ac05, ac06, ac07, ac08, ac09, ac010⟩ := row11 (b := q) (FR.out.at 0 rfl rfl)
      obtain ⟨ac10, ac11, ac12, ac13, ac14, ac15, ac16, ac17, ac18, ac19⟩ := row10 (b := q + 1) (FR.out.at 1 rfl rfl)
      have af12 : v5.frozen? ⟨q + 1, 2, none⟩ = false := FR.out.frozen 1 2 rfl rfl
      obtain ⟨w6p, hw6p⟩ : ∃ W, (v5.setCell ⟨q + 1, 2, none⟩ (.int .i64 1)) = W := ⟨_, rfl⟩
      replace FR := Lib.hid (((FR.out.set 1 2 rfl rfl (.int .i64 1))).eqw hw6p)
      obtain ⟨bc00, bc01, bc02, bc03, bc04, bc05, bc06, bc07, bc08, bc09, bc010⟩ := row11 (b := q) (FR.out.at 0 rfl rfl)
      obtain ⟨bc10, bc11, bc12, bc13, bc14, bc15, bc16, bc17, bc18, bc19⟩ := row10 (b := q + 1) (FR.out.at 1 rfl rfl)
      go_wp2
      clear ac00 ac01 ac02 ac03 ac04 ac05 ac06 ac07 ac08 ac09 ac010 ac10 ac11 ac12 ac13 ac14 ac15 ac16 ac17 ac18 ac19 af12 bc00 bc01 bc02 bc03 bc04 bc05 bc06 bc07 bc08 bc09 bc010 bc10 bc11 bc12 bc13 bc14 bc15 bc16 bc17 bc18 bc19
      have HF0 := Lib.hid FR.out.drew
      obtain ⟨w7r, hw7r⟩ : ∃ W, w6p.drew.setCells (q + 2) 0 [.int .i64 kd, .int .i64 o0, .int .i64 o1, .int .i64 o2, .int .i64 o3, .int .i64 o4, .int .i64 o5, .int .u32 wa, .int .u32 to, .slice A n c, .slice B m d] = W := ⟨_, rfl⟩
      have HF1 := Lib.hid ((HF0.out.all 2 rfl rfl (by rfl)).eqw hw7r)
      have hh1 := Lib.hid hw7r
      clear hw7r
      obtain ⟨w8r, hw8r⟩ : ∃ W, w7r.setCells (q + 3) 0 [.int .i64 op, .int .i64 stage, .int .i64 1, .int .i64 old, .int .i64 since, .int .i64 left, .bool awoke, .bool starve, .int .i64 need, .bool front] = W := ⟨_, rfl⟩
      have HF2 := Lib.hid ((HF1.out.all 3 rfl rfl (by rfl)).eqw hw8r)
      have hh2 := Lib.hid hw8r
      clear hw8r
      obtain ⟨w9r, hw9r⟩ : ∃ W, w8r.setCells (q + 4) 0 [.bool false, .bool false, .bool false, .int .i64 0, .int .i64 0, .int .u64 0, .slice none 0 0] = W := ⟨_, rfl⟩
      have HF3 := Lib.hid ((HF2.out.all 4 rfl rfl (by rfl)).eqw hw9r)
      have hh3 := Lib.hid hw9r
      clear hw9r
      refine wp_region_noPanic ?_
      refine wp_region_held_drew (S := (fun wv => Hid (wv.heap[q]? = some (.cells #[.int .i64 kd, .int .i64 o0, .int .i64 o1, .int .i64 o2, .int .i64 o3, .int .i64 o4, .int .i64 o5, .int .u32 wa, .int .u32 to, .slice A n c, .slice B m d] 29) ∧ wv.heap[q + 1]? = some (.cells #[.int .i64 op, .int .i64 stage, .int .i64 1, .int .i64 old, .int .i64 since, .int .i64 left, .bool awoke, .bool starve, .int .i64 need, .bool front] 31)))) (by kernel_rfl) (Lib.hid (show w6p.drew.heap[q]? = some (.cells #[.int .i64 kd, .int .i64 o0, .int .i64 o1, .int .i64 o2, .int .i64 o3, .int .i64 o4, .int .i64 o5, .int .u32 wa, .int .u32 to, .slice A n c, .slice B m d] 29) ∧ w6p.drew.heap[q + 1]? = some (.cells #[.int .i64 op, .int .i64 stage, .int .i64 1, .int .i64 old, .int .i64 since, .int .i64 left, .bool awoke, .bool starve, .int .i64 need, .bool front] 31) from ⟨HF0.out.blk 0 _ rfl, HF0.out.blk 1 _ rfl⟩)) (fun hS => ?_)
      refine wpAnyH_take (i := 0) (oi := ⟨some 43, .load 29 (.tmp 4), 29, "ref.go:43", #[], none⟩) (v := .agg (([.int .i64 kd, .int .i64 o0, .int .i64 o1, .int .i64 o2, .int .i64 o3, .int .i64 o4, .int .i64 o5, .int .u32 wa, .int .u32 to, .slice A n c, .slice B m d] : List Value)).toArray) rfl (by kernel_rfl) (by kernel_rfl) (by kernel_rfl) (fun _ _ _ h => h) (yieldsIf_load_mid (by rfl) _ _ (by rfl) (q) (0) (by rfl) (([.int .i64 kd, .int .i64 o0, .int .i64 o1, .int .i64 o2, .int .i64 o3, .int .i64 o4, .int .i64 o5, .int .u32 wa, .int .u32 to, .slice A n c, .slice B m d] : List Value)) _ (fun wv hS => blk_rngl hS.out.1) Try.underlying29 (by rfl) (by kernel_rfl)) hS ?_
      try simp only [Act.put, List.setIfInBounds_toArray, List.set_cons_zero, List.set_cons_succ]
      refine wpAnyH_take (i := 1) (oi := ⟨some 44, .load 31 (.tmp 5), 31, "ref.go:43", #[⟨3, .gcOnly .lateStores⟩], none⟩) (v := .agg (([.int .i64 op, .int .i64 stage, .int .i64 1, .int .i64 old, .int .i64 since, .int .i64 left, .bool awoke, .bool starve, .int .i64 need, .bool front] : List Value)).toArray) rfl (by kernel_rfl) (by kernel_rfl) (by kernel_rfl) (fun _ _ _ h => h) (yieldsIf_load_mid (by rfl) _ _ (by rfl) (q + 1) (0) (by rfl) (([.int .i64 op, .int .i64 stage, .int .i64 1, .int .i64 old, .int .i64 since, .int .i64 left, .bool awoke, .bool starve, .int .i64 need, .bool front] : List Value)) _ (fun wv hS => blk_rngl hS.out.2) Try.underlying31 (by rfl) (by kernel_rfl)) hS ?_
      try simp only [Act.put, List.setIfInBounds_toArray, List.set_cons_zero, List.set_cons_succ]
      refine wpAnyH_take (i := 2) (oi := ⟨some 45, .build 39 #[], 39, "ref.go:43", #[⟨4, .gcOnly .lateStores⟩], none⟩) (v := ?_) rfl (by kernel_rfl) (by kernel_rfl) (by kernel_rfl) (fun _ _ _ h => h) (Or.inl ⟨by rfl, ?_⟩) hS ?_
      rotate_left
      · intro wv _; go_simp; try with_reducible rfl
      try simp only [Act.put, List.setIfInBounds_toArray, List.set_cons_zero, List.set_cons_succ]
      refine wpAnyH_ready (rs := [3]) (by kernel_rfl) (by simp) (AllReadyH.cons (o := ⟨none, .store 29 (.tmp 8) (.tmp 43), 0, "ref.go:43", #[⟨0, .data⟩, ⟨0, .phase⟩, ⟨1, .textOnly .lateStores⟩, ⟨2, .textOnly .lateStores⟩], none⟩) rfl (fun K hK => ?_) AllReadyH.nil)
      refine op_storeS (by rfl) rfl rfl rfl (there_blk (HF0.out.blk 2 _ rfl) rfl) (by kernel_rfl) (by simp [Value.oneCell']) hh1.out ?_
      replace hS := Lib.hid (show w7r.heap[q]? = some (.cells #[.int .i64 kd, .int .i64 o0, .int .i64 o1, .int .i64 o2, .int .i64 o3, .int .i64 o4, .int .i64 o5, .int .u32 wa, .int .u32 to, .slice A n c, .slice B m d] 29) ∧ w7r.heap[q + 1]? = some (.cells #[.int .i64 op, .int .i64 stage, .int .i64 1, .int .i64 old, .int .i64 since, .int .i64 left, .bool awoke, .bool starve, .int .i64 need, .bool front] 31) from ⟨HF1.out.blk 0 _ rfl, HF1.out.blk 1 _ rfl⟩)
      refine Shut.out hK _ _ hS (fun _ => ?_)
      clear hK K
      try simp only [Act.put, List.setIfInBounds_toArray, List.set_cons_zero, List.set_cons_succ]
      refine wpAnyH_ready (rs := [4]) (by kernel_rfl) (by simp) (AllReadyH.cons (o := ⟨none, .store 31 (.tmp 9) (.tmp 44), 0, "ref.go:43", #[⟨1, .data⟩, ⟨3, .chain⟩, ⟨0, .phase⟩, ⟨1, .phase⟩, ⟨2, .textOnly .lateStores⟩, ⟨3, .phase⟩], none⟩) rfl (fun K hK => ?_) AllReadyH.nil)
      refine op_storeS (by rfl) rfl rfl rfl (there_blk (HF1.out.blk 3 _ rfl) rfl) (by kernel_rfl) (by simp [Value.oneCell']) hh2.out ?_
      replace hS := Lib.hid (show w8r.heap[q]? = some (.cells #[.int .i64 kd, .int .i64 o0, .int .i64 o1, .int .i64 o2, .int .i64 o3, .int .i64 o4, .int .i64 o5, .int .u32 wa, .int .u32 to, .slice A n c, .slice B m d] 29) ∧ w8r.heap[q + 1]? = some (.cells #[.int .i64 op, .int .i64 stage, .int .i64 1, .int .i64 old, .int .i64 since, .int .i64 left, .bool awoke, .bool starve, .int .i64 need, .bool front] 31) from ⟨HF2.out.blk 0 _ rfl, HF2.out.blk 1 _ rfl⟩)
      refine Shut.out hK _ _ hS (fun _ => ?_)
      clear hK K
      try simp only [Act.put, List.setIfInBounds_toArray, List.set_cons_zero, List.set_cons_succ]
      refine wpAnyH_ready (rs := [5]) (by kernel_rfl) (by simp) (AllReadyH.cons (o := ⟨none, .store 39 (.tmp 10) (.tmp 45), 0, "ref.go:43", #[⟨2, .data⟩, ⟨4, .chain⟩, ⟨0, .phase⟩, ⟨1, .phase⟩, ⟨2, .phase⟩, ⟨3, .phase⟩, ⟨4, .phase⟩], none⟩) rfl (fun K hK => ?_) AllReadyH.nil)
      refine op_storeS (by rfl) rfl rfl rfl (there_blk (HF2.out.blk 4 _ rfl) rfl) (by kernel_rfl) (by simp [Value.oneCell']) hh3.out ?_
      replace hS := Lib.hid (show w9r.heap[q]? = some (.cells #[.int .i64 kd, .int .i64 o0, .int .i64 o1, .int .i64 o2, .int .i64 o3, .int .i64 o4, .int .i64 o5, .int .u32 wa, .int .u32 to, .slice A n c, .slice B m d] 29) ∧ w9r.heap[q + 1]? = some (.cells #[.int .i64 op, .int .i64 stage, .int .i64 1, .int .i64 old, .int .i64 since, .int .i64 left, .bool awoke, .bool starve, .int .i64 need, .bool front] 31) from ⟨HF3.out.blk 0 _ rfl, HF3.out.blk 1 _ rfl⟩)
      refine Shut.out hK _ _ hS (fun _ => ?_)
      clear hK K
      try simp only [Act.put, List.setIfInBounds_toArray, List.set_cons_zero, List.set_cons_succ]
      refine wpAnyH_done (by kernel_rfl) ?_ _
      refine NoPanic.normal ?_
      go_wp2
      refine bodyPost_ret (res_ccc Try.results11 (by rfl) (by rfl) (by rfl) (HF3.out.load 2 rfl rfl Try.underlying29 (by kernel_rfl)) (HF3.out.load 3 rfl rfl Try.underlying31 (by kernel_rfl)) (HF3.out.load 4 rfl rfl Try.underlying39 (by kernel_rfl))) rfl ?_
      replace FR := HF3
      rw [HE.out]
      exact ⟨rfl, FR.out.out⟩
    have b0 : (o0 != old) = false := by simp [h0]
    have HO : lockM o0 ⟨op, stage, 2, old, since, left, awoke, starve, need, front⟩ now pat = (if ¬ hasBit old 0 ∧ ¬ hasBit old 2 then (stateM ⟨op, stage, 2, old, since, left, awoke, starve, need, front⟩, noF, doneA) else (stateM ⟨op, stage, 2, old, since, left, awoke, starve, need, front⟩, ⟨op, stage, 3, old, if since < 0 then now else since, left, awoke, starve, 2, decide (0 ≤ since)⟩, noA)) := by
      unfold lockM
      rw [if_neg (fun h => absurd (show (2 : Int) = 0 from h.1) (by decide)), if_neg (fun h => by rcases h with h | h; exact absurd (show (2 : Int) = 0 from h) (by decide); exact h.2 h0), if_neg (fun h => absurd (show (2 : Int) = 1 from h) (by decide)), if_pos rfl]
    have ST := fun (W : World) => state15_any ⟨op, stage, 2, old, since, left, awoke, starve, need, front⟩ W
    obtain ⟨z, hz⟩ : ∃ z, stateM ⟨op, stage, 2, old, since, left, awoke, starve, need, front⟩ = z := ⟨_, rfl⟩
    rw [hz] at ST HO
    unfold frV frC at ST
    simp only at ST
    replace ST := Lib.hid ST
    have B0 := fun (W : World) => bit15_any old 0 (by omega) W
    have B2 := fun (W : World) => bit15_any old 2 (by omega) W
    clear hz p0 p1 n0 n1 h0
    cases hb0 : decide (hasBit old 0)
    · rw [hb0] at B0
      replace B0 := Lib.hid B0
      cases hb2 : decide (hasBit old 2)
      · rw [hb2] at B2
        replace B2 := Lib.hid B2
        have HE := Lib.hid (show lockM o0 ⟨op, stage, 2, old, since, left, awoke, starve, need, front⟩ now pat = (z, noF, doneA) from HO.trans (if_pos ⟨of_decide_eq_false hb0, of_decide_eq_false hb2⟩))
        clear HO hb0 hb2
        go_enter Try.func11, Try.ntmps11
        obtain ⟨ac00, ac01, ac02, ac03, ac04, ac05, ac06, ac07, ac08, ac09, ac010⟩ := row11 (b := q) (FR.out.at 0 rfl rfl)
        obtain ⟨ac10, ac11, ac12, ac13, ac14, ac15, ac16, ac17, ac18, ac19⟩ := row10 (b := q + 1) (FR.out.at 1 rfl rfl)
        go_wp2_with fail
        refine (ST.out _).mono ?_
        rintro e ws ⟨rfl, hb⟩
        clear ac00 ac01 ac02 ac03 ac04 ac05 ac06 ac07 ac08 ac09 ac010 ac10 ac11 ac12 ac13 ac14 ac15 ac16 ac17 ac18 ac19
        replace FR := Lib.hid (FR.out.step hb)
        clear hb hv1 hv2 hv3 hv4 hv5 z1 z2 z3 z4 z5
        obtain ⟨ac00, ac01, ac02, ac03, ac04, ac05, ac06, ac07, ac08, ac09, ac010⟩ := row11 (b := q) (FR.out.at 0 rfl rfl)
        have af01 : ws.frozen? ⟨q, 1, none⟩ = false := FR.out.frozen 0 1 rfl rfl
        obtain ⟨ac10, ac11, ac12, ac13, ac14, ac15, ac16, ac17, ac18, ac19⟩ := row10 (b := q + 1) (FR.out.at 1 rfl rfl)
        obtain ⟨w6p, hw6p⟩ : ∃ W, (ws.setCell ⟨q, 1, none⟩ (.int .i64 z)) = W := ⟨_, rfl⟩
        replace FR := Lib.hid (((FR.out.set 0 1 rfl rfl (.int .i64 z))).eqw hw6p)
        obtain ⟨bc00, bc01, bc02, bc03, bc04, bc05, bc06, bc07, bc08, bc09, bc010⟩ := row11 (b := q) (FR.out.at 0 rfl rfl)
        obtain ⟨bc10, bc11, bc12, bc13, bc14, bc15, bc16, bc17, bc18, bc19⟩ := row10 (b := q + 1) (FR.out.at 1 rfl rfl)
        go_wp2_with fail
        refine (B0.out _).mono ?_
        rintro e wz ⟨rfl, hw⟩
        obtain rfl := hw.symm
        go_wp2_with fail
        refine (B2.out _).mono ?_
        rintro e wz ⟨rfl, hw⟩
        obtain rfl := hw.symm
        clear ac00 ac01 ac02 ac03 ac04 ac05 ac06 ac07 ac08 ac09 ac010 af01 ac10 ac11 ac12 ac13 ac14 ac15 ac16 ac17 ac18 ac19 bc00 bc01 bc02 bc03 bc04 bc05 bc06 bc07 bc08 bc09 bc010 bc10 bc11 bc12 bc13 bc14 bc15 bc16 bc17 bc18 bc19
        obtain ⟨ac00, ac01, ac02, ac03, ac04, ac05, ac06, ac07, ac08, ac09, ac010⟩ := row11 (b := q) (FR.out.at 0 rfl rfl)
        obtain ⟨mc20, mc21, mc22, mc23, mc24, mc25, mc26, mc27, mc28, mc29, mc210⟩ := row11 (b := q + 2) (FR.out.at 2 rfl rfl)
        obtain ⟨mf20, mf21, mf22, mf23, mf24, mf25, mf26, mf27, mf28, mf29, mf210⟩ := frz11 (b := q + 2) (FR.out.at 2 rfl rfl)
        obtain ⟨w7r, hw7r⟩ : ∃ W, (((((((((((w6p.setCell ⟨q + 2, 0, none⟩ (.int .i64 kd)).setCell ⟨q + 2, 1, none⟩ (.int .i64 z)).setCell ⟨q + 2, 2, none⟩ (.int .i64 o1)).setCell ⟨q + 2, 3, none⟩ (.int .i64 o2)).setCell ⟨q + 2, 4, none⟩ (.int .i64 o3)).setCell ⟨q + 2, 5, none⟩ (.int .i64 o4)).setCell ⟨q + 2, 6, none⟩ (.int .i64 o5)).setCell ⟨q + 2, 7, none⟩ (.int .u32 wa)).setCell ⟨q + 2, 8, none⟩ (.int .u32 to)).setCell ⟨q + 2, 9, none⟩ (.slice A n c)).setCell ⟨q + 2, 10, none⟩ (.slice B m d)) = W := ⟨_, rfl⟩
        replace FR := Lib.hid ((FR.out.all 2 (vs := [.int .i64 kd, .int .i64 z, .int .i64 o1, .int .i64 o2, .int .i64 o3, .int .i64 o4, .int .i64 o5, .int .u32 wa, .int .u32 to, .slice A n c, .slice B m d]) rfl rfl rfl).eqw hw7r)
        obtain ⟨nc30, nc31, nc32, nc33, nc34, nc35, nc36, nc37, nc38, nc39⟩ := row10 (b := q + 3) (FR.out.at 3 rfl rfl)
        obtain ⟨nf30, nf31, nf32, nf33, nf34, nf35, nf36, nf37, nf38, nf39⟩ := frz10 (b := q + 3) (FR.out.at 3 rfl rfl)
        obtain ⟨w8r, hw8r⟩ : ∃ W, ((((((((((w7r.setCell ⟨q + 3, 0, none⟩ (.int .i64 0)).setCell ⟨q + 3, 1, none⟩ (.int .i64 0)).setCell ⟨q + 3, 2, none⟩ (.int .i64 0)).setCell ⟨q + 3, 3, none⟩ (.int .i64 0)).setCell ⟨q + 3, 4, none⟩ (.int .i64 0)).setCell ⟨q + 3, 5, none⟩ (.int .i64 0)).setCell ⟨q + 3, 6, none⟩ (.bool false)).setCell ⟨q + 3, 7, none⟩ (.bool false)).setCell ⟨q + 3, 8, none⟩ (.int .i64 0)).setCell ⟨q + 3, 9, none⟩ (.bool false)) = W := ⟨_, rfl⟩
        replace FR := Lib.hid ((FR.out.all 3 (vs := [.int .i64 0, .int .i64 0, .int .i64 0, .int .i64 0, .int .i64 0, .int .i64 0, .bool false, .bool false, .int .i64 0, .bool false]) rfl rfl rfl).eqw hw8r)
        obtain ⟨oc40, oc41, oc42, oc43, oc44, oc45, oc46⟩ := row7 (b := q + 4) (FR.out.at 4 rfl rfl)
        obtain ⟨of40, of41, of42, of43, of44, of45, of46⟩ := frz7 (b := q + 4) (FR.out.at 4 rfl rfl)
        obtain ⟨w9r, hw9r⟩ : ∃ W, (((((((w8r.setCell ⟨q + 4, 0, none⟩ (.bool true)).setCell ⟨q + 4, 1, none⟩ (.bool false)).setCell ⟨q + 4, 2, none⟩ (.bool false)).setCell ⟨q + 4, 3, none⟩ (.int .i64 0)).setCell ⟨q + 4, 4, none⟩ (.int .i64 0)).setCell ⟨q + 4, 5, none⟩ (.int .u64 0)).setCell ⟨q + 4, 6, none⟩ (.slice none 0 0)) = W := ⟨_, rfl⟩
        replace FR := Lib.hid ((FR.out.all 4 (vs := [.bool true, .bool false, .bool false, .int .i64 0, .int .i64 0, .int .u64 0, .slice none 0 0]) rfl rfl rfl).eqw hw9r)
        go_wp2
        refine bodyPost_ret (res_ccc Try.results11 (by rfl) (by rfl) (by rfl) (FR.out.load 2 rfl rfl Try.underlying29 (by kernel_rfl)) (FR.out.load 3 rfl rfl Try.underlying31 (by kernel_rfl)) (FR.out.load 4 rfl rfl Try.underlying39 (by kernel_rfl))) rfl ?_
        rw [HE.out]
        exact ⟨rfl, FR.out.out⟩
      · rw [hb2] at B2
        replace B2 := Lib.hid B2
        by_cases hsn : 0 ≤ since
        · have s0 : decide (0 ≤ since) = true := by simpa using hsn
          have s1 : decide (since < 0) = false := by simp; omega
          have HE := Lib.hid (show lockM o0 ⟨op, stage, 2, old, since, left, awoke, starve, need, front⟩ now pat = (z, ⟨op, stage, 3, old, since, left, awoke, starve, 2, true⟩, noA) from HO.trans ((if_neg (fun h => h.2 (of_decide_eq_true hb2))).trans (by rw [s0, if_neg (by omega)])))
          clear HO hsn hb0 hb2
          go_enter Try.func11, Try.ntmps11
          obtain ⟨ac00, ac01, ac02, ac03, ac04, ac05, ac06, ac07, ac08, ac09, ac010⟩ := row11 (b := q) (FR.out.at 0 rfl rfl)
          obtain ⟨ac10, ac11, ac12, ac13, ac14, ac15, ac16, ac17, ac18, ac19⟩ := row10 (b := q + 1) (FR.out.at 1 rfl rfl)
          go_wp2_with fail
          refine (ST.out _).mono ?_
          rintro e ws ⟨rfl, hb⟩
          clear ac00 ac01 ac02 ac03 ac04 ac05 ac06 ac07 ac08 ac09 ac010 ac10 ac11 ac12 ac13 ac14 ac15 ac16 ac17 ac18 ac19
          replace FR := Lib.hid (FR.out.step hb)
          clear hb hv1 hv2 hv3 hv4 hv5 z1 z2 z3 z4 z5
          obtain ⟨ac00, ac01, ac02, ac03, ac04, ac05, ac06, ac07, ac08, ac09, ac010⟩ := row11 (b := q) (FR.out.at 0 rfl rfl)
          have af01 : ws.frozen? ⟨q, 1, none⟩ = false := FR.out.frozen 0 1 rfl rfl
          obtain ⟨ac10, ac11, ac12, ac13, ac14, ac15, ac16, ac17, ac18, ac19⟩ := row10 (b := q + 1) (FR.out.at 1 rfl rfl)
          obtain ⟨w6p, hw6p⟩ : ∃ W, (ws.setCell ⟨q, 1, none⟩ (.int .i64 z)) = W := ⟨_, rfl⟩
          replace FR := Lib.hid (((FR.out.set 0 1 rfl rfl (.int .i64 z))).eqw hw6p)
          obtain ⟨bc00, bc01, bc02, bc03, bc04, bc05, bc06, bc07, bc08, bc09, bc010⟩ := row11 (b := q) (FR.out.at 0 rfl rfl)
          obtain ⟨bc10, bc11, bc12, bc13, bc14, bc15, bc16, bc17, bc18, bc19⟩ := row10 (b := q + 1) (FR.out.at 1 rfl rfl)
          go_wp2_with fail
          refine (B0.out _).mono ?_
          rintro e wz ⟨rfl, hw⟩
          obtain rfl := hw.symm
          go_wp2_with fail
          refine (B2.out _).mono ?_
          rintro e wz ⟨rfl, hw⟩
          obtain rfl := hw.symm
          clear ac00 ac01 ac02 ac03 ac04 ac05 ac06 ac07 ac08 ac09 ac010 af01 ac10 ac11 ac12 ac13 ac14 ac15 ac16 ac17 ac18 ac19 bc00 bc01 bc02 bc03 bc04 bc05 bc06 bc07 bc08 bc09 bc010 bc10 bc11 bc12 bc13 bc14 bc15 bc16 bc17 bc18 bc19
          obtain ⟨ac00, ac01, ac02, ac03, ac04, ac05, ac06, ac07, ac08, ac09, ac010⟩ := row11 (b := q) (FR.out.at 0 rfl rfl)
          obtain ⟨ac10, ac11, ac12, ac13, ac14, ac15, ac16, ac17, ac18, ac19⟩ := row10 (b := q + 1) (FR.out.at 1 rfl rfl)
          have af12 : w6p.frozen? ⟨q + 1, 2, none⟩ = false := FR.out.frozen 1 2 rfl rfl
          have af18 : w6p.frozen? ⟨q + 1, 8, none⟩ = false := FR.out.frozen 1 8 rfl rfl
          have af19 : w6p.frozen? ⟨q + 1, 9, none⟩ = false := FR.out.frozen 1 9 rfl rfl
          obtain ⟨w7p, hw7p⟩ : ∃ W, (((w6p.setCell ⟨q + 1, 9, none⟩ (.bool true)).setCell ⟨q + 1, 8, none⟩ (.int .i64 2)).setCell ⟨q + 1, 2, none⟩ (.int .i64 3)) = W := ⟨_, rfl⟩
          replace FR := Lib.hid (((((FR.out.set 1 9 rfl rfl (.bool true)).set 1 8 rfl rfl (.int .i64 2)).set 1 2 rfl rfl (.int .i64 3))).eqw hw7p)
          obtain ⟨bc00, bc01, bc02, bc03, bc04, bc05, bc06, bc07, bc08, bc09, bc010⟩ := row11 (b := q) (FR.out.at 0 rfl rfl)
          obtain ⟨bc10, bc11, bc12, bc13, bc14, bc15, bc16, bc17, bc18, bc19⟩ := row10 (b := q + 1) (FR.out.at 1 rfl rfl)
          go_wp2
          clear ac00 ac01 ac02 ac03 ac04 ac05 ac06 ac07 ac08 ac09 ac010 ac10 ac11 ac12 ac13 ac14 ac15 ac16 ac17 ac18 ac19 af12 af18 af19 bc00 bc01 bc02 bc03 bc04 bc05 bc06 bc07 bc08 bc09 bc010 bc10 bc11 bc12 bc13 bc14 bc15 bc16 bc17 bc18 bc19
          have HF0 := Lib.hid FR.out.drew
          obtain ⟨w8r, hw8r⟩ : ∃ W, w7p.drew.setCells (q + 2) 0 [.int .i64 kd, .int .i64 z, .int .i64 o1, .int .i64 o2, .int .i64 o3, .int .i64 o4, .int .i64 o5, .int .u32 wa, .int .u32 to, .slice A n c, .slice B m d] = W := ⟨_, rfl⟩
          have HF1 := Lib.hid ((HF0.out.all 2 rfl rfl (by rfl)).eqw hw8r)
          have hh1 := Lib.hid hw8r
          clear hw8r
          obtain ⟨w9r, hw9r⟩ : ∃ W, w8r.setCells (q + 3) 0 [.int .i64 op, .int .i64 stage, .int .i64 3, .int .i64 old, .int .i64 since, .int .i64 left, .bool awoke, .bool starve, .int .i64 2, .bool true] = W := ⟨_, rfl⟩
          have HF2 := Lib.hid ((HF1.out.all 3 rfl rfl (by rfl)).eqw hw9r)
          have hh2 := Lib.hid hw9r
          clear hw9r
          obtain ⟨w10r, hw10r⟩ : ∃ W, w9r.setCells (q + 4) 0 [.bool false, .bool false, .bool false, .int .i64 0, .int .i64 0, .int .u64 0, .slice none 0 0] = W := ⟨_, rfl⟩
          have HF3 := Lib.hid ((HF2.out.all 4 rfl rfl (by rfl)).eqw hw10r)
          have hh3 := Lib.hid hw10r
          clear hw10r
          refine wp_region_noPanic ?_
          refine wp_region_held_drew (S := (fun wv => Hid (wv.heap[q]? = some (.cells #[.int .i64 kd, .int .i64 z, .int .i64 o1, .int .i64 o2, .int .i64 o3, .int .i64 o4, .int .i64 o5, .int .u32 wa, .int .u32 to, .slice A n c, .slice B m d] 29) ∧ wv.heap[q + 1]? = some (.cells #[.int .i64 op, .int .i64 stage, .int .i64 3, .int .i64 old, .int .i64 since, .int .i64 left, .bool awoke, .bool starve, .int .i64 2, .bool true] 31)))) (by kernel_rfl) (Lib.hid (show w7p.drew.heap[q]? = some (.cells #[.int .i64 kd, .int .i64 z, .int .i64 o1, .int .i64 o2, .int .i64 o3, .int .i64 o4, .int .i64 o5, .int .u32 wa, .int .u32 to, .slice A n c, .slice B m d] 29) ∧ w7p.drew.heap[q + 1]? = some (.cells #[.int .i64 op, .int .i64 stage, .int .i64 3, .int .i64 old, .int .i64 since, .int .i64 left, .bool awoke, .bool starve, .int .i64 2, .bool true] 31) from ⟨HF0.out.blk 0 _ rfl, HF0.out.blk 1 _ rfl⟩)) (fun hS => ?_)
          refine wpAnyH_take (i := 0) (oi := ⟨some 86, .load 29 (.tmp 4), 29, "ref.go:59", #[], none⟩) (v := .agg (([.int .i64 kd, .int .i64 z, .int .i64 o1, .int .i64 o2, .int .i64 o3, .int .i64 o4, .int .i64 o5, .int .u32 wa, .int .u32 to, .slice A n c, .slice B m d] : List Value)).toArray) rfl (by kernel_rfl) (by kernel_rfl) (by kernel_rfl) (fun _ _ _ h => h) (yieldsIf_load_mid (by rfl) _ _ (by rfl) (q) (0) (by rfl) (([.int .i64 kd, .int .i64 z, .int .i64 o1, .int .i64 o2, .int .i64 o3, .int .i64 o4, .int .i64 o5, .int .u32 wa, .int .u32 to, .slice A n c, .slice B m d] : List Value)) _ (fun wv hS => blk_rngl hS.out.1) Try.underlying29 (by rfl) (by kernel_rfl)) hS ?_
          try simp only [Act.put, List.setIfInBounds_toArray, List.set_cons_zero, List.set_cons_succ]
          refine wpAnyH_take (i := 1) (oi := ⟨some 87, .load 31 (.tmp 5), 31, "ref.go:59", #[⟨3, .gcOnly .lateStores⟩], none⟩) (v := .agg (([.int .i64 op, .int .i64 stage, .int .i64 3, .int .i64 old, .int .i64 since, .int .i64 left, .bool awoke, .bool starve, .int .i64 2, .bool true] : List Value)).toArray) rfl (by kernel_rfl) (by kernel_rfl) (by kernel_rfl) (fun _ _ _ h => h) (yieldsIf_load_mid (by rfl) _ _ (by rfl) (q + 1) (0) (by rfl) (([.int .i64 op, .int .i64 stage, .int .i64 3, .int .i64 old, .int .i64 since, .int .i64 left, .bool awoke, .bool starve, .int .i64 2, .bool true] : List Value)) _ (fun wv hS => blk_rngl hS.out.2) Try.underlying31 (by rfl) (by kernel_rfl)) hS ?_
          try simp only [Act.put, List.setIfInBounds_toArray, List.set_cons_zero, List.set_cons_succ]
          refine wpAnyH_take (i := 2) (oi := ⟨some 88, .build 39 #[], 39, "ref.go:59", #[⟨4, .gcOnly .lateStores⟩], none⟩) (v := ?_) rfl (by kernel_rfl) (by kernel_rfl) (by kernel_rfl) (fun _ _ _ h => h) (Or.inl ⟨by rfl, ?_⟩) hS ?_
          rotate_left
          · intro wv _; go_simp; try with_reducible rfl
          try simp only [Act.put, List.setIfInBounds_toArray, List.set_cons_zero, List.set_cons_succ]
          refine wpAnyH_ready (rs := [3]) (by kernel_rfl) (by simp) (AllReadyH.cons (o := ⟨none, .store 29 (.tmp 8) (.tmp 86), 0, "ref.go:59", #[⟨0, .data⟩, ⟨0, .phase⟩, ⟨1, .textOnly .lateStores⟩, ⟨2, .textOnly .lateStores⟩], none⟩) rfl (fun K hK => ?_) AllReadyH.nil)
          refine op_storeS (by rfl) rfl rfl rfl (there_blk (HF0.out.blk 2 _ rfl) rfl) (by kernel_rfl) (by simp [Value.oneCell']) hh1.out ?_
          replace hS := Lib.hid (show w8r.heap[q]? = some (.cells #[.int .i64 kd, .int .i64 z, .int .i64 o1, .int .i64 o2, .int .i64 o3, .int .i64 o4, .int .i64 o5, .int .u32 wa, .int .u32 to, .slice A n c, .slice B m d] 29) ∧ w8r.heap[q + 1]? = some (.cells #[.int .i64 op, .int .i64 stage, .int .i64 3, .int .i64 old, .int .i64 since, .int .i64 left, .bool awoke, .bool starve, .int .i64 2, .bool true] 31) from ⟨HF1.out.blk 0 _ rfl, HF1.out.blk 1 _ rfl⟩)
          refine Shut.out hK _ _ hS (fun _ => ?_)
          clear hK K
          try simp only [Act.put, List.setIfInBounds_toArray, List.set_cons_zero, List.set_cons_succ]
          refine wpAnyH_ready (rs := [4]) (by kernel_rfl) (by simp) (AllReadyH.cons (o := ⟨none, .store 31 (.tmp 9) (.tmp 87), 0, "ref.go:59", #[⟨1, .data⟩, ⟨3, .chain⟩, ⟨0, .phase⟩, ⟨1, .phase⟩, ⟨2, .textOnly .lateStores⟩, ⟨3, .phase⟩], none⟩) rfl (fun K hK => ?_) AllReadyH.nil)
          refine op_storeS (by rfl) rfl rfl rfl (there_blk (HF1.out.blk 3 _ rfl) rfl) (by kernel_rfl) (by simp [Value.oneCell']) hh2.out ?_
          replace hS := Lib.hid (show w9r.heap[q]? = some (.cells #[.int .i64 kd, .int .i64 z, .int .i64 o1, .int .i64 o2, .int .i64 o3, .int .i64 o4, .int .i64 o5, .int .u32 wa, .int .u32 to, .slice A n c, .slice B m d] 29) ∧ w9r.heap[q + 1]? = some (.cells #[.int .i64 op, .int .i64 stage, .int .i64 3, .int .i64 old, .int .i64 since, .int .i64 left, .bool awoke, .bool starve, .int .i64 2, .bool true] 31) from ⟨HF2.out.blk 0 _ rfl, HF2.out.blk 1 _ rfl⟩)
          refine Shut.out hK _ _ hS (fun _ => ?_)
          clear hK K
          try simp only [Act.put, List.setIfInBounds_toArray, List.set_cons_zero, List.set_cons_succ]
          refine wpAnyH_ready (rs := [5]) (by kernel_rfl) (by simp) (AllReadyH.cons (o := ⟨none, .store 39 (.tmp 10) (.tmp 88), 0, "ref.go:59", #[⟨2, .data⟩, ⟨4, .chain⟩, ⟨0, .phase⟩, ⟨1, .phase⟩, ⟨2, .phase⟩, ⟨3, .phase⟩, ⟨4, .phase⟩], none⟩) rfl (fun K hK => ?_) AllReadyH.nil)
          refine op_storeS (by rfl) rfl rfl rfl (there_blk (HF2.out.blk 4 _ rfl) rfl) (by kernel_rfl) (by simp [Value.oneCell']) hh3.out ?_
          replace hS := Lib.hid (show w10r.heap[q]? = some (.cells #[.int .i64 kd, .int .i64 z, .int .i64 o1, .int .i64 o2, .int .i64 o3, .int .i64 o4, .int .i64 o5, .int .u32 wa, .int .u32 to, .slice A n c, .slice B m d] 29) ∧ w10r.heap[q + 1]? = some (.cells #[.int .i64 op, .int .i64 stage, .int .i64 3, .int .i64 old, .int .i64 since, .int .i64 left, .bool awoke, .bool starve, .int .i64 2, .bool true] 31) from ⟨HF3.out.blk 0 _ rfl, HF3.out.blk 1 _ rfl⟩)
          refine Shut.out hK _ _ hS (fun _ => ?_)
          clear hK K
          try simp only [Act.put, List.setIfInBounds_toArray, List.set_cons_zero, List.set_cons_succ]
          refine wpAnyH_done (by kernel_rfl) ?_ _
          refine NoPanic.normal ?_
          go_wp2
          refine bodyPost_ret (res_ccc Try.results11 (by rfl) (by rfl) (by rfl) (HF3.out.load 2 rfl rfl Try.underlying29 (by kernel_rfl)) (HF3.out.load 3 rfl rfl Try.underlying31 (by kernel_rfl)) (HF3.out.load 4 rfl rfl Try.underlying39 (by kernel_rfl))) rfl ?_
          replace FR := HF3
          rw [HE.out]
          exact ⟨rfl, FR.out.out⟩
        · have s0 : decide (0 ≤ since) = false := by simp; omega
          have s1 : decide (since < 0) = true := by simp; omega
          have HE := Lib.hid (show lockM o0 ⟨op, stage, 2, old, since, left, awoke, starve, need, front⟩ now pat = (z, ⟨op, stage, 3, old, now, left, awoke, starve, 2, false⟩, noA) from HO.trans ((if_neg (fun h => h.2 (of_decide_eq_true hb2))).trans (by rw [s0, if_pos (by omega)])))
          clear HO hsn hb0 hb2
          go_enter Try.func11, Try.ntmps11
          obtain ⟨ac00, ac01, ac02, ac03, ac04, ac05, ac06, ac07, ac08, ac09, ac010⟩ := row11 (b := q) (FR.out.at 0 rfl rfl)
          obtain ⟨ac10, ac11, ac12, ac13, ac14, ac15, ac16, ac17, ac18, ac19⟩ := row10 (b := q + 1) (FR.out.at 1 rfl rfl)
          go_wp2_with fail
          refine (ST.out _).mono ?_
          rintro e ws ⟨rfl, hb⟩
          clear ac00 ac01 ac02 ac03 ac04 ac05 ac06 ac07 ac08 ac09 ac010 ac10 ac11 ac12 ac13 ac14 ac15 ac16 ac17 ac18 ac19
          replace FR := Lib.hid (FR.out.step hb)
          clear hb hv1 hv2 hv3 hv4 hv5 z1 z2 z3 z4 z5
          obtain ⟨ac00, ac01, ac02, ac03, ac04, ac05, ac06, ac07, ac08, ac09, ac010⟩ := row11 (b := q) (FR.out.at 0 rfl rfl)
          have af01 : ws.frozen? ⟨q, 1, none⟩ = false := FR.out.frozen 0 1 rfl rfl
          obtain ⟨ac10, ac11, ac12, ac13, ac14, ac15, ac16, ac17, ac18, ac19⟩ := row10 (b := q + 1) (FR.out.at 1 rfl rfl)
          obtain ⟨w6p, hw6p⟩ : ∃ W, (ws.setCell ⟨q, 1, none⟩ (.int .i64 z)) = W := ⟨_, rfl⟩
          replace FR := Lib.hid (((FR.out.set 0 1 rfl rfl (.int .i64 z))).eqw hw6p)
          obtain ⟨bc00, bc01, bc02, bc03, bc04, bc05, bc06, bc07, bc08, bc09, bc010⟩ := row11 (b := q) (FR.out.at 0 rfl rfl)
          obtain ⟨bc10, bc11, bc12, bc13, bc14, bc15, bc16, bc17, bc18, bc19⟩ := row10 (b := q + 1) (FR.out.at 1 rfl rfl)
          go_wp2_with fail
          refine (B0.out _).mono ?_
          rintro e wz ⟨rfl, hw⟩
          obtain rfl := hw.symm
          go_wp2_with fail
          refine (B2.out _).mono ?_
          rintro e wz ⟨rfl, hw⟩
          obtain rfl := hw.symm
          clear ac00 ac01 ac02 ac03 ac04 ac05 ac06 ac07 ac08 ac09 ac010 af01 ac10 ac11 ac12 ac13 ac14 ac15 ac16 ac17 ac18 ac19 bc00 bc01 bc02 bc03 bc04 bc05 bc06 bc07 bc08 bc09 bc010 bc10 bc11 bc12 bc13 bc14 bc15 bc16 bc17 bc18 bc19
          obtain ⟨ac00, ac01, ac02, ac03, ac04, ac05, ac06, ac07, ac08, ac09, ac010⟩ := row11 (b := q) (FR.out.at 0 rfl rfl)
          obtain ⟨ac10, ac11, ac12, ac13, ac14, ac15, ac16, ac17, ac18, ac19⟩ := row10 (b := q + 1) (FR.out.at 1 rfl rfl)
          have af12 : w6p.frozen? ⟨q + 1, 2, none⟩ = false := FR.out.frozen 1 2 rfl rfl
          have af14 : w6p.frozen? ⟨q + 1, 4, none⟩ = false := FR.out.frozen 1 4 rfl rfl
          have af18 : w6p.frozen? ⟨q + 1, 8, none⟩ = false := FR.out.frozen 1 8 rfl rfl
          have af19 : w6p.frozen? ⟨q + 1, 9, none⟩ = false := FR.out.frozen 1 9 rfl rfl
          obtain ⟨w7p, hw7p⟩ : ∃ W, ((((w6p.setCell ⟨q + 1, 9, none⟩ (.bool false)).setCell ⟨q + 1, 4, none⟩ (.int .i64 now)).setCell ⟨q + 1, 8, none⟩ (.int .i64 2)).setCell ⟨q + 1, 2, none⟩ (.int .i64 3)) = W := ⟨_, rfl⟩
          replace FR := Lib.hid ((((((FR.out.set 1 9 rfl rfl (.bool false)).set 1 4 rfl rfl (.int .i64 now)).set 1 8 rfl rfl (.int .i64 2)).set 1 2 rfl rfl (.int .i64 3))).eqw hw7p)
          obtain ⟨bc00, bc01, bc02, bc03, bc04, bc05, bc06, bc07, bc08, bc09, bc010⟩ := row11 (b := q) (FR.out.at 0 rfl rfl)
          obtain ⟨bc10, bc11, bc12, bc13, bc14, bc15, bc16, bc17, bc18, bc19⟩ := row10 (b := q + 1) (FR.out.at 1 rfl rfl)
          go_wp2
          clear ac00 ac01 ac02 ac03 ac04 ac05 ac06 ac07 ac08 ac09 ac010 ac10 ac11 ac12 ac13 ac14 ac15 ac16 ac17 ac18 ac19 af12 af14 af18 af19 bc00 bc01 bc02 bc03 bc04 bc05 bc06 bc07 bc08 bc09 bc010 bc10 bc11 bc12 bc13 bc14 bc15 bc16 bc17 bc18 bc19
          have HF0 := Lib.hid FR.out.drew
          obtain ⟨w8r, hw8r⟩ : ∃ W, w7p.drew.setCells (q + 2) 0 [.int .i64 kd, .int .i64 z, .int .i64 o1, .int .i64 o2, .int .i64 o3, .int .i64 o4, .int .i64 o5, .int .u32 wa, .int .u32 to, .slice A n c, .slice B m d] = W := ⟨_, rfl⟩
          have HF1 := Lib.hid ((HF0.out.all 2 rfl rfl (by rfl)).eqw hw8r)
          have hh1 := Lib.hid hw8r
          clear hw8r
          obtain ⟨w9r, hw9r⟩ : ∃ W, w8r.setCells (q + 3) 0 [.int .i64 op, .int .i64 stage, .int .i64 3, .int .i64 old, .int .i64 now, .int .i64 left, .bool awoke, .bool starve, .int .i64 2, .bool false] = W := ⟨_, rfl⟩
          have HF2 := Lib.hid ((HF1.out.all 3 rfl rfl (by rfl)).eqw hw9r)
          have hh2 := Lib.hid hw9r
          clear hw9r
          obtain ⟨w10r, hw10r⟩ : ∃ W, w9r.setCells (q + 4) 0 [.bool false, .bool false, .bool false, .int .i64 0, .int .i64 0, .int .u64 0, .slice none 0 0] = W := ⟨_, rfl⟩
          have HF3 := Lib.hid ((HF2.out.all 4 rfl rfl (by rfl)).eqw hw10r)
          have hh3 := Lib.hid hw10r
          clear hw10r
          refine wp_region_noPanic ?_
          refine wp_region_held_drew (S := (fun wv => Hid (wv.heap[q]? = some (.cells #[.int .i64 kd, .int .i64 z, .int .i64 o1, .int .i64 o2, .int .i64 o3, .int .i64 o4, .int .i64 o5, .int .u32 wa, .int .u32 to, .slice A n c, .slice B m d] 29) ∧ wv.heap[q + 1]? = some (.cells #[.int .i64 op, .int .i64 stage, .int .i64 3, .int .i64 old, .int .i64 now, .int .i64 left, .bool awoke, .bool starve, .int .i64 2, .bool false] 31)))) (by kernel_rfl) (Lib.hid (show w7p.drew.heap[q]? = some (.cells #[.int .i64 kd, .int .i64 z, .int .i64 o1, .int .i64 o2, .int .i64 o3, .int .i64 o4, .int .i64 o5, .int .u32 wa, .int .u32 to, .slice A n c, .slice B m d] 29) ∧ w7p.drew.heap[q + 1]? = some (.cells #[.int .i64 op, .int .i64 stage, .int .i64 3, .int .i64 old, .int .i64 now, .int .i64 left, .bool awoke, .bool starve, .int .i64 2, .bool false] 31) from ⟨HF0.out.blk 0 _ rfl, HF0.out.blk 1 _ rfl⟩)) (fun hS => ?_)
          refine wpAnyH_take (i := 0) (oi := ⟨some 86, .load 29 (.tmp 4), 29, "ref.go:59", #[], none⟩) (v := .agg (([.int .i64 kd, .int .i64 z, .int .i64 o1, .int .i64 o2, .int .i64 o3, .int .i64 o4, .int .i64 o5, .int .u32 wa, .int .u32 to, .slice A n c, .slice B m d] : List Value)).toArray) rfl (by kernel_rfl) (by kernel_rfl) (by kernel_rfl) (fun _ _ _ h => h) (yieldsIf_load_mid (by rfl) _ _ (by rfl) (q) (0) (by rfl) (([.int .i64 kd, .int .i64 z, .int .i64 o1, .int .i64 o2, .int .i64 o3, .int .i64 o4, .int .i64 o5, .int .u32 wa, .int .u32 to, .slice A n c, .slice B m d] : List Value)) _ (fun wv hS => blk_rngl hS.out.1) Try.underlying29 (by rfl) (by kernel_rfl)) hS ?_
          try simp only [Act.put, List.setIfInBounds_toArray, List.set_cons_zero, List.set_cons_succ]
          refine wpAnyH_take (i := 1) (oi := ⟨some 87, .load 31 (.tmp 5), 31, "ref.go:59", #[⟨3, .gcOnly .lateStores⟩], none⟩) (v := .agg (([.int .i64 op, .int .i64 stage, .int .i64 3, .int .i64 old, .int .i64 now, .int .i64 left, .bool awoke, .bool starve, .int .i64 2, .bool false] : List Value)).toArray) rfl (by kernel_rfl) (by kernel_rfl) (by kernel_rfl) (fun _ _ _ h => h) (yieldsIf_load_mid (by rfl) _ _ (by rfl) (q + 1) (0) (by rfl) (([.int .i64 op, .int .i64 stage, .int .i64 3, .int .i64 old, .int .i64 now, .int .i64 left, .bool awoke, .bool starve, .int .i64 2, .bool false] : List Value)) _ (fun wv hS => blk_rngl hS.out.2) Try.underlying31 (by rfl) (by kernel_rfl)) hS ?_
          try simp only [Act.put, List.setIfInBounds_toArray, List.set_cons_zero, List.set_cons_succ]
          refine wpAnyH_take (i := 2) (oi := ⟨some 88, .build 39 #[], 39, "ref.go:59", #[⟨4, .gcOnly .lateStores⟩], none⟩) (v := ?_) rfl (by kernel_rfl) (by kernel_rfl) (by kernel_rfl) (fun _ _ _ h => h) (Or.inl ⟨by rfl, ?_⟩) hS ?_
          rotate_left
          · intro wv _; go_simp; try with_reducible rfl
          try simp only [Act.put, List.setIfInBounds_toArray, List.set_cons_zero, List.set_cons_succ]
          refine wpAnyH_ready (rs := [3]) (by kernel_rfl) (by simp) (AllReadyH.cons (o := ⟨none, .store 29 (.tmp 8) (.tmp 86), 0, "ref.go:59", #[⟨0, .data⟩, ⟨0, .phase⟩, ⟨1, .textOnly .lateStores⟩, ⟨2, .textOnly .lateStores⟩], none⟩) rfl (fun K hK => ?_) AllReadyH.nil)
          refine op_storeS (by rfl) rfl rfl rfl (there_blk (HF0.out.blk 2 _ rfl) rfl) (by kernel_rfl) (by simp [Value.oneCell']) hh1.out ?_
          replace hS := Lib.hid (show w8r.heap[q]? = some (.cells #[.int .i64 kd, .int .i64 z, .int .i64 o1, .int .i64 o2, .int .i64 o3, .int .i64 o4, .int .i64 o5, .int .u32 wa, .int .u32 to, .slice A n c, .slice B m d] 29) ∧ w8r.heap[q + 1]? = some (.cells #[.int .i64 op, .int .i64 stage, .int .i64 3, .int .i64 old, .int .i64 now, .int .i64 left, .bool awoke, .bool starve, .int .i64 2, .bool false] 31) from ⟨HF1.out.blk 0 _ rfl, HF1.out.blk 1 _ rfl⟩)
          refine Shut.out hK _ _ hS (fun _ => ?_)
          clear hK K
          try simp only [Act.put, List.setIfInBounds_toArray, List.set_cons_zero, List.set_cons_succ]
          refine wpAnyH_ready (rs := [4]) (by kernel_rfl) (by simp) (AllReadyH.cons (o := ⟨none, .store 31 (.tmp 9) (.tmp 87), 0, "ref.go:59", #[⟨1, .data⟩, ⟨3, .chain⟩, ⟨0, .phase⟩, ⟨1, .phase⟩, ⟨2, .textOnly .lateStores⟩, ⟨3, .phase⟩], none⟩) rfl (fun K hK => ?_) AllReadyH.nil)
          refine op_storeS (by rfl) rfl rfl rfl (there_blk (HF1.out.blk 3 _ rfl) rfl) (by kernel_rfl) (by simp [Value.oneCell']) hh2.out ?_
          replace hS := Lib.hid (show w9r.heap[q]? = some (.cells #[.int .i64 kd, .int .i64 z, .int .i64 o1, .int .i64 o2, .int .i64 o3, .int .i64 o4, .int .i64 o5, .int .u32 wa, .int .u32 to, .slice A n c, .slice B m d] 29) ∧ w9r.heap[q + 1]? = some (.cells #[.int .i64 op, .int .i64 stage, .int .i64 3, .int .i64 old, .int .i64 now, .int .i64 left, .bool awoke, .bool starve, .int .i64 2, .bool false] 31) from ⟨HF2.out.blk 0 _ rfl, HF2.out.blk 1 _ rfl⟩)
          refine Shut.out hK _ _ hS (fun _ => ?_)
          clear hK K
          try simp only [Act.put, List.setIfInBounds_toArray, List.set_cons_zero, List.set_cons_succ]
          refine wpAnyH_ready (rs := [5]) (by kernel_rfl) (by simp) (AllReadyH.cons (o := ⟨none, .store 39 (.tmp 10) (.tmp 88), 0, "ref.go:59", #[⟨2, .data⟩, ⟨4, .chain⟩, ⟨0, .phase⟩, ⟨1, .phase⟩, ⟨2, .phase⟩, ⟨3, .phase⟩, ⟨4, .phase⟩], none⟩) rfl (fun K hK => ?_) AllReadyH.nil)
          refine op_storeS (by rfl) rfl rfl rfl (there_blk (HF2.out.blk 4 _ rfl) rfl) (by kernel_rfl) (by simp [Value.oneCell']) hh3.out ?_
          replace hS := Lib.hid (show w10r.heap[q]? = some (.cells #[.int .i64 kd, .int .i64 z, .int .i64 o1, .int .i64 o2, .int .i64 o3, .int .i64 o4, .int .i64 o5, .int .u32 wa, .int .u32 to, .slice A n c, .slice B m d] 29) ∧ w10r.heap[q + 1]? = some (.cells #[.int .i64 op, .int .i64 stage, .int .i64 3, .int .i64 old, .int .i64 now, .int .i64 left, .bool awoke, .bool starve, .int .i64 2, .bool false] 31) from ⟨HF3.out.blk 0 _ rfl, HF3.out.blk 1 _ rfl⟩)
          refine Shut.out hK _ _ hS (fun _ => ?_)
          clear hK K
          try simp only [Act.put, List.setIfInBounds_toArray, List.set_cons_zero, List.set_cons_succ]
          refine wpAnyH_done (by kernel_rfl) ?_ _
          refine NoPanic.normal ?_
          go_wp2
          refine bodyPost_ret (res_ccc Try.results11 (by rfl) (by rfl) (by rfl) (HF3.out.load 2 rfl rfl Try.underlying29 (by kernel_rfl)) (HF3.out.load 3 rfl rfl Try.underlying31 (by kernel_rfl)) (HF3.out.load 4 rfl rfl Try.underlying39 (by kernel_rfl))) rfl ?_
          replace FR := HF3
          rw [HE.out]
          exact ⟨rfl, FR.out.out⟩
    · rw [hb0] at B0
      replace B0 := Lib.hid B0
      clear B2
      by_cases hsn : 0 ≤ since
      · have s0 : decide (0 ≤ since) = true := by simpa using hsn
        have s1 : decide (since < 0) = false := by simp; omega
        have HE := Lib.hid (show lockM o0 ⟨op, stage, 2, old, since, left, awoke, starve, need, front⟩ now pat = (z, ⟨op, stage, 3, old, since, left, awoke, starve, 2, true⟩, noA) from HO.trans ((if_neg (fun h => h.1 (of_decide_eq_true hb0))).trans (by rw [s0, if_neg (by omega)])))
        clear HO hsn hb0
        go_enter Try.func11, Try.ntmps11
        obtain ⟨ac00, ac01, ac02, ac03, ac04, ac05, ac06, ac07, ac08, ac09, ac010⟩ := row11 (b := q) (FR.out.at 0 rfl rfl)
        obtain ⟨ac10, ac11, ac12, ac13, ac14, ac15, ac16, ac17, ac18, ac19⟩ := row10 (b := q + 1) (FR.out.at 1 rfl rfl)
        go_wp2_with fail
        refine (ST.out _).mono ?_
        rintro e ws ⟨rfl, hb⟩
        clear ac00 ac01 ac02 ac03 ac04 ac05 ac06 ac07 ac08 ac09 ac010 ac10 ac11 ac12 ac13 ac14 ac15 ac16 ac17 ac18 ac19
        replace FR := Lib.hid (FR.out.step hb)
        clear hb hv1 hv2 hv3 hv4 hv5 z1 z2 z3 z4 z5
        obtain ⟨ac00, ac01, ac02, ac03, ac04, ac05, ac06, ac07, ac08, ac09, ac010⟩ := row11 (b := q) (FR.out.at 0 rfl rfl)
        have af01 : ws.frozen? ⟨q, 1, none⟩ = false := FR.out.frozen 0 1 rfl rfl
        obtain ⟨ac10, ac11, ac12, ac13, ac14, ac15, ac16, ac17, ac18, ac19⟩ := row10 (b := q + 1) (FR.out.at 1 rfl rfl)
        obtain ⟨w6p, hw6p⟩ : ∃ W, (ws.setCell ⟨q, 1, none⟩ (.int .i64 z)) = W := ⟨_, rfl⟩
        replace FR := Lib.hid (((FR.out.set 0 1 rfl rfl (.int .i64 z))).eqw hw6p)
        obtain ⟨bc00, bc01, bc02, bc03, bc04, bc05, bc06, bc07, bc08, bc09, bc010⟩ := row11 (b := q) (FR.out.at 0 rfl rfl)
        obtain ⟨bc10, bc11, bc12, bc13, bc14, bc15, bc16, bc17, bc18, bc19⟩ := row10 (b := q + 1) (FR.out.at 1 rfl rfl)
        go_wp2_with fail
        refine (B0.out _).mono ?_
        rintro e wz ⟨rfl, hw⟩
        obtain rfl := hw.symm
        clear ac00 ac01 ac02 ac03 ac04 ac05 ac06 ac07 ac08 ac09 ac010 af01 ac10 ac11 ac12 ac13 ac14 ac15 ac16 ac17 ac18 ac19 bc00 bc01 bc02 bc03 bc04 bc05 bc06 bc07 bc08 bc09 bc010 bc10 bc11 bc12 bc13 bc14 bc15 bc16 bc17 bc18 bc19
        obtain ⟨ac00, ac01, ac02, ac03, ac04, ac05, ac06, ac07, ac08, ac09, ac010⟩ := row11 (b := q) (FR.out.at 0 rfl rfl)
        obtain ⟨ac10, ac11, ac12, ac13, ac14, ac15, ac16, ac17, ac18, ac19⟩ := row10 (b := q + 1) (FR.out.at 1 rfl rfl)
        have af12 : w6p.frozen? ⟨q + 1, 2, none⟩ = false := FR.out.frozen 1 2 rfl rfl
        have af18 : w6p.frozen? ⟨q + 1, 8, none⟩ = false := FR.out.frozen 1 8 rfl rfl
        have af19 : w6p.frozen? ⟨q + 1, 9, none⟩ = false := FR.out.frozen 1 9 rfl rfl
        obtain ⟨w7p, hw7p⟩ : ∃ W, (((w6p.setCell ⟨q + 1, 9, none⟩ (.bool true)).setCell ⟨q + 1, 8, none⟩ (.int .i64 2)).setCell ⟨q + 1, 2, none⟩ (.int .i64 3)) = W := ⟨_, rfl⟩
        replace FR := Lib.hid (((((FR.out.set 1 9 rfl rfl (.bool true)).set 1 8 rfl rfl (.int .i64 2)).set 1 2 rfl rfl (.int .i64 3))).eqw hw7p)
        obtain ⟨bc00, bc01, bc02, bc03, bc04, bc05, bc06, bc07, bc08, bc09, bc010⟩ := row11 (b := q) (FR.out.at 0 rfl rfl)
        obtain ⟨bc10, bc11, bc12, bc13, bc14, bc15, bc16, bc17, bc18, bc19⟩ := row10 (b := q + 1) (FR.out.at 1 rfl rfl)
        go_wp2
        clear ac00 ac01 ac02 ac03 ac04 ac05 ac06 ac07 ac08 ac09 ac010 ac10 ac11 ac12 ac13 ac14 ac15 ac16 ac17 ac18 ac19 af12 af18 af19 bc00 bc01 bc02 bc03 bc04 bc05 bc06 bc07 bc08 bc09 bc010 bc10 bc11 bc12 bc13 bc14 bc15 bc16 bc17 bc18 bc19
        have HF0 := Lib.hid FR.out.drew
        obtain ⟨w8r, hw8r⟩ : ∃ W, w7p.drew.setCells (q + 2) 0 [.int .i64 kd, .int .i64 z, .int .i64 o1, .int .i64 o2, .int .i64 o3, .int .i64 o4, .int .i64 o5, .int .u32 wa, .int .u32 to, .slice A n c, .slice B m d] = W := ⟨_, rfl⟩
        have HF1 := Lib.hid ((HF0.out.all 2 rfl rfl (by rfl)).eqw hw8r)
        have hh1 := Lib.hid hw8r
        clear hw8r
        obtain ⟨w9r, hw9r⟩ : ∃ W, w8r.setCells (q + 3) 0 [.int .i64 op, .int .i64 stage, .int .i64 3, .int .i64 old, .int .i64 since, .int .i64 left, .bool awoke, .bool starve, .int .i64 2, .bool true] = W := ⟨_, rfl⟩
        have HF2 := Lib.hid ((HF1.out.all 3 rfl rfl (by rfl)).eqw hw9r)
        have hh2 := Lib.hid hw9r
        clear hw9r
        obtain ⟨w10r, hw10r⟩ : ∃ W, w9r.setCells (q + 4) 0 [.bool false, .bool false, .bool false, .int .i64 0, .int .i64 0, .int .u64 0, .slice none 0 0] = W := ⟨_, rfl⟩
        have HF3 := Lib.hid ((HF2.out.all 4 rfl rfl (by rfl)).eqw hw10r)
        have hh3 := Lib.hid hw10r
        clear hw10r
        refine wp_region_noPanic ?_
        refine wp_region_held_drew (S := (fun wv => Hid (wv.heap[q]? = some (.cells #[.int .i64 kd, .int .i64 z, .int .i64 o1, .int .i64 o2, .int .i64 o3, .int .i64 o4, .int .i64 o5, .int .u32 wa, .int .u32 to, .slice A n c, .slice B m d] 29) ∧ wv.heap[q + 1]? = some (.cells #[.int .i64 op, .int .i64 stage, .int .i64 3, .int .i64 old, .int .i64 since, .int .i64 left, .bool awoke, .bool starve, .int .i64 2, .bool true] 31)))) (by kernel_rfl) (Lib.hid (show w7p.drew.heap[q]? = some (.cells #[.int .i64 kd, .int .i64 z, .int .i64 o1, .int .i64 o2, .int .i64 o3, .int .i64 o4, .int .i64 o5, .int .u32 wa, .int .u32 to, .slice A n c, .slice B m d] 29) ∧ w7p.drew.heap[q + 1]? = some (.cells #[.int .i64 op, .int .i64 stage, .int .i64 3, .int .i64 old, .int .i64 since, .int .i64 left, .bool awoke, .bool starve, .int .i64 2, .bool true] 31) from ⟨HF0.out.blk 0 _ rfl, HF0.out.blk 1 _ rfl⟩)) (fun hS => ?_)
        refine wpAnyH_take (i := 0) (oi := ⟨some 86, .load 29 (.tmp 4), 29, "ref.go:59", #[], none⟩) (v := .agg (([.int .i64 kd, .int .i64 z, .int .i64 o1, .int .i64 o2, .int .i64 o3, .int .i64 o4, .int .i64 o5, .int .u32 wa, .int .u32 to, .slice A n c, .slice B m d] : List Value)).toArray) rfl (by kernel_rfl) (by kernel_rfl) (by kernel_rfl) (fun _ _ _ h => h) (yieldsIf_load_mid (by rfl) _ _ (by rfl) (q) (0) (by rfl) (([.int .i64 kd, .int .i64 z, .int .i64 o1, .int .i64 o2, .int .i64 o3, .int .i64 o4, .int .i64 o5, .int .u32 wa, .int .u32 to, .slice A n c, .slice B m d] : List Value)) _ (fun wv hS => blk_rngl hS.out.1) Try.underlying29 (by rfl) (by kernel_rfl)) hS ?_
        try simp only [Act.put, List.setIfInBounds_toArray, List.set_cons_zero, List.set_cons_succ]
        refine wpAnyH_take (i := 1) (oi := ⟨some 87, .load 31 (.tmp 5), 31, "ref.go:59", #[⟨3, .gcOnly .lateStores⟩], none⟩) (v := .agg (([.int .i64 op, .int .i64 stage, .int .i64 3, .int .i64 old, .int .i64 since, .int .i64 left, .bool awoke, .bool starve, .int .i64 2, .bool true] : List Value)).toArray) rfl (by kernel_rfl) (by kernel_rfl) (by kernel_rfl) (fun _ _ _ h => h) (yieldsIf_load_mid (by rfl) _ _ (by rfl) (q + 1) (0) (by rfl) (([.int .i64 op, .int .i64 stage, .int .i64 3, .int .i64 old, .int .i64 since, .int .i64 left, .bool awoke, .bool starve, .int .i64 2, .bool true] : List Value)) _ (fun wv hS => blk_rngl hS.out.2) Try.underlying31 (by rfl) (by kernel_rfl)) hS ?_
        try simp only [Act.put, List.setIfInBounds_toArray, List.set_cons_zero, List.set_cons_succ]
        refine wpAnyH_take (i := 2) (oi := ⟨some 88, .build 39 #[], 39, "ref.go:59", #[⟨4, .gcOnly .lateStores⟩], none⟩) (v := ?_) rfl (by kernel_rfl) (by kernel_rfl) (by kernel_rfl) (fun _ _ _ h => h) (Or.inl ⟨by rfl, ?_⟩) hS ?_
        rotate_left
        · intro wv _; go_simp; try with_reducible rfl
        try simp only [Act.put, List.setIfInBounds_toArray, List.set_cons_zero, List.set_cons_succ]
        refine wpAnyH_ready (rs := [3]) (by kernel_rfl) (by simp) (AllReadyH.cons (o := ⟨none, .store 29 (.tmp 8) (.tmp 86), 0, "ref.go:59", #[⟨0, .data⟩, ⟨0, .phase⟩, ⟨1, .textOnly .lateStores⟩, ⟨2, .textOnly .lateStores⟩], none⟩) rfl (fun K hK => ?_) AllReadyH.nil)
        refine op_storeS (by rfl) rfl rfl rfl (there_blk (HF0.out.blk 2 _ rfl) rfl) (by kernel_rfl) (by simp [Value.oneCell']) hh1.out ?_
        replace hS := Lib.hid (show w8r.heap[q]? = some (.cells #[.int .i64 kd, .int .i64 z, .int .i64 o1, .int .i64 o2, .int .i64 o3, .int .i64 o4, .int .i64 o5, .int .u32 wa, .int .u32 to, .slice A n c, .slice B m d] 29) ∧ w8r.heap[q + 1]? = some (.cells #[.int .i64 op, .int .i64 stage, .int .i64 3, .int .i64 old, .int .i64 since, .int .i64 left, .bool awoke, .bool starve, .int .i64 2, .bool true] 31) from ⟨HF1.out.blk 0 _ rfl, HF1.out.blk 1 _ rfl⟩)
        refine Shut.out hK _ _ hS (fun _ => ?_)
        clear hK K
        try simp only [Act.put, List.setIfInBounds_toArray, List.set_cons_zero, List.set_cons_succ]
        refine wpAnyH_ready (rs := [4]) (by kernel_rfl) (by simp) (AllReadyH.cons (o := ⟨none, .store 31 (.tmp 9) (.tmp 87), 0, "ref.go:59", #[⟨1, .data⟩, ⟨3, .chain⟩, ⟨0, .phase⟩, ⟨1, .phase⟩, ⟨2, .textOnly .lateStores⟩, ⟨3, .phase⟩], none⟩) rfl (fun K hK => ?_) AllReadyH.nil)
        refine op_storeS (by rfl) rfl rfl rfl (there_blk (HF1.out.blk 3 _ rfl) rfl) (by kernel_rfl) (by simp [Value.oneCell']) hh2.out ?_
        replace hS := Lib.hid (show w9r.heap[q]? = some (.cells #[.int .i64 kd, .int .i64 z, .int .i64 o1, .int .i64 o2, .int .i64 o3, .int .i64 o4, .int .i64 o5, .int .u32 wa, .int .u32 to, .slice A n c, .slice B m d] 29) ∧ w9r.heap[q + 1]? = some (.cells #[.int .i64 op, .int .i64 stage, .int .i64 3, .int .i64 old, .int .i64 since, .int .i64 left, .bool awoke, .bool starve, .int .i64 2, .bool true] 31) from ⟨HF2.out.blk 0 _ rfl, HF2.out.blk 1 _ rfl⟩)
        refine Shut.out hK _ _ hS (fun _ => ?_)
        clear hK K
        try simp only [Act.put, List.setIfInBounds_toArray, List.set_cons_zero, List.set_cons_succ]
        refine wpAnyH_ready (rs := [5]) (by kernel_rfl) (by simp) (AllReadyH.cons (o := ⟨none, .store 39 (.tmp 10) (.tmp 88), 0, "ref.go:59", #[⟨2, .data⟩, ⟨4, .chain⟩, ⟨0, .phase⟩, ⟨1, .phase⟩, ⟨2, .phase⟩, ⟨3, .phase⟩, ⟨4, .phase⟩], none⟩) rfl (fun K hK => ?_) AllReadyH.nil)
        refine op_storeS (by rfl) rfl rfl rfl (there_blk (HF2.out.blk 4 _ rfl) rfl) (by kernel_rfl) (by simp [Value.oneCell']) hh3.out ?_
        replace hS := Lib.hid (show w10r.heap[q]? = some (.cells #[.int .i64 kd, .int .i64 z, .int .i64 o1, .int .i64 o2, .int .i64 o3, .int .i64 o4, .int .i64 o5, .int .u32 wa, .int .u32 to, .slice A n c, .slice B m d] 29) ∧ w10r.heap[q + 1]? = some (.cells #[.int .i64 op, .int .i64 stage, .int .i64 3, .int .i64 old, .int .i64 since, .int .i64 left, .bool awoke, .bool starve, .int .i64 2, .bool true] 31) from ⟨HF3.out.blk 0 _ rfl, HF3.out.blk 1 _ rfl⟩)
        refine Shut.out hK _ _ hS (fun _ => ?_)
        clear hK K
        try simp only [Act.put, List.setIfInBounds_toArray, List.set_cons_zero, List.set_cons_succ]
        refine wpAnyH_done (by kernel_rfl) ?_ _
        refine NoPanic.normal ?_
        go_wp2
        refine bodyPost_ret (res_ccc Try.results11 (by rfl) (by rfl) (by rfl) (HF3.out.load 2 rfl rfl Try.underlying29 (by kernel_rfl)) (HF3.out.load 3 rfl rfl Try.underlying31 (by kernel_rfl)) (HF3.out.load 4 rfl rfl Try.underlying39 (by kernel_rfl))) rfl ?_
        replace FR := HF3
        rw [HE.out]
        exact ⟨rfl, FR.out.out⟩
      · have s0 : decide (0 ≤ since) = false := by simp; omega
        have s1 : decide (since < 0) = true := by simp; omega
        have HE := Lib.hid (show lockM o0 ⟨op, stage, 2, old, since, left, awoke, starve, need, front⟩ now pat = (z, ⟨op, stage, 3, old, now, left, awoke, starve, 2, false⟩, noA) from HO.trans ((if_neg (fun h => h.1 (of_decide_eq_true hb0))).trans (by rw [s0, if_pos (by omega)])))
        clear HO hsn hb0
        go_enter Try.func11, Try.ntmps11
        obtain ⟨ac00, ac01, ac02, ac03, ac04, ac05, ac06, ac07, ac08, ac09, ac010⟩ := row11 (b := q) (FR.out.at 0 rfl rfl)
        obtain ⟨ac10, ac11, ac12, ac13, ac14, ac15, ac16, ac17, ac18, ac19⟩ := row10 (b := q + 1) (FR.out.at 1 rfl rfl)
        go_wp2_with fail
        refine (ST.out _).mono ?_
        rintro e ws ⟨rfl, hb⟩
        clear ac00 ac01 ac02 ac03 ac04 ac05 ac06 ac07 ac08 ac09 ac010 ac10 ac11 ac12 ac13 ac14 ac15 ac16 ac17 ac18 ac19
        replace FR := Lib.hid (FR.out.step hb)
        clear hb hv1 hv2 hv3 hv4 hv5 z1 z2 z3 z4 z5
        obtain ⟨ac00, ac01, ac02, ac03, ac04, ac05, ac06, ac07, ac08, ac09, ac010⟩ := row11 (b := q) (FR.out.at 0 rfl rfl)
        have af01 : ws.frozen? ⟨q, 1, none⟩ = false := FR.out.frozen 0 1 rfl rfl
        obtain ⟨ac10, ac11, ac12, ac13, ac14, ac15, ac16, ac17, ac18, ac19⟩ := row10 (b := q + 1) (FR.out.at 1 rfl rfl)
        obtain ⟨w6p, hw6p⟩ : ∃ W, (ws.setCell ⟨q, 1, none⟩ (.int .i64 z)) = W := ⟨_, rfl⟩
        replace FR := Lib.hid (((FR.out.set 0 1 rfl rfl (.int .i64 z))).eqw hw6p)
        obtain ⟨bc00, bc01, bc02, bc03, bc04, bc05, bc06, bc07, bc08, bc09, bc010⟩ := row11 (b := q) (FR.out.at 0 rfl rfl)
        obtain ⟨bc10, bc11, bc12, bc13, bc14, bc15, bc16, bc17, bc18, bc19⟩ := row10 (b := q + 1) (FR.out.at 1 rfl rfl)
        go_wp2_with fail
        refine (B0.out _).mono ?_
        rintro e wz ⟨rfl, hw⟩
        obtain rfl := hw.symm
        clear ac00 ac01 ac02 ac03 ac04 ac05 ac06 ac07 ac08 ac09 ac010 af01 ac10 ac11 ac12 ac13 ac14 ac15 ac16 ac17 ac18 ac19 bc00 bc01 bc02 bc03 bc04 bc05 bc06 bc07 bc08 bc09 bc010 bc10 bc11 bc12 bc13 bc14 bc15 bc16 bc17 bc18 bc19
        obtain ⟨ac00, ac01, ac02, ac03, ac04, ac05, ac06, ac07, ac08, ac09, ac010⟩ := row11 (b := q) (FR.out.at 0 rfl rfl)
        obtain ⟨ac10, ac11, ac12, ac13, ac14, ac15, ac16, ac17, ac18, ac19⟩ := row10 (b := q + 1) (FR.out.at 1 rfl rfl)
        have af12 : w6p.frozen? ⟨q + 1, 2, none⟩ = false := FR.out.frozen 1 2 rfl rfl
        have af14 : w6p.frozen? ⟨q + 1, 4, none⟩ = false := FR.out.frozen 1 4 rfl rfl
        have af18 : w6p.frozen? ⟨q + 1, 8, none⟩ = false := FR.out.frozen 1 8 rfl rfl
        have af19 : w6p.frozen? ⟨q + 1, 9, none⟩ = false := FR.out.frozen 1 9 rfl rfl
        obtain ⟨w7p, hw7p⟩ : ∃ W, ((((w6p.setCell ⟨q + 1, 9, none⟩ (.bool false)).setCell ⟨q + 1, 4, none⟩ (.int .i64 now)).setCell ⟨q + 1, 8, none⟩ (.int .i64 2)).setCell ⟨q + 1, 2, none⟩ (.int .i64 3)) = W := ⟨_, rfl⟩
        replace FR := Lib.hid ((((((FR.out.set 1 9 rfl rfl (.bool false)).set 1 4 rfl rfl (.int .i64 now)).set 1 8 rfl rfl (.int .i64 2)).set 1 2 rfl rfl (.int .i64 3))).eqw hw7p)
        obtain ⟨bc00, bc01, bc02, bc03, bc04, bc05, bc06, bc07, bc08, bc09, bc010⟩ := row11 (b := q) (FR.out.at 0 rfl rfl)
        obtain ⟨bc10, bc11, bc12, bc13, bc14, bc15, bc16, bc17, bc18, bc19⟩ := row10 (b := q + 1) (FR.out.at 1 rfl rfl)
        go_wp2
        clear ac00 ac01 ac02 ac03 ac04 ac05 ac06 ac07 ac08 ac09 ac010 ac10 ac11 ac12 ac13 ac14 ac15 ac16 ac17 ac18 ac19 af12 af14 af18 af19 bc00 bc01 bc02 bc03 bc04 bc05 bc06 bc07 bc08 bc09 bc010 bc10 bc11 bc12 bc13 bc14 bc15 bc16 bc17 bc18 bc19
        have HF0 := Lib.hid FR.out.drew
        obtain ⟨w8r, hw8r⟩ : ∃ W, w7p.drew.setCells (q + 2) 0 [.int .i64 kd, .int .i64 z, .int .i64 o1, .int .i64 o2, .int .i64 o3, .int .i64 o4, .int .i64 o5, .int .u32 wa, .int .u32 to, .slice A n c, .slice B m d] = W := ⟨_, rfl⟩
        have HF1 := Lib.hid ((HF0.out.all 2 rfl rfl (by rfl)).eqw hw8r)
        have hh1 := Lib.hid hw8r
        clear hw8r
        obtain ⟨w9r, hw9r⟩ : ∃ W, w8r.setCells (q + 3) 0 [.int .i64 op, .int .i64 stage, .int .i64 3, .int .i64 old, .int .i64 now, .int .i64 left, .bool awoke, .bool starve, .int .i64 2, .bool false] = W := ⟨_, rfl⟩
        have HF2 := Lib.hid ((HF1.out.all 3 rfl rfl (by rfl)).eqw hw9r)
        have hh2 := Lib.hid hw9r
        clear hw9r
        obtain ⟨w10r, hw10r⟩ : ∃ W, w9r.setCells (q + 4) 0 [.bool false, .bool false, .bool false, .int .i64 0, .int .i64 0, .int .u64 0, .slice none 0 0] = W := ⟨_, rfl⟩
        have HF3 := Lib.hid ((HF2.out.all 4 rfl rfl (by rfl)).eqw hw10r)
        have hh3 := Lib.hid hw10r
        clear hw10r
        refine wp_region_noPanic ?_
        refine wp_region_held_drew (S := (fun wv => Hid (wv.heap[q]? = some (.cells #[.int .i64 kd, .int .i64 z, .int .i64 o1, .int .i64 o2, .int .i64 o3, .int .i64 o4, .int .i64 o5, .int .u32 wa, .int .u32 to, .slice A n c, .slice B m d] 29) ∧ wv.heap[q + 1]? = some (.cells #[.int .i64 op, .int .i64 stage, .int .i64 3, .int .i64 old, .int .i64 now, .int .i64 left, .bool awoke, .bool starve, .int .i64 2, .bool false] 31)))) (by kernel_rfl) (Lib.hid (show w7p.drew.heap[q]? = some (.cells #[.int .i64 kd, .int .i64 z, .int .i64 o1, .int .i64 o2, .int .i64 o3, .int .i64 o4, .int .i64 o5, .int .u32 wa, .int .u32 to, .slice A n c, .slice B m d] 29) ∧ w7p.drew.heap[q + 1]? = some (.cells #[.int .i64 op, .int .i64 stage, .int .i64 3, .int .i64 old, .int .i64 now, .int .i64 left, .bool awoke, .bool starve, .int .i64 2, .bool false] 31) from ⟨HF0.out.blk 0 _ rfl, HF0.out.blk 1 _ rfl⟩)) (fun hS => ?_)
        refine wpAnyH_take (i := 0) (oi := ⟨some 86, .load 29 (.tmp 4), 29, "ref.go:59", #[], none⟩) (v := .agg (([.int .i64 kd, .int .i64 z, .int .i64 o1, .int .i64 o2, .int .i64 o3, .int .i64 o4, .int .i64 o5, .int .u32 wa, .int .u32 to, .slice A n c, .slice B m d] : List Value)).toArray) rfl (by kernel_rfl) (by kernel_rfl) (by kernel_rfl) (fun _ _ _ h => h) (yieldsIf_load_mid (by rfl) _ _ (by rfl) (q) (0) (by rfl) (([.int .i64 kd, .int .i64 z, .int .i64 o1, .int .i64 o2, .int .i64 o3, .int .i64 o4, .int .i64 o5, .int .u32 wa, .int .u32 to, .slice A n c, .slice B m d] : List Value)) _ (fun wv hS => blk_rngl hS.out.1) Try.underlying29 (by rfl) (by kernel_rfl)) hS ?_
        try simp only [Act.put, List.setIfInBounds_toArray, List.set_cons_zero, List.set_cons_succ]
        refine wpAnyH_take (i := 1) (oi := ⟨some 87, .load 31 (.tmp 5), 31, "ref.go:59", #[⟨3, .gcOnly .lateStores⟩], none⟩) (v := .agg (([.int .i64 op, .int .i64 stage, .int .i64 3, .int .i64 old, .int .i64 now, .int .i64 left, .bool awoke, .bool starve, .int .i64 2, .bool false] : List Value)).toArray) rfl (by kernel_rfl) (by kernel_rfl) (by kernel_rfl) (fun _ _ _ h => h) (yieldsIf_load_mid (by rfl) _ _ (by rfl) (q + 1) (0) (by rfl) (([.int .i64 op, .int .i64 stage, .int .i64 3, .int .i64 old, .int .i64 now, .int .i64 left, .bool awoke, .bool starve, .int .i64 2, .bool false] : List Value)) _ (fun wv hS => blk_rngl hS.out.2) Try.underlying31 (by rfl) (by kernel_rfl)) hS ?_
        try simp only [Act.put, List.setIfInBounds_toArray, List.set_cons_zero, List.set_cons_succ]
        refine wpAnyH_take (i := 2) (oi := ⟨some 88, .build 39 #[], 39, "ref.go:59", #[⟨4, .gcOnly .lateStores⟩], none⟩) (v := ?_) rfl (by kernel_rfl) (by kernel_rfl) (by kernel_rfl) (fun _ _ _ h => h) (Or.inl ⟨by rfl, ?_⟩) hS ?_
        rotate_left
        · intro wv _; go_simp; try with_reducible rfl
        try simp only [Act.put, List.setIfInBounds_toArray, List.set_cons_zero, List.set_cons_succ]
        refine wpAnyH_ready (rs := [3]) (by kernel_rfl) (by simp) (AllReadyH.cons (o := ⟨none, .store 29 (.tmp 8) (.tmp 86), 0, "ref.go:59", #[⟨0, .data⟩, ⟨0, .phase⟩, ⟨1, .textOnly .lateStores⟩, ⟨2, .textOnly .lateStores⟩], none⟩) rfl (fun K hK => ?_) AllReadyH.nil)
        refine op_storeS (by rfl) rfl rfl rfl (there_blk (HF0.out.blk 2 _ rfl) rfl) (by kernel_rfl) (by simp [Value.oneCell']) hh1.out ?_
        replace hS := Lib.hid (show w8r.heap[q]? = some (.cells #[.int .i64 kd, .int .i64 z, .int .i64 o1, .int .i64 o2, .int .i64 o3, .int .i64 o4, .int .i64 o5, .int .u32 wa, .int .u32 to, .slice A n c, .slice B m d] 29) ∧ w8r.heap[q + 1]? = some (.cells #[.int .i64 op, .int .i64 stage, .int .i64 3, .int .i64 old, .int .i64 now, .int .i64 left, .bool awoke, .bool starve, .int .i64 2, .bool false] 31) from ⟨HF1.out.blk 0 _ rfl, HF1.out.blk 1 _ rfl⟩)
        refine Shut.out hK _ _ hS (fun _ => ?_)
        clear hK K
        try simp only [Act.put, List.setIfInBounds_toArray, List.set_cons_zero, List.set_cons_succ]
        refine wpAnyH_ready (rs := [4]) (by kernel_rfl) (by simp) (AllReadyH.cons (o := ⟨none, .store 31 (.tmp 9) (.tmp 87), 0, "ref.go:59", #[⟨1, .data⟩, ⟨3, .chain⟩, ⟨0, .phase⟩, ⟨1, .phase⟩, ⟨2, .textOnly .lateStores⟩, ⟨3, .phase⟩], none⟩) rfl (fun K hK => ?_) AllReadyH.nil)
        refine op_storeS (by rfl) rfl rfl rfl (there_blk (HF1.out.blk 3 _ rfl) rfl) (by kernel_rfl) (by simp [Value.oneCell']) hh2.out ?_
        replace hS := Lib.hid (show w9r.heap[q]? = some (.cells #[.int .i64 kd, .int .i64 z, .int .i64 o1, .int .i64 o2, .int .i64 o3, .int .i64 o4, .int .i64 o5, .int .u32 wa, .int .u32 to, .slice A n c, .slice B m d] 29) ∧ w9r.heap[q + 1]? = some (.cells #[.int .i64 op, .int .i64 stage, .int .i64 3, .int .i64 old, .int .i64 now, .int .i64 left, .bool awoke, .bool starve, .int .i64 2, .bool false] 31) from ⟨HF2.out.blk 0 _ rfl, HF2.out.blk 1 _ rfl⟩)
        refine Shut.out hK _ _ hS (fun _ => ?_)
        clear hK K
        try simp only [Act.put, List.setIfInBounds_toArray, List.set_cons_zero, List.set_cons_succ]
        refine wpAnyH_ready (rs := [5]) (by kernel_rfl) (by simp) (AllReadyH.cons (o := ⟨none, .store 39 (.tmp 10) (.tmp 88), 0, "ref.go:59", #[⟨2, .data⟩, ⟨4, .chain⟩, ⟨0, .phase⟩, ⟨1, .phase⟩, ⟨2, .phase⟩, ⟨3, .phase⟩, ⟨4, .phase⟩], none⟩) rfl (fun K hK => ?_) AllReadyH.nil)
        refine op_storeS (by rfl) rfl rfl rfl (there_blk (HF2.out.blk 4 _ rfl) rfl) (by kernel_rfl) (by simp [Value.oneCell']) hh3.out ?_
        replace hS := Lib.hid (show w10r.heap[q]? = some (.cells #[.int .i64 kd, .int .i64 z, .int .i64 o1, .int .i64 o2, .int .i64 o3, .int .i64 o4, .int .i64 o5, .int .u32 wa, .int .u32 to, .slice A n c, .slice B m d] 29) ∧ w10r.heap[q + 1]? = some (.cells #[.int .i64 op, .int .i64 stage, .int .i64 3, .int .i64 old, .int .i64 now, .int .i64 left, .bool awoke, .bool starve, .int .i64 2, .bool false] 31) from ⟨HF3.out.blk 0 _ rfl, HF3.out.blk 1 _ rfl⟩)
        refine Shut.out hK _ _ hS (fun _ => ?_)
        clear hK K
        try simp only [Act.put, List.setIfInBounds_toArray, List.set_cons_zero, List.set_cons_succ]
        refine wpAnyH_done (by kernel_rfl) ?_ _
        refine NoPanic.normal ?_
        go_wp2
        refine bodyPost_ret (res_ccc Try.results11 (by rfl) (by rfl) (by rfl) (HF3.out.load 2 rfl rfl Try.underlying29 (by kernel_rfl)) (HF3.out.load 3 rfl rfl Try.underlying31 (by kernel_rfl)) (HF3.out.load 4 rfl rfl Try.underlying39 (by kernel_rfl))) rfl ?_
        replace FR := HF3
        rw [HE.out]
        exact ⟨rfl, FR.out.out⟩
  have n2 : (phase == 2) = false := by simp [p2]
  by_cases p3 : phase = 3
  · subst p3
    have HO : lockM o0 ⟨op, stage, 3, old, since, left, awoke, starve, need, front⟩ now pat = (o0, ⟨op, stage, if hasBit o0 2 then 4 else 2, o0, since, left, awoke || decide (¬ hasBit o0 2), starve || decide (pat < IntKind.i64.wrap (now - since)), need, front⟩, noA) := by
      unfold lockM
      rw [if_neg (fun h => (show ¬ ((3 : Int) = 0) by decide) h.1), if_neg (fun h => by rcases h with h | h; exact (show ¬ ((3 : Int) = 0) by decide) h; exact (show ¬ ((3 : Int) = 2) by decide) h.1), if_neg (fun h => (show ¬ ((3 : Int) = 1) by decide) h), if_neg (fun h => (show ¬ ((3 : Int) = 2) by decide) h), if_pos rfl]
    obtain ⟨x, hx⟩ : ∃ x, IntKind.i64.wrap (now - since) = x := ⟨_, rfl⟩
    rw [hx] at HO
    have B2 := fun (W : World) => bit15_any o0 2 (by omega) W
    clear p0 p1 p2 n0 n1 n2
    cases hc : decide (pat < x)
    · rw [hc] at HO
      cases hb2 : decide (hasBit o0 2)
      · rw [hb2] at B2
        replace B2 := Lib.hid B2
        have HE := Lib.hid (show lockM o0 ⟨op, stage, 3, old, since, left, awoke, starve, need, front⟩ now pat = (o0, ⟨op, stage, 2, o0, since, left, true, starve, need, front⟩, noA) from HO.trans (by simp only [Bool.or_false, Bool.or_true, if_neg (of_decide_eq_false hb2), decide_eq_true (of_decide_eq_false hb2)]))
        clear HO hb2
        go_enter Try.func11, Try.ntmps11
        obtain ⟨ac00, ac01, ac02, ac03, ac04, ac05, ac06, ac07, ac08, ac09, ac010⟩ := row11 (b := q) (FR.out.at 0 rfl rfl)
        obtain ⟨ac10, ac11, ac12, ac13, ac14, ac15, ac16, ac17, ac18, ac19⟩ := row10 (b := q + 1) (FR.out.at 1 rfl rfl)
        have af12 : v5.frozen? ⟨q + 1, 2, none⟩ = false := FR.out.frozen 1 2 rfl rfl
        have af13 : v5.frozen? ⟨q + 1, 3, none⟩ = false := FR.out.frozen 1 3 rfl rfl
        obtain ⟨w6p, hw6p⟩ : ∃ W, ((v5.setCell ⟨q + 1, 3, none⟩ (.int .i64 o0)).setCell ⟨q + 1, 2, none⟩ (.int .i64 4)) = W := ⟨_, rfl⟩
        replace FR := Lib.hid ((((FR.out.set 1 3 rfl rfl (.int .i64 o0)).set 1 2 rfl rfl (.int .i64 4))).eqw hw6p)
        obtain ⟨cc00, cc01, cc02, cc03, cc04, cc05, cc06, cc07, cc08, cc09, cc010⟩ := row11 (b := q) (FR.out.at 0 rfl rfl)
        obtain ⟨cc10, cc11, cc12, cc13, cc14, cc15, cc16, cc17, cc18, cc19⟩ := row10 (b := q + 1) (FR.out.at 1 rfl rfl)
        go_wp2_with fail
        refine (B2.out _).mono ?_
        rintro e wz ⟨rfl, hw⟩
        obtain rfl := hw.symm
        clear ac00 ac01 ac02 ac03 ac04 ac05 ac06 ac07 ac08 ac09 ac010 ac10 ac11 ac12 ac13 ac14 ac15 ac16 ac17 ac18 ac19 af12 af13 cc00 cc01 cc02 cc03 cc04 cc05 cc06 cc07 cc08 cc09 cc010 cc10 cc11 cc12 cc13 cc14 cc15 cc16 cc17 cc18 cc19
        obtain ⟨ac00, ac01, ac02, ac03, ac04, ac05, ac06, ac07, ac08, ac09, ac010⟩ := row11 (b := q) (FR.out.at 0 rfl rfl)
        obtain ⟨ac10, ac11, ac12, ac13, ac14, ac15, ac16, ac17, ac18, ac19⟩ := row10 (b := q + 1) (FR.out.at 1 rfl rfl)
        have af12 : w6p.frozen? ⟨q + 1, 2, none⟩ = false := FR.out.frozen 1 2 rfl rfl
        have af16 : w6p.frozen? ⟨q + 1, 6, none⟩ = false := FR.out.frozen 1 6 rfl rfl
        obtain ⟨w7p, hw7p⟩ : ∃ W, ((w6p.setCell ⟨q + 1, 6, none⟩ (.bool true)).setCell ⟨q + 1, 2, none⟩ (.int .i64 2)) = W := ⟨_, rfl⟩
        replace FR := Lib.hid ((((FR.out.set 1 6 rfl rfl (.bool true)).set 1 2 rfl rfl (.int .i64 2))).eqw hw7p)
        obtain ⟨bc00, bc01, bc02, bc03, bc04, bc05, bc06, bc07, bc08, bc09, bc010⟩ := row11 (b := q) (FR.out.at 0 rfl rfl)
        obtain ⟨bc10, bc11, bc12, bc13, bc14, bc15, bc16, bc17, bc18, bc19⟩ := row10 (b := q + 1) (FR.out.at 1 rfl rfl)
        go_wp2
        clear ac00 ac01 ac02 ac03 ac04 ac05 ac06 ac07 ac08 ac09 ac010 ac10 ac11 ac12 ac13 ac14 ac15 ac16 ac17 ac18 ac19 af12 af16 bc00 bc01 bc02 bc03 bc04 bc05 bc06 bc07 bc08 bc09 bc010 bc10 bc11 bc12 bc13 bc14 bc15 bc16 bc17 bc18 bc19
        have HF0 := Lib.hid FR.out.drew
        obtain ⟨w8r, hw8r⟩ : ∃ W, w7p.drew.setCells (q + 2) 0 [.int .i64 kd, .int .i64 o0, .int .i64 o1, .int .i64 o2, .int .i64 o3, .int .i64 o4, .int .i64 o5, .int .u32 wa, .int .u32 to, .slice A n c, .slice B m d] = W := ⟨_, rfl⟩
        have HF1 := Lib.hid ((HF0.out.all 2 rfl rfl (by rfl)).eqw hw8r)
        have hh1 := Lib.hid hw8r
        clear hw8r
        obtain ⟨w9r, hw9r⟩ : ∃ W, w8r.setCells (q + 3) 0 [.int .i64 op, .int .i64 stage, .int .i64 2, .int .i64 o0, .int .i64 since, .int .i64 left, .bool true, .bool starve, .int .i64 need, .bool front] = W := ⟨_, rfl⟩
        have HF2 := Lib.hid ((HF1.out.all 3 rfl rfl (by rfl)).eqw hw9r)
        have hh2 := Lib.hid hw9r
        clear hw9r
        obtain ⟨w10r, hw10r⟩ : ∃ W, w9r.setCells (q + 4) 0 [.bool false, .bool false, .bool false, .int .i64 0, .int .i64 0, .int .u64 0, .slice none 0 0] = W := ⟨_, rfl⟩
        have HF3 := Lib.hid ((HF2.out.all 4 rfl rfl (by rfl)).eqw hw10r)
        have hh3 := Lib.hid hw10r
        clear hw10r
        refine wp_region_noPanic ?_
        refine wp_region_held_drew (S := (fun wv => Hid (wv.heap[q]? = some (.cells #[.int .i64 kd, .int .i64 o0, .int .i64 o1, .int .i64 o2, .int .i64 o3, .int .i64 o4, .int .i64 o5, .int .u32 wa, .int .u32 to, .slice A n c, .slice B m d] 29) ∧ wv.heap[q + 1]? = some (.cells #[.int .i64 op, .int .i64 stage, .int .i64 2, .int .i64 o0, .int .i64 since, .int .i64 left, .bool true, .bool starve, .int .i64 need, .bool front] 31)))) (by kernel_rfl) (Lib.hid (show w7p.drew.heap[q]? = some (.cells #[.int .i64 kd, .int .i64 o0, .int .i64 o1, .int .i64 o2, .int .i64 o3, .int .i64 o4, .int .i64 o5, .int .u32 wa, .int .u32 to, .slice A n c, .slice B m d] 29) ∧ w7p.drew.heap[q + 1]? = some (.cells #[.int .i64 op, .int .i64 stage, .int .i64 2, .int .i64 o0, .int .i64 since, .int .i64 left, .bool true, .bool starve, .int .i64 need, .bool front] 31) from ⟨HF0.out.blk 0 _ rfl, HF0.out.blk 1 _ rfl⟩)) (fun hS => ?_)
        refine wpAnyH_take (i := 0) (oi := ⟨some 107, .load 29 (.tmp 4), 29, "ref.go:69", #[], none⟩) (v := .agg (([.int .i64 kd, .int .i64 o0, .int .i64 o1, .int .i64 o2, .int .i64 o3, .int .i64 o4, .int .i64 o5, .int .u32 wa, .int .u32 to, .slice A n c, .slice B m d] : List Value)).toArray) rfl (by kernel_rfl) (by kernel_rfl) (by kernel_rfl) (fun _ _ _ h => h) (yieldsIf_load_mid (by rfl) _ _ (by rfl) (q) (0) (by rfl) (([.int .i64 kd, .int .i64 o0, .int .i64 o1, .int .i64 o2, .int .i64 o3, .int .i64 o4, .int .i64 o5, .int .u32 wa, .int .u32 to, .slice A n c, .slice B m d] : List Value)) _ (fun wv hS => blk_rngl hS.out.1) Try.underlying29 (by rfl) (by kernel_rfl)) hS ?_
        try simp only [Act.put, List.setIfInBounds_toArray, List.set_cons_zero, List.set_cons_succ]
        refine wpAnyH_take (i := 1) (oi := ⟨some 108, .load 31 (.tmp 5), 31, "ref.go:69", #[⟨3, .gcOnly .lateStores⟩], none⟩) (v := .agg (([.int .i64 op, .int .i64 stage, .int .i64 2, .int .i64 o0, .int .i64 since, .int .i64 left, .bool true, .bool starve, .int .i64 need, .bool front] : List Value)).toArray) rfl (by kernel_rfl) (by kernel_rfl) (by kernel_rfl) (fun _ _ _ h => h) (yieldsIf_load_mid (by rfl) _ _ (by rfl) (q + 1) (0) (by rfl) (([.int .i64 op, .int .i64 stage, .int .i64 2, .int .i64 o0, .int .i64 since, .int .i64 left, .bool true, .bool starve, .int .i64 need, .bool front] : List Value)) _ (fun wv hS => blk_rngl hS.out.2) Try.underlying31 (by rfl) (by kernel_rfl)) hS ?_
        try simp only [Act.put, List.setIfInBounds_toArray, List.set_cons_zero, List.set_cons_succ]
        refine wpAnyH_take (i := 2) (oi := ⟨some 109, .build 39 #[], 39, "ref.go:69", #[⟨4, .gcOnly .lateStores⟩], none⟩) (v := ?_) rfl (by kernel_rfl) (by kernel_rfl) (by kernel_rfl) (fun _ _ _ h => h) (Or.inl ⟨by rfl, ?_⟩) hS ?_
        rotate_left
        · intro wv _; go_simp; try with_reducible rfl
        try simp only [Act.put, List.setIfInBounds_toArray, List.set_cons_zero, List.set_cons_succ]
        refine wpAnyH_ready (rs := [3]) (by kernel_rfl) (by simp) (AllReadyH.cons (o := ⟨none, .store 29 (.tmp 8) (.tmp 107), 0, "ref.go:69", #[⟨0, .data⟩, ⟨0, .phase⟩, ⟨1, .textOnly .lateStores⟩, ⟨2, .textOnly .lateStores⟩], none⟩) rfl (fun K hK => ?_) AllReadyH.nil)
        refine op_storeS (by rfl) rfl rfl rfl (there_blk (HF0.out.blk 2 _ rfl) rfl) (by kernel_rfl) (by simp [Value.oneCell']) hh1.out ?_
        replace hS := Lib.hid (show w8r.heap[q]? = some (.cells #[.int .i64 kd, .int .i64 o0, .int .i64 o1, .int .i64 o2, .int .i64 o3, .int .i64 o4, .int .i64 o5, .int .u32 wa, .int .u32 to, .slice A n c, .slice B m d] 29) ∧ w8r.heap[q + 1]? = some (.cells #[.int .i64 op, .int .i64 stage, .int .i64 2, .int .i64 o0, .int .i64 since, .int .i64 left, .bool true, .bool starve, .int .i64 need, .bool front] 31) from ⟨HF1.out.blk 0 _ rfl, HF1.out.blk 1 _ rfl⟩)
        refine Shut.out hK _ _ hS (fun _ => ?_)
        clear hK K
        try simp only [Act.put, List.setIfInBounds_toArray, List.set_cons_zero, List.set_cons_succ]
        refine wpAnyH_ready (rs := [4]) (by kernel_rfl) (by simp) (AllReadyH.cons (o := ⟨none, .store 31 (.tmp 9) (.tmp 108), 0, "ref.go:69", #[⟨1, .data⟩, ⟨3, .chain⟩, ⟨0, .phase⟩, ⟨1, .phase⟩, ⟨2, .textOnly .lateStores⟩, ⟨3, .phase⟩], none⟩) rfl (fun K hK => ?_) AllReadyH.nil)
        refine op_storeS (by rfl) rfl rfl rfl (there_blk (HF1.out.blk 3 _ rfl) rfl) (by kernel_rfl) (by simp [Value.oneCell']) hh2.out ?_
        replace hS := Lib.hid (show w9r.heap[q]? = some (.cells #[.int .i64 kd, .int .i64 o0, .int .i64 o1, .int .i64 o2, .int .i64 o3, .int .i64 o4, .int .i64 o5, .int .u32 wa, .int .u32 to, .slice A n c, .slice B m d] 29) ∧ w9r.heap[q + 1]? = some (.cells #[.int .i64 op, .int .i64 stage, .int .i64 2, .int .i64 o0, .int .i64 since, .int .i64 left, .bool true, .bool starve, .int .i64 need, .bool front] 31) from ⟨HF2.out.blk 0 _ rfl, HF2.out.blk 1 _ rfl⟩)
        refine Shut.out hK _ _ hS (fun _ => ?_)
        clear hK K
        try simp only [Act.put, List.setIfInBounds_toArray, List.set_cons_zero, List.set_cons_succ]
        refine wpAnyH_ready (rs := [5]) (by kernel_rfl) (by simp) (AllReadyH.cons (o := ⟨none, .store 39 (.tmp 10) (.tmp 109), 0, "ref.go:69", #[⟨2, .data⟩, ⟨4, .chain⟩, ⟨0, .phase⟩, ⟨1, .phase⟩, ⟨2, .phase⟩, ⟨3, .phase⟩, ⟨4, .phase⟩], none⟩) rfl (fun K hK => ?_) AllReadyH.nil)
        refine op_storeS (by rfl) rfl rfl rfl (there_blk (HF2.out.blk 4 _ rfl) rfl) (by kernel_rfl) (by simp [Value.oneCell']) hh3.out ?_
        replace hS := Lib.hid (show w10r.heap[q]? = some (.cells #[.int .i64 kd, .int .i64 o0, .int .i64 o1, .int .i64 o2, .int .i64 o3, .int .i64 o4, .int .i64 o5, .int .u32 wa, .int .u32 to, .slice A n c, .slice B m d] 29) ∧ w10r.heap[q + 1]? = some (.cells #[.int .i64 op, .int .i64 stage, .int .i64 2, .int .i64 o0, .int .i64 since, .int .i64 left, .bool true, .bool starve, .int .i64 need, .bool front] 31) from ⟨HF3.out.blk 0 _ rfl, HF3.out.blk 1 _ rfl⟩)
        refine Shut.out hK _ _ hS (fun _ => ?_)
        clear hK K
        try simp only [Act.put, List.setIfInBounds_toArray, List.set_cons_zero, List.set_cons_succ]
        refine wpAnyH_done (by kernel_rfl) ?_ _
        refine NoPanic.normal ?_
        go_wp2
        refine bodyPost_ret (res_ccc Try.results11 (by rfl) (by rfl) (by rfl) (HF3.out.load 2 rfl rfl Try.underlying29 (by kernel_rfl)) (HF3.out.load 3 rfl rfl Try.underlying31 (by kernel_rfl)) (HF3.out.load 4 rfl rfl Try.underlying39 (by kernel_rfl))) rfl ?_
        replace FR := HF3
        rw [HE.out]
        exact ⟨rfl, FR.out.out⟩
      · rw [hb2] at B2
        replace B2 := Lib.hid B2
        have hnb : decide (¬ hasBit o0 2) = false := decide_eq_false (not_not_intro (of_decide_eq_true hb2))
        have HE := Lib.hid (show lockM o0 ⟨op, stage, 3, old, since, left, awoke, starve, need, front⟩ now pat = (o0, ⟨op, stage, 4, o0, since, left, awoke, starve, need, front⟩, noA) from HO.trans (by simp only [Bool.or_false, Bool.or_true, if_pos (of_decide_eq_true hb2), hnb]))
        clear HO hb2 hnb
        go_enter Try.func11, Try.ntmps11
        obtain ⟨ac00, ac01, ac02, ac03, ac04, ac05, ac06, ac07, ac08, ac09, ac010⟩ := row11 (b := q) (FR.out.at 0 rfl rfl)
        obtain ⟨ac10, ac11, ac12, ac13, ac14, ac15, ac16, ac17, ac18, ac19⟩ := row10 (b := q + 1) (FR.out.at 1 rfl rfl)
        have af12 : v5.frozen? ⟨q + 1, 2, none⟩ = false := FR.out.frozen 1 2 rfl rfl
        have af13 : v5.frozen? ⟨q + 1, 3, none⟩ = false := FR.out.frozen 1 3 rfl rfl
        obtain ⟨w6p, hw6p⟩ : ∃ W, ((v5.setCell ⟨q + 1, 3, none⟩ (.int .i64 o0)).setCell ⟨q + 1, 2, none⟩ (.int .i64 4)) = W := ⟨_, rfl⟩
        replace FR := Lib.hid ((((FR.out.set 1 3 rfl rfl (.int .i64 o0)).set 1 2 rfl rfl (.int .i64 4))).eqw hw6p)
        obtain ⟨cc00, cc01, cc02, cc03, cc04, cc05, cc06, cc07, cc08, cc09, cc010⟩ := row11 (b := q) (FR.out.at 0 rfl rfl)
        obtain ⟨cc10, cc11, cc12, cc13, cc14, cc15, cc16, cc17, cc18, cc19⟩ := row10 (b := q + 1) (FR.out.at 1 rfl rfl)
        go_wp2_with fail
        refine (B2.out _).mono ?_
        rintro e wz ⟨rfl, hw⟩
        obtain rfl := hw.symm
        clear ac00 ac01 ac02 ac03 ac04 ac05 ac06 ac07 ac08 ac09 ac010 ac10 ac11 ac12 ac13 ac14 ac15 ac16 ac17 ac18 ac19 af12 af13 cc00 cc01 cc02 cc03 cc04 cc05 cc06 cc07 cc08 cc09 cc010 cc10 cc11 cc12 cc13 cc14 cc15 cc16 cc17 cc18 cc19
        obtain ⟨ac00, ac01, ac02, ac03, ac04, ac05, ac06, ac07, ac08, ac09, ac010⟩ := row11 (b := q) (FR.out.at 0 rfl rfl)
        obtain ⟨ac10, ac11, ac12, ac13, ac14, ac15, ac16, ac17, ac18, ac19⟩ := row10 (b := q + 1) (FR.out.at 1 rfl rfl)
        go_wp2
        clear ac00 ac01 ac02 ac03 ac04 ac05 ac06 ac07 ac08 ac09 ac010 ac10 ac11 ac12 ac13 ac14 ac15 ac16 ac17 ac18 ac19
        have HF0 := Lib.hid FR.out.drew
        obtain ⟨w7r, hw7r⟩ : ∃ W, w6p.drew.setCells (q + 2) 0 [.int .i64 kd, .int .i64 o0, .int .i64 o1, .int .i64 o2, .int .i64 o3, .int .i64 o4, .int .i64 o5, .int .u32 wa, .int .u32 to, .slice A n c, .slice B m d] = W := ⟨_, rfl⟩
        have HF1 := Lib.hid ((HF0.out.all 2 rfl rfl (by rfl)).eqw hw7r)
        have hh1 := Lib.hid hw7r
        clear hw7r
        obtain ⟨w8r, hw8r⟩ : ∃ W, w7r.setCells (q + 3) 0 [.int .i64 op, .int .i64 stage, .int .i64 4, .int .i64 o0, .int .i64 since, .int .i64 left, .bool awoke, .bool starve, .int .i64 need, .bool front] = W := ⟨_, rfl⟩
        have HF2 := Lib.hid ((HF1.out.all 3 rfl rfl (by rfl)).eqw hw8r)
        have hh2 := Lib.hid hw8r
        clear hw8r
        obtain ⟨w9r, hw9r⟩ : ∃ W, w8r.setCells (q + 4) 0 [.bool false, .bool false, .bool false, .int .i64 0, .int .i64 0, .int .u64 0, .slice none 0 0] = W := ⟨_, rfl⟩
        have HF3 := Lib.hid ((HF2.out.all 4 rfl rfl (by rfl)).eqw hw9r)
        have hh3 := Lib.hid hw9r
        clear hw9r
        refine wp_region_noPanic ?_
        refine wp_region_held_drew (S := (fun wv => Hid (wv.heap[q]? = some (.cells #[.int .i64 kd, .int .i64 o0, .int .i64 o1, .int .i64 o2, .int .i64 o3, .int .i64 o4, .int .i64 o5, .int .u32 wa, .int .u32 to, .slice A n c, .slice B m d] 29) ∧ wv.heap[q + 1]? = some (.cells #[.int .i64 op, .int .i64 stage, .int .i64 4, .int .i64 o0, .int .i64 since, .int .i64 left, .bool awoke, .bool starve, .int .i64 need, .bool front] 31)))) (by kernel_rfl) (Lib.hid (show w6p.drew.heap[q]? = some (.cells #[.int .i64 kd, .int .i64 o0, .int .i64 o1, .int .i64 o2, .int .i64 o3, .int .i64 o4, .int .i64 o5, .int .u32 wa, .int .u32 to, .slice A n c, .slice B m d] 29) ∧ w6p.drew.heap[q + 1]? = some (.cells #[.int .i64 op, .int .i64 stage, .int .i64 4, .int .i64 o0, .int .i64 since, .int .i64 left, .bool awoke, .bool starve, .int .i64 need, .bool front] 31) from ⟨HF0.out.blk 0 _ rfl, HF0.out.blk 1 _ rfl⟩)) (fun hS => ?_)
        refine wpAnyH_take (i := 0) (oi := ⟨some 107, .load 29 (.tmp 4), 29, "ref.go:69", #[], none⟩) (v := .agg (([.int .i64 kd, .int .i64 o0, .int .i64 o1, .int .i64 o2, .int .i64 o3, .int .i64 o4, .int .i64 o5, .int .u32 wa, .int .u32 to, .slice A n c, .slice B m d] : List Value)).toArray) rfl (by kernel_rfl) (by kernel_rfl) (by kernel_rfl) (fun _ _ _ h => h) (yieldsIf_load_mid (by rfl) _ _ (by rfl) (q) (0) (by rfl) (([.int .i64 kd, .int .i64 o0, .int .i64 o1, .int .i64 o2, .int .i64 o3, .int .i64 o4, .int .i64 o5, .int .u32 wa, .int .u32 to, .slice A n c, .slice B m d] : List Value)) _ (fun wv hS => blk_rngl hS.out.1) Try.underlying29 (by rfl) (by kernel_rfl)) hS ?_
        try simp only [Act.put, List.setIfInBounds_toArray, List.set_cons_zero, List.set_cons_succ]
        refine wpAnyH_take (i := 1) (oi := ⟨some 108, .load 31 (.tmp 5), 31, "ref.go:69", #[⟨3, .gcOnly .lateStores⟩], none⟩) (v := .agg (([.int .i64 op, .int .i64 stage, .int .i64 4, .int .i64 o0, .int .i64 since, .int .i64 left, .bool awoke, .bool starve, .int .i64 need, .bool front] : List Value)).toArray) rfl (by kernel_rfl) (by kernel_rfl) (by kernel_rfl) (fun _ _ _ h => h) (yieldsIf_load_mid (by rfl) _ _ (by rfl) (q + 1) (0) (by rfl) (([.int .i64 op, .int .i64 stage, .int .i64 4, .int .i64 o0, .int .i64 since, .int .i64 left, .bool awoke, .bool starve, .int .i64 need, .bool front] : List Value)) _ (fun wv hS => blk_rngl hS.out.2) Try.underlying31 (by rfl) (by kernel_rfl)) hS ?_
        try simp only [Act.put, List.setIfInBounds_toArray, List.set_cons_zero, List.set_cons_succ]
        refine wpAnyH_take (i := 2) (oi := ⟨some 109, .build 39 #[], 39, "ref.go:69", #[⟨4, .gcOnly .lateStores⟩], none⟩) (v := ?_) rfl (by kernel_rfl) (by kernel_rfl) (by kernel_rfl) (fun _ _ _ h => h) (Or.inl ⟨by rfl, ?_⟩) hS ?_
        rotate_left
        · intro wv _; go_simp; try with_reducible rfl
        try simp only [Act.put, List.setIfInBounds_toArray, List.set_cons_zero, List.set_cons_succ]
        refine wpAnyH_ready (rs := [3]) (by kernel_rfl) (by simp) (AllReadyH.cons (o := ⟨none, .store 29 (.tmp 8) (.tmp 107), 0, "ref.go:69", #[⟨0, .data⟩, ⟨0, .phase⟩, ⟨1, .textOnly .lateStores⟩, ⟨2, .textOnly .lateStores⟩], none⟩) rfl (fun K hK => ?_) AllReadyH.nil)
        refine op_storeS (by rfl) rfl rfl rfl (there_blk (HF0.out.blk 2 _ rfl) rfl) (by kernel_rfl) (by simp [Value.oneCell']) hh1.out ?_
        replace hS := Lib.hid (show w7r.heap[q]? = some (.cells #[.int .i64 kd, .int .i64 o0, .int .i64 o1, .int .i64 o2, .int .i64 o3, .int .i64 o4, .int .i64 o5, .int .u32 wa, .int .u32 to, .slice A n c, .slice B m d] 29) ∧ w7r.heap[q + 1]? = some (.cells #[.int .i64 op, .int .i64 stage, .int .i64 4, .int .i64 o0, .int .i64 since, .int .i64 left, .bool awoke, .bool starve, .int .i64 need, .bool front] 31) from ⟨HF1.out.blk 0 _ rfl, HF1.out.blk 1 _ rfl⟩)
        refine Shut.out hK _ _ hS (fun _ => ?_)
        clear hK K
        try simp only [Act.put, List.setIfInBounds_toArray, List.set_cons_zero, List.set_cons_succ]
        refine wpAnyH_ready (rs := [4]) (by kernel_rfl) (by simp) (AllReadyH.cons (o := ⟨none, .store 31 (.tmp 9) (.tmp 108), 0, "ref.go:69", #[⟨1, .data⟩, ⟨3, .chain⟩, ⟨0, .phase⟩, ⟨1, .phase⟩, ⟨2, .textOnly .lateStores⟩, ⟨3, .phase⟩], none⟩) rfl (fun K hK => ?_) AllReadyH.nil)
        refine op_storeS (by rfl) rfl rfl rfl (there_blk (HF1.out.blk 3 _ rfl) rfl) (by kernel_rfl) (by simp [Value.oneCell']) hh2.out ?_
        replace hS := Lib.hid (show w8r.heap[q]? = some (.cells #[.int .i64 kd, .int .i64 o0, .int .i64 o1, .int .i64 o2, .int .i64 o3, .int .i64 o4, .int .i64 o5, .int .u32 wa, .int .u32 to, .slice A n c, .slice B m d] 29) ∧ w8r.heap[q + 1]? = some (.cells #[.int .i64 op, .int .i64 stage, .int .i64 4, .int .i64 o0, .int .i64 since, .int .i64 left, .bool awoke, .bool starve, .int .i64 need, .bool front] 31) from ⟨HF2.out.blk 0 _ rfl, HF2.out.blk 1 _ rfl⟩)
        refine Shut.out hK _ _ hS (fun _ => ?_)
        clear hK K
        try simp only [Act.put, List.setIfInBounds_toArray, List.set_cons_zero, List.set_cons_succ]
        refine wpAnyH_ready (rs := [5]) (by kernel_rfl) (by simp) (AllReadyH.cons (o := ⟨none, .store 39 (.tmp 10) (.tmp 109), 0, "ref.go:69", #[⟨2, .data⟩, ⟨4, .chain⟩, ⟨0, .phase⟩, ⟨1, .phase⟩, ⟨2, .phase⟩, ⟨3, .phase⟩, ⟨4, .phase⟩], none⟩) rfl (fun K hK => ?_) AllReadyH.nil)
        refine op_storeS (by rfl) rfl rfl rfl (there_blk (HF2.out.blk 4 _ rfl) rfl) (by kernel_rfl) (by simp [Value.oneCell']) hh3.out ?_
        replace hS := Lib.hid (show w9r.heap[q]? = some (.cells #[.int .i64 kd, .int .i64 o0, .int .i64 o1, .int .i64 o2, .int .i64 o3, .int .i64 o4, .int .i64 o5, .int .u32 wa, .int .u32 to, .slice A n c, .slice B m d] 29) ∧ w9r.heap[q + 1]? = some (.cells #[.int .i64 op, .int .i64 stage, .int .i64 4, .int .i64 o0, .int .i64 since, .int .i64 left, .bool awoke, .bool starve, .int .i64 need, .bool front] 31) from ⟨HF3.out.blk 0 _ rfl, HF3.out.blk 1 _ rfl⟩)
        refine Shut.out hK _ _ hS (fun _ => ?_)
        clear hK K
        try simp only [Act.put, List.setIfInBounds_toArray, List.set_cons_zero, List.set_cons_succ]
        refine wpAnyH_done (by kernel_rfl) ?_ _
        refine NoPanic.normal ?_
        go_wp2
        refine bodyPost_ret (res_ccc Try.results11 (by rfl) (by rfl) (by rfl) (HF3.out.load 2 rfl rfl Try.underlying29 (by kernel_rfl)) (HF3.out.load 3 rfl rfl Try.underlying31 (by kernel_rfl)) (HF3.out.load 4 rfl rfl Try.underlying39 (by kernel_rfl))) rfl ?_
        replace FR := HF3
        rw [HE.out]
        exact ⟨rfl, FR.out.out⟩
    · rw [hc] at HO
      cases hb2 : decide (hasBit o0 2)
      · rw [hb2] at B2
        replace B2 := Lib.hid B2
        have HE := Lib.hid (show lockM o0 ⟨op, stage, 3, old, since, left, awoke, starve, need, front⟩ now pat = (o0, ⟨op, stage, 2, o0, since, left, true, true, need, front⟩, noA) from HO.trans (by simp only [Bool.or_false, Bool.or_true, if_neg (of_decide_eq_false hb2), decide_eq_true (of_decide_eq_false hb2)]))
        clear HO hb2
        go_enter Try.func11, Try.ntmps11
        obtain ⟨ac00, ac01, ac02, ac03, ac04, ac05, ac06, ac07, ac08, ac09, ac010⟩ := row11 (b := q) (FR.out.at 0 rfl rfl)
        obtain ⟨ac10, ac11, ac12, ac13, ac14, ac15, ac16, ac17, ac18, ac19⟩ := row10 (b := q + 1) (FR.out.at 1 rfl rfl)
        have af17 : v5.frozen? ⟨q + 1, 7, none⟩ = false := FR.out.frozen 1 7 rfl rfl
        obtain ⟨w6p, hw6p⟩ : ∃ W, (v5.setCell ⟨q + 1, 7, none⟩ (.bool true)) = W := ⟨_, rfl⟩
        replace FR := Lib.hid (((FR.out.set 1 7 rfl rfl (.bool true))).eqw hw6p)
        obtain ⟨bc00, bc01, bc02, bc03, bc04, bc05, bc06, bc07, bc08, bc09, bc010⟩ := row11 (b := q) (FR.out.at 0 rfl rfl)
        obtain ⟨bc10, bc11, bc12, bc13, bc14, bc15, bc16, bc17, bc18, bc19⟩ := row10 (b := q + 1) (FR.out.at 1 rfl rfl)
        have bf12 : w6p.frozen? ⟨q + 1, 2, none⟩ = false := FR.out.frozen 1 2 rfl rfl
        have bf13 : w6p.frozen? ⟨q + 1, 3, none⟩ = false := FR.out.frozen 1 3 rfl rfl
        obtain ⟨w7p, hw7p⟩ : ∃ W, ((w6p.setCell ⟨q + 1, 3, none⟩ (.int .i64 o0)).setCell ⟨q + 1, 2, none⟩ (.int .i64 4)) = W := ⟨_, rfl⟩
        replace FR := Lib.hid ((((FR.out.set 1 3 rfl rfl (.int .i64 o0)).set 1 2 rfl rfl (.int .i64 4))).eqw hw7p)
        obtain ⟨cc00, cc01, cc02, cc03, cc04, cc05, cc06, cc07, cc08, cc09, cc010⟩ := row11 (b := q) (FR.out.at 0 rfl rfl)
        obtain ⟨cc10, cc11, cc12, cc13, cc14, cc15, cc16, cc17, cc18, cc19⟩ := row10 (b := q + 1) (FR.out.at 1 rfl rfl)
        go_wp2_with fail
        refine (B2.out _).mono ?_
        rintro e wz ⟨rfl, hw⟩
        obtain rfl := hw.symm
        clear ac00 ac01 ac02 ac03 ac04 ac05 ac06 ac07 ac08 ac09 ac010 ac10 ac11 ac12 ac13 ac14 ac15 ac16 ac17 ac18 ac19 af17 bc00 bc01 bc02 bc03 bc04 bc05 bc06 bc07 bc08 bc09 bc010 bc10 bc11 bc12 bc13 bc14 bc15 bc16 bc17 bc18 bc19 bf12 bf13 cc00 cc01 cc02 cc03 cc04 cc05 cc06 cc07 cc08 cc09 cc010 cc10 cc11 cc12 cc13 cc14 cc15 cc16 cc17 cc18 cc19
        obtain ⟨ac00, ac01, ac02, ac03, ac04, ac05, ac06, ac07, ac08, ac09, ac010⟩ := row11 (b := q) (FR.out.at 0 rfl rfl)
        obtain ⟨ac10, ac11, ac12, ac13, ac14, ac15, ac16, ac17, ac18, ac19⟩ := row10 (b := q + 1) (FR.out.at 1 rfl rfl)
        have af12 : w7p.frozen? ⟨q + 1, 2, none⟩ = false := FR.out.frozen 1 2 rfl rfl
        have af16 : w7p.frozen? ⟨q + 1, 6, none⟩ = false := FR.out.frozen 1 6 rfl rfl
        obtain ⟨w8p, hw8p⟩ : ∃ W, ((w7p.setCell ⟨q + 1, 6, none⟩ (.bool true)).setCell ⟨q + 1, 2, none⟩ (.int .i64 2)) = W := ⟨_, rfl⟩
        replace FR := Lib.hid ((((FR.out.set 1 6 rfl rfl (.bool true)).set 1 2 rfl rfl (.int .i64 2))).eqw hw8p)
        obtain ⟨bc00, bc01, bc02, bc03, bc04, bc05, bc06, bc07, bc08, bc09, bc010⟩ := row11 (b := q) (FR.out.at 0 rfl rfl)
        obtain ⟨bc10, bc11, bc12, bc13, bc14, bc15, bc16, bc17, bc18, bc19⟩ := row10 (b := q + 1) (FR.out.at 1 rfl rfl)
        go_wp2
        clear ac00 ac01 ac02 ac03 ac04 ac05 ac06 ac07 ac08 ac09 ac010 ac10 ac11 ac12 ac13 ac14 ac15 ac16 ac17 ac18 ac19 af12 af16 bc00 bc01 bc02 bc03 bc04 bc05 bc06 bc07 bc08 bc09 bc010 bc10 bc11 bc12 bc13 bc14 bc15 bc16 bc17 bc18 bc19
        have HF0 := Lib.hid FR.out.drew
        obtain ⟨w9r, hw9r⟩ : ∃ W, w8p.drew.setCells (q + 2) 0 [.int .i64 kd, .int .i64 o0, .int .i64 o1, .int .i64 o2, .int .i64 o3, .int .i64 o4, .int .i64 o5, .int .u32 wa, .int .u32 to, .slice A n c, .slice B m d] = W := ⟨_, rfl⟩
        have HF1 := Lib.hid ((HF0.out.all 2 rfl rfl (by rfl)).eqw hw9r)
        have hh1 := Lib.hid hw9r
        clear hw9r
        obtain ⟨w10r, hw10r⟩ : ∃ W, w9r.setCells (q + 3) 0 [.int .i64 op, .int .i64 stage, .int .i64 2, .int .i64 o0, .int .i64 since, .int .i64 left, .bool true, .bool true, .int .i64 need, .bool front] = W := ⟨_, rfl⟩
        have HF2 := Lib.hid ((HF1.out.all 3 rfl rfl (by rfl)).eqw hw10r)
        have hh2 := Lib.hid hw10r
        clear hw10r
        obtain ⟨w11r, hw11r⟩ : ∃ W, w10r.setCells (q + 4) 0 [.bool false, .bool false, .bool false, .int .i64 0, .int .i64 0, .int .u64 0, .slice none 0 0] = W := ⟨_, rfl⟩
        have HF3 := Lib.hid ((HF2.out.all 4 rfl rfl (by rfl)).eqw hw11r)
        have hh3 := Lib.hid hw11r
        clear hw11r
        refine wp_region_noPanic ?_
        refine wp_region_held_drew (S := (fun wv => Hid (wv.heap[q]? = some (.cells #[.int .i64 kd, .int .i64 o0, .int .i64 o1, .int .i64 o2, .int .i64 o3, .int .i64 o4, .int .i64 o5, .int .u32 wa, .int .u32 to, .slice A n c, .slice B m d] 29) ∧ wv.heap[q + 1]? = some (.cells #[.int .i64 op, .int .i64 stage, .int .i64 2, .int .i64 o0, .int .i64 since, .int .i64 left, .bool true, .bool true, .int .i64 need, .bool front] 31)))) (by kernel_rfl) (Lib.hid (show w8p.drew.heap[q]? = some (.cells #[.int .i64 kd, .int .i64 o0, .int .i64 o1, .int .i64 o2, .int .i64 o3, .int .i64 o4, .int .i64 o5, .int .u32 wa, .int .u32 to, .slice A n c, .slice B m d] 29) ∧ w8p.drew.heap[q + 1]? = some (.cells #[.int .i64 op, .int .i64 stage, .int .i64 2, .int .i64 o0, .int .i64 since, .int .i64 left, .bool true, .bool true, .int .i64 need, .bool front] 31) from ⟨HF0.out.blk 0 _ rfl, HF0.out.blk 1 _ rfl⟩)) (fun hS => ?_)
        refine wpAnyH_take (i := 0) (oi := ⟨some 107, .load 29 (.tmp 4), 29, "ref.go:69", #[], none⟩) (v := .agg (([.int .i64 kd, .int .i64 o0, .int .i64 o1, .int .i64 o2, .int .i64 o3, .int .i64 o4, .int .i64 o5, .int .u32 wa, .int .u32 to, .slice A n c, .slice B m d] : List Value)).toArray) rfl (by kernel_rfl) (by kernel_rfl) (by kernel_rfl) (fun _ _ _ h => h) (yieldsIf_load_mid (by rfl) _ _ (by rfl) (q) (0) (by rfl) (([.int .i64 kd, .int .i64 o0, .int .i64 o1, .int .i64 o2, .int .i64 o3, .int .i64 o4, .int .i64 o5, .int .u32 wa, .int .u32 to, .slice A n c, .slice B m d] : List Value)) _ (fun wv hS => blk_rngl hS.out.1) Try.underlying29 (by rfl) (by kernel_rfl)) hS ?_
        try simp only [Act.put, List.setIfInBounds_toArray, List.set_cons_zero, List.set_cons_succ]
        refine wpAnyH_take (i := 1) (oi := ⟨some 108, .load 31 (.tmp 5), 31, "ref.go:69", #[⟨3, .gcOnly .lateStores⟩], none⟩) (v := .agg (([.int .i64 op, .int .i64 stage, .int .i64 2, .int .i64 o0, .int .i64 since, .int .i64 left, .bool true, .bool true, .int .i64 need, .bool front] : List Value)).toArray) rfl (by kernel_rfl) (by kernel_rfl) (by kernel_rfl) (fun _ _ _ h => h) (yieldsIf_load_mid (by rfl) _ _ (by rfl) (q + 1) (0) (by rfl) (([.int .i64 op, .int .i64 stage, .int .i64 2, .int .i64 o0, .int .i64 since, .int .i64 left, .bool true, .bool true, .int .i64 need, .bool front] : List Value)) _ (fun wv hS => blk_rngl hS.out.2) Try.underlying31 (by rfl) (by kernel_rfl)) hS ?_
        try simp only [Act.put, List.setIfInBounds_toArray, List.set_cons_zero, List.set_cons_succ]
        refine wpAnyH_take (i := 2) (oi := ⟨some 109, .build 39 #[], 39, "ref.go:69", #[⟨4, .gcOnly .lateStores⟩], none⟩) (v := ?_) rfl (by kernel_rfl) (by kernel_rfl) (by kernel_rfl) (fun _ _ _ h => h) (Or.inl ⟨by rfl, ?_⟩) hS ?_
        rotate_left
        · intro wv _; go_simp; try with_reducible rfl
        try simp only [Act.put, List.setIfInBounds_toArray, List.set_cons_zero, List.set_cons_succ]
        refine wpAnyH_ready (rs := [3]) (by kernel_rfl) (by simp) (AllReadyH.cons (o := ⟨none, .store 29 (.tmp 8) (.tmp 107), 0, "ref.go:69", #[⟨0, .data⟩, ⟨0, .phase⟩, ⟨1, .textOnly .lateStores⟩, ⟨2, .textOnly .lateStores⟩], none⟩) rfl (fun K hK => ?_) AllReadyH.nil)
        refine op_storeS (by rfl) rfl rfl rfl (there_blk (HF0.out.blk 2 _ rfl) rfl) (by kernel_rfl) (by simp [Value.oneCell']) hh1.out ?_
        replace hS := Lib.hid (show w9r.heap[q]? = some (.cells #[.int .i64 kd, .int .i64 o0, .int .i64 o1, .int .i64 o2, .int .i64 o3, .int .i64 o4, .int .i64 o5, .int .u32 wa, .int .u32 to, .slice A n c, .slice B m d] 29) ∧ w9r.heap[q + 1]? = some (.cells #[.int .i64 op, .int .i64 stage, .int .i64 2, .int .i64 o0, .int .i64 since, .int .i64 left, .bool true, .bool true, .int .i64 need, .bool front] 31) from ⟨HF1.out.blk 0 _ rfl, HF1.out.blk 1 _ rfl⟩)
        refine Shut.out hK _ _ hS (fun _ => ?_)
        clear hK K
        try simp only [Act.put, List.setIfInBounds_toArray, List.set_cons_zero, List.set_cons_succ]
        refine wpAnyH_ready (rs := [4]) (by kernel_rfl) (by simp) (AllReadyH.cons (o := ⟨none, .store 31 (.tmp 9) (.tmp 108), 0, "ref.go:69", #[⟨1, .data⟩, ⟨3, .chain⟩, ⟨0, .phase⟩, ⟨1, .phase⟩, ⟨2, .textOnly .lateStores⟩, ⟨3, .phase⟩], none⟩) rfl (fun K hK => ?_) AllReadyH.nil)
        refine op_storeS (by rfl) rfl rfl rfl (there_blk (HF1.out.blk 3 _ rfl) rfl) (by kernel_rfl) (by simp [Value.oneCell']) hh2.out ?_
        replace hS := Lib.hid (show w10r.heap[q]? = some (.cells #[.int .i64 kd, .int .i64 o0, .int .i64 o1, .int .i64 o2, .int .i64 o3, .int .i64 o4, .int .i64 o5, .int .u32 wa, .int .u32 to, .slice A n c, .slice B m d] 29) ∧ w10r.heap[q + 1]? = some (.cells #[.int .i64 op, .int .i64 stage, .int .i64 2, .int .i64 o0, .int .i64 since, .int .i64 left, .bool true, .bool true, .int .i64 need, .bool front] 31) from ⟨HF2.out.blk 0 _ rfl, HF2.out.blk 1 _ rfl⟩)
        refine Shut.out hK _ _ hS (fun _ => ?_)
        clear hK K
        try simp only [Act.put, List.setIfInBounds_toArray, List.set_cons_zero, List.set_cons_succ]
        refine wpAnyH_ready (rs := [5]) (by kernel_rfl) (by simp) (AllReadyH.cons (o := ⟨none, .store 39 (.tmp 10) (.tmp 109), 0, "ref.go:69", #[⟨2, .data⟩, ⟨4, .chain⟩, ⟨0, .phase⟩, ⟨1, .phase⟩, ⟨2, .phase⟩, ⟨3, .phase⟩, ⟨4, .phase⟩], none⟩) rfl (fun K hK => ?_) AllReadyH.nil)
        refine op_storeS (by rfl) rfl rfl rfl (there_blk (HF2.out.blk 4 _ rfl) rfl) (by kernel_rfl) (by simp [Value.oneCell']) hh3.out ?_
        replace hS := Lib.hid (show w11r.heap[q]? = some (.cells #[.int .i64 kd, .int .i64 o0, .int .i64 o1, .int .i64 o2, .int .i64 o3, .int .i64 o4, .int .i64 o5, .int .u32 wa, .int .u32 to, .slice A n c, .slice B m d] 29) ∧ w11r.heap[q + 1]? = some (.cells #[.int .i64 op, .int .i64 stage, .int .i64 2, .int .i64 o0, .int .i64 since, .int .i64 left, .bool true, .bool true, .int .i64 need, .bool front] 31) from ⟨HF3.out.blk 0 _ rfl, HF3.out.blk 1 _ rfl⟩)
        refine Shut.out hK _ _ hS (fun _ => ?_)
        clear hK K
        try simp only [Act.put, List.setIfInBounds_toArray, List.set_cons_zero, List.set_cons_succ]
        refine wpAnyH_done (by kernel_rfl) ?_ _
        refine NoPanic.normal ?_
        go_wp2
        refine bodyPost_ret (res_ccc Try.results11 (by rfl) (by rfl) (by rfl) (HF3.out.load 2 rfl rfl Try.underlying29 (by kernel_rfl)) (HF3.out.load 3 rfl rfl Try.underlying31 (by kernel_rfl)) (HF3.out.load 4 rfl rfl Try.underlying39 (by kernel_rfl))) rfl ?_
        replace FR := HF3
        rw [HE.out]
        exact ⟨rfl, FR.out.out⟩
      · rw [hb2] at B2
        replace B2 := Lib.hid B2
        have hnb : decide (¬ hasBit o0 2) = false := decide_eq_false (not_not_intro (of_decide_eq_true hb2))
        have HE := Lib.hid (show lockM o0 ⟨op, stage, 3, old, since, left, awoke, starve, need, front⟩ now pat = (o0, ⟨op, stage, 4, o0, since, left, awoke, true, need, front⟩, noA) from HO.trans (by simp only [Bool.or_false, Bool.or_true, if_pos (of_decide_eq_true hb2), hnb]))
        clear HO hb2 hnb
        go_enter Try.func11, Try.ntmps11
        obtain ⟨ac00, ac01, ac02, ac03, ac04, ac05, ac06, ac07, ac08, ac09, ac010⟩ := row11 (b := q) (FR.out.at 0 rfl rfl)
        obtain ⟨ac10, ac11, ac12, ac13, ac14, ac15, ac16, ac17, ac18, ac19⟩ := row10 (b := q + 1) (FR.out.at 1 rfl rfl)
        have af17 : v5.frozen? ⟨q + 1, 7, none⟩ = false := FR.out.frozen 1 7 rfl rfl
        obtain ⟨w6p, hw6p⟩ : ∃ W, (v5.setCell ⟨q + 1, 7, none⟩ (.bool true)) = W := ⟨_, rfl⟩
        replace FR := Lib.hid (((FR.out.set 1 7 rfl rfl (.bool true))).eqw hw6p)
        obtain ⟨bc00, bc01, bc02, bc03, bc04, bc05, bc06, bc07, bc08, bc09, bc010⟩ := row11 (b := q) (FR.out.at 0 rfl rfl)
        obtain ⟨bc10, bc11, bc12, bc13, bc14, bc15, bc16, bc17, bc18, bc19⟩ := row10 (b := q + 1) (FR.out.at 1 rfl rfl)
        have bf12 : w6p.frozen? ⟨q + 1, 2, none⟩ = false := FR.out.frozen 1 2 rfl rfl
        have bf13 : w6p.frozen? ⟨q + 1, 3, none⟩ = false := FR.out.frozen 1 3 rfl rfl
        obtain ⟨w7p, hw7p⟩ : ∃ W, ((w6p.setCell ⟨q + 1, 3, none⟩ (.int .i64 o0)).setCell ⟨q + 1, 2, none⟩ (.int .i64 4)) = W := ⟨_, rfl⟩
        replace FR := Lib.hid ((((FR.out.set 1 3 rfl rfl (.int .i64 o0)).set 1 2 rfl rfl (.int .i64 4))).eqw hw7p)
        obtain ⟨cc00, cc01, cc02, cc03, cc04, cc05, cc06, cc07, cc08, cc09, cc010⟩ := row11 (b := q) (FR.out.at 0 rfl rfl)
        obtain ⟨cc10, cc11, cc12, cc13, cc14, cc15, cc16, cc17, cc18, cc19⟩ := row10 (b := q + 1) (FR.out.at 1 rfl rfl)
        go_wp2_with fail
        refine (B2.out _).mono ?_
        rintro e wz ⟨rfl, hw⟩
        obtain rfl := hw.symm
        clear ac00 ac01 ac02 ac03 ac04 ac05 ac06 ac07 ac08 ac09 ac010 ac10 ac11 ac12 ac13 ac14 ac15 ac16 ac17 ac18 ac19 af17 bc00 bc01 bc02 bc03 bc04 bc05 bc06 bc07 bc08 bc09 bc010 bc10 bc11 bc12 bc13 bc14 bc15 bc16 bc17 bc18 bc19 bf12 bf13 cc00 cc01 cc02 cc03 cc04 cc05 cc06 cc07 cc08 cc09 cc010 cc10 cc11 cc12 cc13 cc14 cc15 cc16 cc17 cc18 cc19
        obtain ⟨ac00, ac01, ac02, ac03, ac04, ac05, ac06, ac07, ac08, ac09, ac010⟩ := row11 (b := q) (FR.out.at 0 rfl rfl)
        obtain ⟨ac10, ac11, ac12, ac13, ac14, ac15, ac16, ac17, ac18, ac19⟩ := row10 (b := q + 1) (FR.out.at 1 rfl rfl)
        go_wp2
        clear ac00 ac01 ac02 ac03 ac04 ac05 ac06 ac07 ac08 ac09 ac010 ac10 ac11 ac12 ac13 ac14 ac15 ac16 ac17 ac18 ac19
        have HF0 := Lib.hid FR.out.drew
        obtain ⟨w8r, hw8r⟩ : ∃ W, w7p.drew.setCells (q + 2) 0 [.int .i64 kd, .int .i64 o0, .int .i64 o1, .int .i64 o2, .int .i64 o3, .int .i64 o4, .int .i64 o5, .int .u32 wa, .int .u32 to, .slice A n c, .slice B m d] = W := ⟨_, rfl⟩
        have HF1 := Lib.hid ((HF0.out.all 2 rfl rfl (by rfl)).eqw hw8r)
        have hh1 := Lib.hid hw8r
        clear hw8r
        obtain ⟨w9r, hw9r⟩ : ∃ W, w8r.setCells (q + 3) 0 [.int .i64 op, .int .i64 stage, .int .i64 4, .int .i64 o0, .int .i64 since, .int .i64 left, .bool awoke, .bool true, .int .i64 need, .bool front] = W := ⟨_, rfl⟩
        have HF2 := Lib.hid ((HF1.out.all 3 rfl rfl (by rfl)).eqw hw9r)
        have hh2 := Lib.hid hw9r
        clear hw9r
        obtain ⟨w10r, hw10r⟩ : ∃ W, w9r.setCells (q + 4) 0 [.bool false, .bool false, .bool false, .int .i64 0, .int .i64 0, .int .u64 0, .slice none 0 0] = W := ⟨_, rfl⟩
        have HF3 := Lib.hid ((HF2.out.all 4 rfl rfl (by rfl)).eqw hw10r)
        have hh3 := Lib.hid hw10r
        clear hw10r
        refine wp_region_noPanic ?_
        refine wp_region_held_drew (S := (fun wv => Hid (wv.heap[q]? = some (.cells #[.int .i64 kd, .int .i64 o0, .int .i64 o1, .int .i64 o2, .int .i64 o3, .int .i64 o4, .int .i64 o5, .int .u32 wa, .int .u32 to, .slice A n c, .slice B m d] 29) ∧ wv.heap[q + 1]? = some (.cells #[.int .i64 op, .int .i64 stage, .int .i64 4, .int .i64 o0, .int .i64 since, .int .i64 left, .bool awoke, .bool true, .int .i64 need, .bool front] 31)))) (by kernel_rfl) (Lib.hid (show w7p.drew.heap[q]? = some (.cells #[.int .i64 kd, .int .i64 o0, .int .i64 o1, .int .i64 o2, .int .i64 o3, .int .i64 o4, .int .i64 o5, .int .u32 wa, .int .u32 to, .slice A n c, .slice B m d] 29) ∧ w7p.drew.heap[q + 1]? = some (.cells #[.int .i64 op, .int .i64 stage, .int .i64 4, .int .i64 o0, .int .i64 since, .int .i64 left, .bool awoke, .bool true, .int .i64 need, .bool front] 31) from ⟨HF0.out.blk 0 _ rfl, HF0.out.blk 1 _ rfl⟩)) (fun hS => ?_)
        refine wpAnyH_take (i := 0) (oi := ⟨some 107, .load 29 (.tmp 4), 29, "ref.go:69", #[], none⟩) (v := .agg (([.int .i64 kd, .int .i64 o0, .int .i64 o1, .int .i64 o2, .int .i64 o3, .int .i64 o4, .int .i64 o5, .int .u32 wa, .int .u32 to, .slice A n c, .slice B m d] : List Value)).toArray) rfl (by kernel_rfl) (by kernel_rfl) (by kernel_rfl) (fun _ _ _ h => h) (yieldsIf_load_mid (by rfl) _ _ (by rfl) (q) (0) (by rfl) (([.int .i64 kd, .int .i64 o0, .int .i64 o1, .int .i64 o2, .int .i64 o3, .int .i64 o4, .int .i64 o5, .int .u32 wa, .int .u32 to, .slice A n c, .slice B m d] : List Value)) _ (fun wv hS => blk_rngl hS.out.1) Try.underlying29 (by rfl) (by kernel_rfl)) hS ?_
        try simp only [Act.put, List.setIfInBounds_toArray, List.set_cons_zero, List.set_cons_succ]
        refine wpAnyH_take (i := 1) (oi := ⟨some 108, .load 31 (.tmp 5), 31, "ref.go:69", #[⟨3, .gcOnly .lateStores⟩], none⟩) (v := .agg (([.int .i64 op, .int .i64 stage, .int .i64 4, .int .i64 o0, .int .i64 since, .int .i64 left, .bool awoke, .bool true, .int .i64 need, .bool front] : List Value)).toArray) rfl (by kernel_rfl) (by kernel_rfl) (by kernel_rfl) (fun _ _ _ h => h) (yieldsIf_load_mid (by rfl) _ _ (by rfl) (q + 1) (0) (by rfl) (([.int .i64 op, .int .i64 stage, .int .i64 4, .int .i64 o0, .int .i64 since, .int .i64 left, .bool awoke, .bool true, .int .i64 need, .bool front] : List Value)) _ (fun wv hS => blk_rngl hS.out.2) Try.underlying31 (by rfl) (by kernel_rfl)) hS ?_
        try simp only [Act.put, List.setIfInBounds_toArray, List.set_cons_zero, List.set_cons_succ]
        refine wpAnyH_take (i := 2) (oi := ⟨some 109, .build 39 #[], 39, "ref.go:69", #[⟨4, .gcOnly .lateStores⟩], none⟩) (v := ?_) rfl (by kernel_rfl) (by kernel_rfl) (by kernel_rfl) (fun _ _ _ h => h) (Or.inl ⟨by rfl, ?_⟩) hS ?_
        rotate_left
        · intro wv _; go_simp; try with_reducible rfl
        try simp only [Act.put, List.setIfInBounds_toArray, List.set_cons_zero, List.set_cons_succ]
        refine wpAnyH_ready (rs := [3]) (by kernel_rfl) (by simp) (AllReadyH.cons (o := ⟨none, .store 29 (.tmp 8) (.tmp 107), 0, "ref.go:69", #[⟨0, .data⟩, ⟨0, .phase⟩, ⟨1, .textOnly .lateStores⟩, ⟨2, .textOnly .lateStores⟩], none⟩) rfl (fun K hK => ?_) AllReadyH.nil)
        refine op_storeS (by rfl) rfl rfl rfl (there_blk (HF0.out.blk 2 _ rfl) rfl) (by kernel_rfl) (by simp [Value.oneCell']) hh1.out ?_
        replace hS := Lib.hid (show w8r.heap[q]? = some (.cells #[.int .i64 kd, .int .i64 o0, .int .i64 o1, .int .i64 o2, .int .i64 o3, .int .i64 o4, .int .i64 o5, .int .u32 wa, .int .u32 to, .slice A n c, .slice B m d] 29) ∧ w8r.heap[q + 1]? = some (.cells #[.int .i64 op, .int .i64 stage, .int .i64 4, .int .i64 o0, .int .i64 since, .int .i64 left, .bool awoke, .bool true, .int .i64 need, .bool front] 31) from ⟨HF1.out.blk 0 _ rfl, HF1.out.blk 1 _ rfl⟩)
        refine Shut.out hK _ _ hS (fun _ => ?_)
        clear hK K
        try simp only [Act.put, List.setIfInBounds_toArray, List.set_cons_zero, List.set_cons_succ]
        refine wpAnyH_ready (rs := [4]) (by kernel_rfl) (by simp) (AllReadyH.cons (o := ⟨none, .store 31 (.tmp 9) (.tmp 108), 0, "ref.go:69", #[⟨1, .data⟩, ⟨3, .chain⟩, ⟨0, .phase⟩, ⟨1, .phase⟩, ⟨2, .textOnly .lateStores⟩, ⟨3, .phase⟩], none⟩) rfl (fun K hK => ?_) AllReadyH.nil)
        refine op_storeS (by rfl) rfl rfl rfl (there_blk (HF1.out.blk 3 _ rfl) rfl) (by kernel_rfl) (by simp [Value.oneCell']) hh2.out ?_
        replace hS := Lib.hid (show w9r.heap[q]? = some (.cells #[.int .i64 kd, .int .i64 o0, .int .i64 o1, .int .i64 o2, .int .i64 o3, .int .i64 o4, .int .i64 o5, .int .u32 wa, .int .u32 to, .slice A n c, .slice B m d] 29) ∧ w9r.heap[q + 1]? = some (.cells #[.int .i64 op, .int .i64 stage, .int .i64 4, .int .i64 o0, .int .i64 since, .int .i64 left, .bool awoke, .bool true, .int .i64 need, .bool front] 31) from ⟨HF2.out.blk 0 _ rfl, HF2.out.blk 1 _ rfl⟩)
        refine Shut.out hK _ _ hS (fun _ => ?_)
        clear hK K
        try simp only [Act.put, List.setIfInBounds_toArray, List.set_cons_zero, List.set_cons_succ]
        refine wpAnyH_ready (rs := [5]) (by kernel_rfl) (by simp) (AllReadyH.cons (o := ⟨none, .store 39 (.tmp 10) (.tmp 109), 0, "ref.go:69", #[⟨2, .data⟩, ⟨4, .chain⟩, ⟨0, .phase⟩, ⟨1, .phase⟩, ⟨2, .phase⟩, ⟨3, .phase⟩, ⟨4, .phase⟩], none⟩) rfl (fun K hK => ?_) AllReadyH.nil)
        refine op_storeS (by rfl) rfl rfl rfl (there_blk (HF2.out.blk 4 _ rfl) rfl) (by kernel_rfl) (by simp [Value.oneCell']) hh3.out ?_
        replace hS := Lib.hid (show w10r.heap[q]? = some (.cells #[.int .i64 kd, .int .i64 o0, .int .i64 o1, .int .i64 o2, .int .i64 o3, .int .i64 o4, .int .i64 o5, .int .u32 wa, .int .u32 to, .slice A n c, .slice B m d] 29) ∧ w10r.heap[q + 1]? = some (.cells #[.int .i64 op, .int .i64 stage, .int .i64 4, .int .i64 o0, .int .i64 since, .int .i64 left, .bool awoke, .bool true, .int .i64 need, .bool front] 31) from ⟨HF3.out.blk 0 _ rfl, HF3.out.blk 1 _ rfl⟩)
        refine Shut.out hK _ _ hS (fun _ => ?_)
        clear hK K
        try simp only [Act.put, List.setIfInBounds_toArray, List.set_cons_zero, List.set_cons_succ]
        refine wpAnyH_done (by kernel_rfl) ?_ _
        refine NoPanic.normal ?_
        go_wp2
        refine bodyPost_ret (res_ccc Try.results11 (by rfl) (by rfl) (by rfl) (HF3.out.load 2 rfl rfl Try.underlying29 (by kernel_rfl)) (HF3.out.load 3 rfl rfl Try.underlying31 (by kernel_rfl)) (HF3.out.load 4 rfl rfl Try.underlying39 (by kernel_rfl))) rfl ?_
        replace FR := HF3
        rw [HE.out]
        exact ⟨rfl, FR.out.out⟩
  have n3 : (phase == 3) = false := by simp [p3]
  by_cases p4 : phase = 4
  · subst p4
    have HO : lockM o0 ⟨op, stage, 4, old, since, left, awoke, starve, need, front⟩ now pat = (IntKind.i64.wrap (o0 - (if starve = false ∨ old / 8 = 1 then 11 else 7)), noF, doneA) := by
      unfold lockM
      rw [if_neg (fun h => (show ¬ ((4 : Int) = 0) by decide) h.1), if_neg (fun h => by rcases h with h | h; exact (show ¬ ((4 : Int) = 0) by decide) h; exact (show ¬ ((4 : Int) = 2) by decide) h.1), if_neg (fun h => (show ¬ ((4 : Int) = 1) by decide) h), if_neg (fun h => (show ¬ ((4 : Int) = 2) by decide) h), if_neg (fun h => (show ¬ ((4 : Int) = 3) by decide) h), if_pos rfl]
    obtain ⟨x, hx⟩ : ∃ x, old / 8 = x := ⟨_, rfl⟩
    have hx2 : old / 2 ^ 3 = x := hx
    rw [hx] at HO
    clear p0 p1 p2 p3 n0 n1 n2 n3
    cases starve
    · obtain ⟨z, hz⟩ : ∃ z, IntKind.i64.wrap (o0 - 11) = z := ⟨_, rfl⟩
      have HE := Lib.hid (HO.trans (show _ = (z, noF, doneA) from by rw [if_pos (Or.inl rfl), hz]))
      clear HO
      go_enter Try.func11, Try.ntmps11
      obtain ⟨ac00, ac01, ac02, ac03, ac04, ac05, ac06, ac07, ac08, ac09, ac010⟩ := row11 (b := q) (FR.out.at 0 rfl rfl)
      have af01 : v5.frozen? ⟨q, 1, none⟩ = false := FR.out.frozen 0 1 rfl rfl
      obtain ⟨ac10, ac11, ac12, ac13, ac14, ac15, ac16, ac17, ac18, ac19⟩ := row10 (b := q + 1) (FR.out.at 1 rfl rfl)
      obtain ⟨w6p, hw6p⟩ : ∃ W, (v5.setCell ⟨q, 1, none⟩ (.int .i64 z)) = W := ⟨_, rfl⟩
      replace FR := Lib.hid (((FR.out.set 0 1 rfl rfl (.int .i64 z))).eqw hw6p)
      obtain ⟨bc00, bc01, bc02, bc03, bc04, bc05, bc06, bc07, bc08, bc09, bc010⟩ := row11 (b := q) (FR.out.at 0 rfl rfl)
      obtain ⟨bc10, bc11, bc12, bc13, bc14, bc15, bc16, bc17, bc18, bc19⟩ := row10 (b := q + 1) (FR.out.at 1 rfl rfl)
      obtain ⟨mc20, mc21, mc22, mc23, mc24, mc25, mc26, mc27, mc28, mc29, mc210⟩ := row11 (b := q + 2) (FR.out.at 2 rfl rfl)
      obtain ⟨mf20, mf21, mf22, mf23, mf24, mf25, mf26, mf27, mf28, mf29, mf210⟩ := frz11 (b := q + 2) (FR.out.at 2 rfl rfl)
      obtain ⟨w7r, hw7r⟩ : ∃ W, (((((((((((w6p.setCell ⟨q + 2, 0, none⟩ (.int .i64 kd)).setCell ⟨q + 2, 1, none⟩ (.int .i64 z)).setCell ⟨q + 2, 2, none⟩ (.int .i64 o1)).setCell ⟨q + 2, 3, none⟩ (.int .i64 o2)).setCell ⟨q + 2, 4, none⟩ (.int .i64 o3)).setCell ⟨q + 2, 5, none⟩ (.int .i64 o4)).setCell ⟨q + 2, 6, none⟩ (.int .i64 o5)).setCell ⟨q + 2, 7, none⟩ (.int .u32 wa)).setCell ⟨q + 2, 8, none⟩ (.int .u32 to)).setCell ⟨q + 2, 9, none⟩ (.slice A n c)).setCell ⟨q + 2, 10, none⟩ (.slice B m d)) = W := ⟨_, rfl⟩
      replace FR := Lib.hid ((FR.out.all 2 (vs := [.int .i64 kd, .int .i64 z, .int .i64 o1, .int .i64 o2, .int .i64 o3, .int .i64 o4, .int .i64 o5, .int .u32 wa, .int .u32 to, .slice A n c, .slice B m d]) rfl rfl rfl).eqw hw7r)
      obtain ⟨nc30, nc31, nc32, nc33, nc34, nc35, nc36, nc37, nc38, nc39⟩ := row10 (b := q + 3) (FR.out.at 3 rfl rfl)
      obtain ⟨nf30, nf31, nf32, nf33, nf34, nf35, nf36, nf37, nf38, nf39⟩ := frz10 (b := q + 3) (FR.out.at 3 rfl rfl)
      obtain ⟨w8r, hw8r⟩ : ∃ W, ((((((((((w7r.setCell ⟨q + 3, 0, none⟩ (.int .i64 0)).setCell ⟨q + 3, 1, none⟩ (.int .i64 0)).setCell ⟨q + 3, 2, none⟩ (.int .i64 0)).setCell ⟨q + 3, 3, none⟩ (.int .i64 0)).setCell ⟨q + 3, 4, none⟩ (.int .i64 0)).setCell ⟨q + 3, 5, none⟩ (.int .i64 0)).setCell ⟨q + 3, 6, none⟩ (.bool false)).setCell ⟨q + 3, 7, none⟩ (.bool false)).setCell ⟨q + 3, 8, none⟩ (.int .i64 0)).setCell ⟨q + 3, 9, none⟩ (.bool false)) = W := ⟨_, rfl⟩
      replace FR := Lib.hid ((FR.out.all 3 (vs := [.int .i64 0, .int .i64 0, .int .i64 0, .int .i64 0, .int .i64 0, .int .i64 0, .bool false, .bool false, .int .i64 0, .bool false]) rfl rfl rfl).eqw hw8r)
      obtain ⟨oc40, oc41, oc42, oc43, oc44, oc45, oc46⟩ := row7 (b := q + 4) (FR.out.at 4 rfl rfl)
      obtain ⟨of40, of41, of42, of43, of44, of45, of46⟩ := frz7 (b := q + 4) (FR.out.at 4 rfl rfl)
      obtain ⟨w9r, hw9r⟩ : ∃ W, (((((((w8r.setCell ⟨q + 4, 0, none⟩ (.bool true)).setCell ⟨q + 4, 1, none⟩ (.bool false)).setCell ⟨q + 4, 2, none⟩ (.bool false)).setCell ⟨q + 4, 3, none⟩ (.int .i64 0)).setCell ⟨q + 4, 4, none⟩ (.int .i64 0)).setCell ⟨q + 4, 5, none⟩ (.int .u64 0)).setCell ⟨q + 4, 6, none⟩ (.slice none 0 0)) = W := ⟨_, rfl⟩
      replace FR := Lib.hid ((FR.out.all 4 (vs := [.bool true, .bool false, .bool false, .int .i64 0, .int .i64 0, .int .u64 0, .slice none 0 0]) rfl rfl rfl).eqw hw9r)
      go_wp2
      refine bodyPost_ret (res_ccc Try.results11 (by rfl) (by rfl) (by rfl) (FR.out.load 2 rfl rfl Try.underlying29 (by kernel_rfl)) (FR.out.load 3 rfl rfl Try.underlying31 (by kernel_rfl)) (FR.out.load 4 rfl rfl Try.underlying39 (by kernel_rfl))) rfl ?_
      rw [HE.out]
      exact ⟨rfl, FR.out.out⟩
    · by_cases h1 : x = 1
      · have e1 : (x == 1) = true := by simp [h1]
        obtain ⟨z, hz⟩ : ∃ z, IntKind.i64.wrap (o0 - 11) = z := ⟨_, rfl⟩
        have HE := Lib.hid (HO.trans (show _ = (z, noF, doneA) from by rw [if_pos (Or.inr h1), hz]))
        clear HO
        go_enter Try.func11, Try.ntmps11
        obtain ⟨ac00, ac01, ac02, ac03, ac04, ac05, ac06, ac07, ac08, ac09, ac010⟩ := row11 (b := q) (FR.out.at 0 rfl rfl)
        have af01 : v5.frozen? ⟨q, 1, none⟩ = false := FR.out.frozen 0 1 rfl rfl
        obtain ⟨ac10, ac11, ac12, ac13, ac14, ac15, ac16, ac17, ac18, ac19⟩ := row10 (b := q + 1) (FR.out.at 1 rfl rfl)
        obtain ⟨w6p, hw6p⟩ : ∃ W, (v5.setCell ⟨q, 1, none⟩ (.int .i64 z)) = W := ⟨_, rfl⟩
        replace FR := Lib.hid (((FR.out.set 0 1 rfl rfl (.int .i64 z))).eqw hw6p)
        obtain ⟨bc00, bc01, bc02, bc03, bc04, bc05, bc06, bc07, bc08, bc09, bc010⟩ := row11 (b := q) (FR.out.at 0 rfl rfl)
        obtain ⟨bc10, bc11, bc12, bc13, bc14, bc15, bc16, bc17, bc18, bc19⟩ := row10 (b := q + 1) (FR.out.at 1 rfl rfl)
        obtain ⟨mc20, mc21, mc22, mc23, mc24, mc25, mc26, mc27, mc28, mc29, mc210⟩ := row11 (b := q + 2) (FR.out.at 2 rfl rfl)
        obtain ⟨mf20, mf21, mf22, mf23, mf24, mf25, mf26, mf27, mf28, mf29, mf210⟩ := frz11 (b := q + 2) (FR.out.at 2 rfl rfl)
        obtain ⟨w7r, hw7r⟩ : ∃ W, (((((((((((w6p.setCell ⟨q + 2, 0, none⟩ (.int .i64 kd)).setCell ⟨q + 2, 1, none⟩ (.int .i64 z)).setCell ⟨q + 2, 2, none⟩ (.int .i64 o1)).setCell ⟨q + 2, 3, none⟩ (.int .i64 o2)).setCell ⟨q + 2, 4, none⟩ (.int .i64 o3)).setCell ⟨q + 2, 5, none⟩ (.int .i64 o4)).setCell ⟨q + 2, 6, none⟩ (.int .i64 o5)).setCell ⟨q + 2, 7, none⟩ (.int .u32 wa)).setCell ⟨q + 2, 8, none⟩ (.int .u32 to)).setCell ⟨q + 2, 9, none⟩ (.slice A n c)).setCell ⟨q + 2, 10, none⟩ (.slice B m d)) = W := ⟨_, rfl⟩
        replace FR := Lib.hid ((FR.out.all 2 (vs := [.int .i64 kd, .int .i64 z, .int .i64 o1, .int .i64 o2, .int .i64 o3, .int .i64 o4, .int .i64 o5, .int .u32 wa, .int .u32 to, .slice A n c, .slice B m d]) rfl rfl rfl).eqw hw7r)
        obtain ⟨nc30, nc31, nc32, nc33, nc34, nc35, nc36, nc37, nc38, nc39⟩ := row10 (b := q + 3) (FR.out.at 3 rfl rfl)
        obtain ⟨nf30, nf31, nf32, nf33, nf34, nf35, nf36, nf37, nf38, nf39⟩ := frz10 (b := q + 3) (FR.out.at 3 rfl rfl)
        obtain ⟨w8r, hw8r⟩ : ∃ W, ((((((((((w7r.setCell ⟨q + 3, 0, none⟩ (.int .i64 0)).setCell ⟨q + 3, 1, none⟩ (.int .i64 0)).setCell ⟨q + 3, 2, none⟩ (.int .i64 0)).setCell ⟨q + 3, 3, none⟩ (.int .i64 0)).setCell ⟨q + 3, 4, none⟩ (.int .i64 0)).setCell ⟨q + 3, 5, none⟩ (.int .i64 0)).setCell ⟨q + 3, 6, none⟩ (.bool false)).setCell ⟨q + 3, 7, none⟩ (.bool false)).setCell ⟨q + 3, 8, none⟩ (.int .i64 0)).setCell ⟨q + 3, 9, none⟩ (.bool false)) = W := ⟨_, rfl⟩
        replace FR := Lib.hid ((FR.out.all 3 (vs := [.int .i64 0, .int .i64 0, .int .i64 0, .int .i64 0, .int .i64 0, .int .i64 0, .bool false, .bool false, .int .i64 0, .bool false]) rfl rfl rfl).eqw hw8r)
        obtain ⟨oc40, oc41, oc42, oc43, oc44, oc45, oc46⟩ := row7 (b := q + 4) (FR.out.at 4 rfl rfl)
        obtain ⟨of40, of41, of42, of43, of44, of45, of46⟩ := frz7 (b := q + 4) (FR.out.at 4 rfl rfl)
        obtain ⟨w9r, hw9r⟩ : ∃ W, (((((((w8r.setCell ⟨q + 4, 0, none⟩ (.bool true)).setCell ⟨q + 4, 1, none⟩ (.bool false)).setCell ⟨q + 4, 2, none⟩ (.bool false)).setCell ⟨q + 4, 3, none⟩ (.int .i64 0)).setCell ⟨q + 4, 4, none⟩ (.int .i64 0)).setCell ⟨q + 4, 5, none⟩ (.int .u64 0)).setCell ⟨q + 4, 6, none⟩ (.slice none 0 0)) = W := ⟨_, rfl⟩
        replace FR := Lib.hid ((FR.out.all 4 (vs := [.bool true, .bool false, .bool false, .int .i64 0, .int .i64 0, .int .u64 0, .slice none 0 0]) rfl rfl rfl).eqw hw9r)
        go_wp2
        refine bodyPost_ret (res_ccc Try.results11 (by rfl) (by rfl) (by rfl) (FR.out.load 2 rfl rfl Try.underlying29 (by kernel_rfl)) (FR.out.load 3 rfl rfl Try.underlying31 (by kernel_rfl)) (FR.out.load 4 rfl rfl Try.underlying39 (by kernel_rfl))) rfl ?_
        rw [HE.out]
        exact ⟨rfl, FR.out.out⟩
      · have e1 : (x == 1) = false := by simp [h1]
        obtain ⟨z, hz⟩ : ∃ z, IntKind.i64.wrap (o0 - 7) = z := ⟨_, rfl⟩
        have HE := Lib.hid (HO.trans (show _ = (z, noF, doneA) from by rw [if_neg (fun h => by rcases h with h | h; cases h; exact h1 h), hz]))
        clear HO
        go_enter Try.func11, Try.ntmps11
        obtain ⟨ac00, ac01, ac02, ac03, ac04, ac05, ac06, ac07, ac08, ac09, ac010⟩ := row11 (b := q) (FR.out.at 0 rfl rfl)
        have af01 : v5.frozen? ⟨q, 1, none⟩ = false := FR.out.frozen 0 1 rfl rfl
        obtain ⟨ac10, ac11, ac12, ac13, ac14, ac15, ac16, ac17, ac18, ac19⟩ := row10 (b := q + 1) (FR.out.at 1 rfl rfl)
        obtain ⟨w6p, hw6p⟩ : ∃ W, (v5.setCell ⟨q, 1, none⟩ (.int .i64 z)) = W := ⟨_, rfl⟩
        replace FR := Lib.hid (((FR.out.set 0 1 rfl rfl (.int .i64 z))).eqw hw6p)
        obtain ⟨bc00, bc01, bc02, bc03, bc04, bc05, bc06, bc07, bc08, bc09, bc010⟩ := row11 (b := q) (FR.out.at 0 rfl rfl)
        obtain ⟨bc10, bc11, bc12, bc13, bc14, bc15, bc16, bc17, bc18, bc19⟩ := row10 (b := q + 1) (FR.out.at 1 rfl rfl)
        obtain ⟨mc20, mc21, mc22, mc23, mc24, mc25, mc26, mc27, mc28, mc29, mc210⟩ := row11 (b := q + 2) (FR.out.at 2 rfl rfl)
        obtain ⟨mf20, mf21, mf22, mf23, mf24, mf25, mf26, mf27, mf28, mf29, mf210⟩ := frz11 (b := q + 2) (FR.out.at 2 rfl rfl)
        obtain ⟨w7r, hw7r⟩ : ∃ W, (((((((((((w6p.setCell ⟨q + 2, 0, none⟩ (.int .i64 kd)).setCell ⟨q + 2, 1, none⟩ (.int .i64 z)).setCell ⟨q + 2, 2, none⟩ (.int .i64 o1)).setCell ⟨q + 2, 3, none⟩ (.int .i64 o2)).setCell ⟨q + 2, 4, none⟩ (.int .i64 o3)).setCell ⟨q + 2, 5, none⟩ (.int .i64 o4)).setCell ⟨q + 2, 6, none⟩ (.int .i64 o5)).setCell ⟨q + 2, 7, none⟩ (.int .u32 wa)).setCell ⟨q + 2, 8, none⟩ (.int .u32 to)).setCell ⟨q + 2, 9, none⟩ (.slice A n c)).setCell ⟨q + 2, 10, none⟩ (.slice B m d)) = W := ⟨_, rfl⟩
        replace FR := Lib.hid ((FR.out.all 2 (vs := [.int .i64 kd, .int .i64 z, .int .i64 o1, .int .i64 o2, .int .i64 o3, .int .i64 o4, .int .i64 o5, .int .u32 wa, .int .u32 to, .slice A n c, .slice B m d]) rfl rfl rfl).eqw hw7r)
        obtain ⟨nc30, nc31, nc32, nc33, nc34, nc35, nc36, nc37, nc38, nc39⟩ := row10 (b := q + 3) (FR.out.at 3 rfl rfl)
        obtain ⟨nf30, nf31, nf32, nf33, nf34, nf35, nf36, nf37, nf38, nf39⟩ := frz10 (b := q + 3) (FR.out.at 3 rfl rfl)
        obtain ⟨w8r, hw8r⟩ : ∃ W, ((((((((((w7r.setCell ⟨q + 3, 0, none⟩ (.int .i64 0)).setCell ⟨q + 3, 1, none⟩ (.int .i64 0)).setCell ⟨q + 3, 2, none⟩ (.int .i64 0)).setCell ⟨q + 3, 3, none⟩ (.int .i64 0)).setCell ⟨q + 3, 4, none⟩ (.int .i64 0)).setCell ⟨q + 3, 5, none⟩ (.int .i64 0)).setCell ⟨q + 3, 6, none⟩ (.bool false)).setCell ⟨q + 3, 7, none⟩ (.bool false)).setCell ⟨q + 3, 8, none⟩ (.int .i64 0)).setCell ⟨q + 3, 9, none⟩ (.bool false)) = W := ⟨_, rfl⟩
        replace FR := Lib.hid ((FR.out.all 3 (vs := [.int .i64 0, .int .i64 0, .int .i64 0, .int .i64 0, .int .i64 0, .int .i64 0, .bool false, .bool false, .int .i64 0, .bool false]) rfl rfl rfl).eqw hw8r)
        obtain ⟨oc40, oc41, oc42, oc43, oc44, oc45, oc46⟩ := row7 (b := q + 4) (FR.out.at 4 rfl rfl)
        obtain ⟨of40, of41, of42, of43, of44, of45, of46⟩ := frz7 (b := q + 4) (FR.out.at 4 rfl rfl)
        obtain ⟨w9r, hw9r⟩ : ∃ W, (((((((w8r.setCell ⟨q + 4, 0, none⟩ (.bool true)).setCell ⟨q + 4, 1, none⟩ (.bool false)).setCell ⟨q + 4, 2, none⟩ (.bool false)).setCell ⟨q + 4, 3, none⟩ (.int .i64 0)).setCell ⟨q + 4, 4, none⟩ (.int .i64 0)).setCell ⟨q + 4, 5, none⟩ (.int .u64 0)).setCell ⟨q + 4, 6, none⟩ (.slice none 0 0)) = W := ⟨_, rfl⟩
        replace FR := Lib.hid ((FR.out.all 4 (vs := [.bool true, .bool false, .bool false, .int .i64 0, .int .i64 0, .int .u64 0, .slice none 0 0]) rfl rfl rfl).eqw hw9r)
        go_wp2
        refine bodyPost_ret (res_ccc Try.results11 (by rfl) (by rfl) (by rfl) (FR.out.load 2 rfl rfl Try.underlying29 (by kernel_rfl)) (FR.out.load 3 rfl rfl Try.underlying31 (by kernel_rfl)) (FR.out.load 4 rfl rfl Try.underlying39 (by kernel_rfl))) rfl ?_
        rw [HE.out]
        exact ⟨rfl, FR.out.out⟩
  have n4 : (phase == 4) = false := by simp [p4]
  have HE := Lib.hid (show lockM o0 ⟨op, stage, phase, old, since, left, awoke, starve, need, front⟩ now pat = (o0, ⟨op, stage, phase, old, since, left, awoke, starve, need, front⟩, noA) from by
    unfold lockM
    rw [if_neg (fun h => p0 h.1), if_neg (fun h => by rcases h with h | h; exact p0 h; exact p2 h.1), if_neg p1, if_neg p2, if_neg p3, if_neg p4])
  clear p0 p1 p2 p3 p4
  go_enter Try.func11, Try.ntmps11
  obtain ⟨ac00, ac01, ac02, ac03, ac04, ac05, ac06, ac07, ac08, ac09, ac010⟩ := row11 (b := q) (FR.out.at 0 rfl rfl)
  obtain ⟨ac10, ac11, ac12, ac13, ac14, ac15, ac16, ac17, ac18, ac19⟩ := row10 (b := q + 1) (FR.out.at 1 rfl rfl)
  go_wp2
  clear ac00 ac01 ac02 ac03 ac04 ac05 ac06 ac07 ac08 ac09 ac010 ac10 ac11 ac12 ac13 ac14 ac15 ac16 ac17 ac18 ac19
  have HF0 := Lib.hid FR.out.drew
  obtain ⟨w6r, hw6r⟩ : ∃ W, v5.drew.setCells (q + 2) 0 [.int .i64 kd, .int .i64 o0, .int .i64 o1, .int .i64 o2, .int .i64 o3, .int .i64 o4, .int .i64 o5, .int .u32 wa, .int .u32 to, .slice A n c, .slice B m d] = W := ⟨_, rfl⟩
  have HF1 := Lib.hid ((HF0.out.all 2 rfl rfl (by rfl)).eqw hw6r)
  have hh1 := Lib.hid hw6r
  clear hw6r
  obtain ⟨w7r, hw7r⟩ : ∃ W, w6r.setCells (q + 3) 0 [.int .i64 op, .int .i64 stage, .int .i64 phase, .int .i64 old, .int .i64 since, .int .i64 left, .bool awoke, .bool starve, .int .i64 need, .bool front] = W := ⟨_, rfl⟩
  have HF2 := Lib.hid ((HF1.out.all 3 rfl rfl (by rfl)).eqw hw7r)
  have hh2 := Lib.hid hw7r
  clear hw7r
  obtain ⟨w8r, hw8r⟩ : ∃ W, w7r.setCells (q + 4) 0 [.bool false, .bool false, .bool false, .int .i64 0, .int .i64 0, .int .u64 0, .slice none 0 0] = W := ⟨_, rfl⟩
  have HF3 := Lib.hid ((HF2.out.all 4 rfl rfl (by rfl)).eqw hw8r)
  have hh3 := Lib.hid hw8r
  clear hw8r
  refine wp_region_noPanic ?_
  refine wp_region_held_drew (S := (fun wv => Hid (wv.heap[q]? = some (.cells #[.int .i64 kd, .int .i64 o0, .int .i64 o1, .int .i64 o2, .int .i64 o3, .int .i64 o4, .int .i64 o5, .int .u32 wa, .int .u32 to, .slice A n c, .slice B m d] 29) ∧ wv.heap[q + 1]? = some (.cells #[.int .i64 op, .int .i64 stage, .int .i64 phase, .int .i64 old, .int .i64 since, .int .i64 left, .bool awoke, .bool starve, .int .i64 need, .bool front] 31)))) (by kernel_rfl) (Lib.hid (show v5.drew.heap[q]? = some (.cells #[.int .i64 kd, .int .i64 o0, .int .i64 o1, .int .i64 o2, .int .i64 o3, .int .i64 o4, .int .i64 o5, .int .u32 wa, .int .u32 to, .slice A n c, .slice B m d] 29) ∧ v5.drew.heap[q + 1]? = some (.cells #[.int .i64 op, .int .i64 stage, .int .i64 phase, .int .i64 old, .int .i64 since, .int .i64 left, .bool awoke, .bool starve, .int .i64 need, .bool front] 31) from ⟨HF0.out.blk 0 _ rfl, HF0.out.blk 1 _ rfl⟩)) (fun hS => ?_)
  refine wpAnyH_take (i := 0) (oi := ⟨some 130, .load 29 (.tmp 4), 29, "ref.go:79", #[], none⟩) (v := .agg (([.int .i64 kd, .int .i64 o0, .int .i64 o1, .int .i64 o2, .int .i64 o3, .int .i64 o4, .int .i64 o5, .int .u32 wa, .int .u32 to, .slice A n c, .slice B m d] : List Value)).toArray) rfl (by kernel_rfl) (by kernel_rfl) (by kernel_rfl) (fun _ _ _ h => h) (yieldsIf_load_mid (by rfl) _ _ (by rfl) (q) (0) (by rfl) (([.int .i64 kd, .int .i64 o0, .int .i64 o1, .int .i64 o2, .int .i64 o3, .int .i64 o4, .int .i64 o5, .int .u32 wa, .int .u32 to, .slice A n c, .slice B m d] : List Value)) _ (fun wv hS => blk_rngl hS.out.1) Try.underlying29 (by rfl) (by kernel_rfl)) hS ?_
  try simp only [Act.put, List.setIfInBounds_toArray, List.set_cons_zero, List.set_cons_succ]
  refine wpAnyH_take (i := 1) (oi := ⟨some 131, .load 31 (.tmp 5), 31, "ref.go:79", #[⟨3, .gcOnly .lateStores⟩], none⟩) (v := .agg (([.int .i64 op, .int .i64 stage, .int .i64 phase, .int .i64 old, .int .i64 since, .int .i64 left, .bool awoke, .bool starve, .int .i64 need, .bool front] : List Value)).toArray) rfl (by kernel_rfl) (by kernel_rfl) (by kernel_rfl) (fun _ _ _ h => h) (yieldsIf_load_mid (by rfl) _ _ (by rfl) (q + 1) (0) (by rfl) (([.int .i64 op, .int .i64 stage, .int .i64 phase, .int .i64 old, .int .i64 since, .int .i64 left, .bool awoke, .bool starve, .int .i64 need, .bool front] : List Value)) _ (fun wv hS => blk_rngl hS.out.2) Try.underlying31 (by rfl) (by kernel_rfl)) hS ?_
  try simp only [Act.put, List.setIfInBounds_toArray, List.set_cons_zero, List.set_cons_succ]
  refine wpAnyH_take (i := 2) (oi := ⟨some 132, .build 39 #[], 39, "ref.go:79", #[⟨4, .gcOnly .lateStores⟩], none⟩) (v := ?_) rfl (by kernel_rfl) (by kernel_rfl) (by kernel_rfl) (fun _ _ _ h => h) (Or.inl ⟨by rfl, ?_⟩) hS ?_
  rotate_left
  · intro wv _; go_simp; try with_reducible rfl
  try simp only [Act.put, List.setIfInBounds_toArray, List.set_cons_zero, List.set_cons_succ]
  refine wpAnyH_ready (rs := [3]) (by kernel_rfl) (by simp) (AllReadyH.cons (o := ⟨none, .store 29 (.tmp 8) (.tmp 130), 0, "ref.go:79", #[⟨0, .data⟩, ⟨0, .phase⟩, ⟨1, .textOnly .lateStores⟩, ⟨2, .textOnly .lateStores⟩], none⟩) rfl (fun K hK => ?_) AllReadyH.nil)
  refine op_storeS (by rfl) rfl rfl rfl (there_blk (HF0.out.blk 2 _ rfl) rfl) (by kernel_rfl) (by simp [Value.oneCell']) hh1.out ?_
  replace hS := Lib.hid (show w6r.heap[q]? = some (.cells #[.int .i64 kd, .int .i64 o0, .int .i64 o1, .int .i64 o2, .int .i64 o3, .int .i64 o4, .int .i64 o5, .int .u32 wa, .int .u32 to, .slice A n c, .slice B m d] 29) ∧ w6r.heap[q + 1]? = some (.cells #[.int .i64 op, .int .i64 stage, .int .i64 phase, .int .i64 old, .int .i64 since, .int .i64 left, .bool awoke, .bool starve, .int .i64 need, .bool front] 31) from ⟨HF1.out.blk 0 _ rfl, HF1.out.blk 1 _ rfl⟩)
  refine Shut.out hK _ _ hS (fun _ => ?_)
  clear hK K
  try simp only [Act.put, List.setIfInBounds_toArray, List.set_cons_zero, List.set_cons_succ]
  refine wpAnyH_ready (rs := [4]) (by kernel_rfl) (by simp) (AllReadyH.cons (o := ⟨none, .store 31 (.tmp 9) (.tmp 131), 0, "ref.go:79", #[⟨1, .data⟩, ⟨3, .chain⟩, ⟨0, .phase⟩, ⟨1, .phase⟩, ⟨2, .textOnly .lateStores⟩, ⟨3, .phase⟩], none⟩) rfl (fun K hK => ?_) AllReadyH.nil)
  refine op_storeS (by rfl) rfl rfl rfl (there_blk (HF1.out.blk 3 _ rfl) rfl) (by kernel_rfl) (by simp [Value.oneCell']) hh2.out ?_
  replace hS := Lib.hid (show w7r.heap[q]? = some (.cells #[.int .i64 kd, .int .i64 o0, .int .i64 o1, .int .i64 o2, .int .i64 o3, .int .i64 o4, .int .i64 o5, .int .u32 wa, .int .u32 to, .slice A n c, .slice B m d] 29) ∧ w7r.heap[q + 1]? = some (.cells #[.int .i64 op, .int .i64 stage, .int .i64 phase, .int .i64 old, .int .i64 since, .int .i64 left, .bool awoke, .bool starve, .int .i64 need, .bool front] 31) from ⟨HF2.out.blk 0 _ rfl, HF2.out.blk 1 _ rfl⟩)
  refine Shut.out hK _ _ hS (fun _ => ?_)
  clear hK K
  try simp only [Act.put, List.setIfInBounds_toArray, List.set_cons_zero, List.set_cons_succ]
  refine wpAnyH_ready (rs := [5]) (by kernel_rfl) (by simp) (AllReadyH.cons (o := ⟨none, .store 39 (.tmp 10) (.tmp 132), 0, "ref.go:79", #[⟨2, .data⟩, ⟨4, .chain⟩, ⟨0, .phase⟩, ⟨1, .phase⟩, ⟨2, .phase⟩, ⟨3, .phase⟩, ⟨4, .phase⟩], none⟩) rfl (fun K hK => ?_) AllReadyH.nil)
  refine op_storeS (by rfl) rfl rfl rfl (there_blk (HF2.out.blk 4 _ rfl) rfl) (by kernel_rfl) (by simp [Value.oneCell']) hh3.out ?_
  replace hS := Lib.hid (show w8r.heap[q]? = some (.cells #[.int .i64 kd, .int .i64 o0, .int .i64 o1, .int .i64 o2, .int .i64 o3, .int .i64 o4, .int .i64 o5, .int .u32 wa, .int .u32 to, .slice A n c, .slice B m d] 29) ∧ w8r.heap[q + 1]? = some (.cells #[.int .i64 op, .int .i64 stage, .int .i64 phase, .int .i64 old, .int .i64 since, .int .i64 left, .bool awoke, .bool starve, .int .i64 need, .bool front] 31) from ⟨HF3.out.blk 0 _ rfl, HF3.out.blk 1 _ rfl⟩)
  refine Shut.out hK _ _ hS (fun _ => ?_)
  clear hK K
  try simp only [Act.put, List.setIfInBounds_toArray, List.set_cons_zero, List.set_cons_succ]
  refine wpAnyH_done (by kernel_rfl) ?_ _
  refine NoPanic.normal ?_
  go_wp2
  refine bodyPost_ret (res_ccc Try.results11 (by rfl) (by rfl) (by rfl) (HF3.out.load 2 rfl rfl Try.underlying29 (by kernel_rfl)) (HF3.out.load 3 rfl rfl Try.underlying31 (by kernel_rfl)) (HF3.out.load 4 rfl rfl Try.underlying39 (by kernel_rfl))) rfl ?_
  replace FR := HF3
  rw [HE.out]
  exact ⟨rfl, FR.out.out⟩
end Go.Proofs.Ytagaijghfikdoaa
