/- Layer 15: what the document's own Unlock answers; no condition. -/
import Derived.Test.YtagaijghfikdoaaMutD
namespace Go.Proofs.Ytagaijghfikdoaa
set_option linter.unusedVariables false
set_option linter.unusedSimpArgs false
open Go.RowKit
set_option maxRecDepth 100000 in
set_option maxHeartbeats 16000000 in
theorem unlock15_any (kd o0 o1 o2 o3 o4 o5 wa to : Int) (A : Option Addr) (n c : Nat) (B : Option Addr) (m d : Nat) (f : MFr) (w : World) : Calls Try.prog 17 #[obV kd o0 o1 o2 o3 o4 o5 wa to A n c B m d, frV f] w (StepC w kd o1 o2 o3 o4 o5 wa to A n c B m d (unlockM o0 f)) := by
  obtain ⟨op, stage, phase, old, since, left, awoke, starve, need, front⟩ := f
  unfold obV frV frC
  simp only
  have B0 := fun (x : Int) (W : World) => bit15_any x 0 (by omega) W
  have B1 := fun (x : Int) (W : World) => bit15_any x 1 (by omega) W
  have B2 := fun (x : Int) (W : World) => bit15_any x 2 (by omega) W
  obtain ⟨v1, hv1⟩ : ∃ W, w.alloc (.cells #[.int .i64 kd, .int .i64 o0, .int .i64 o1, .int .i64 o2, .int .i64 o3, .int .i64 o4, .int .i64 o5, .int .u32 wa, .int .u32 to, .slice A n c, .slice B m d] 29) = W := ⟨_, rfl⟩
  have fr1 : Fr w v1 w.heap.size [.cells #[.int .i64 kd, .int .i64 o0, .int .i64 o1, .int .i64 o2, .int .i64 o3, .int .i64 o4, .int .i64 o5, .int .u32 wa, .int .u32 to, .slice A n c, .slice B m d] 29] := hv1 ▸ Fr.first w _
  have z1 : v1.heap.size = w.heap.size + 1 := by rw [← hv1, Fr.size1]
  obtain ⟨v2, hv2⟩ : ∃ W, v1.alloc (.cells #[.int .i64 op, .int .i64 stage, .int .i64 phase, .int .i64 old, .int .i64 since, .int .i64 left, .bool awoke, .bool starve, .int .i64 need, .bool front] 31) = W := ⟨_, rfl⟩
  have fr2 : Fr w v2 w.heap.size [.cells #[.int .i64 kd, .int .i64 o0, .int .i64 o1, .int .i64 o2, .int .i64 o3, .int .i64 o4, .int .i64 o5, .int .u32 wa, .int .u32 to, .slice A n c, .slice B m d] 29, .cells #[.int .i64 op, .int .i64 stage, .int .i64 phase, .int .i64 old, .int .i64 since, .int .i64 left, .bool awoke, .bool starve, .int .i64 need, .bool front] 31] := hv2 ▸ fr1.more z1 _
  have z2 : v2.heap.size = w.heap.size + 2 := by rw [← hv2, Fr.size1, z1]
  obtain ⟨v3, hv3⟩ : ∃ W, v2.alloc (.cells #[.int .i64 0, .int .i64 0, .int .i64 0, .int .i64 0, .int .i64 0, .int .i64 0, .int .i64 0, .int .u32 0, .int .u32 0, .slice none 0 0, .slice none 0 0] 29) = W := ⟨_, rfl⟩
  have fr3 : Fr w v3 w.heap.size [.cells #[.int .i64 kd, .int .i64 o0, .int .i64 o1, .int .i64 o2, .int .i64 o3, .int .i64 o4, .int .i64 o5, .int .u32 wa, .int .u32 to, .slice A n c, .slice B m d] 29, .cells #[.int .i64 op, .int .i64 stage, .int .i64 phase, .int .i64 old, .int .i64 since, .int .i64 left, .bool awoke, .bool starve, .int .i64 need, .bool front] 31, .cells #[.int .i64 0, .int .i64 0, .int .i64 0, .int .i64 0, .int .i64 0, .int .i64 0, .int .i64 0, .int .u32 0, .int .u32 0, .slice none 0 0, .slice none 0 0] 29] := hv3 ▸ fr2.more z2 _
  have z3 : v3.heap.size = w.heap.size + 3 := by rw [← hv3, Fr.size1, z2]
  obtain ⟨v4, hv4⟩ : ∃ W, v3.alloc (.cells #[.int .i64 0, .int .i64 0, .int .i64 0, .int .i64 0, .int .i64 0, .int .i64 0, .bool false, .bool false, .int .i64 0, .bool false] 31) = W := ⟨_, rfl⟩
  have fr4 : Fr w v4 w.heap.size [.cells #[.int .i64 kd, .int .i64 o0, .int .i64 o1, .int .i64 o2, .int .i64 o3, .int .i64 o4, .int .i64 o5, .int .u32 wa, .int .u32 to, .slice A n c, .slice B m d] 29, .cells #[.int .i64 op, .int .i64 stage, .int .i64 phase, .int .i64 old, .int .i64 since, .int .i64 left, .bool awoke, .bool starve, .int .i64 need, .bool front] 31, .cells #[.int .i64 0, .int .i64 0, .int .i64 0, .int .i64 0, .int .i64 0, .int .i64 0, .int .i64 0, .int .u32 0, .int .u32 0, .slice none 0 0, .slice none 0 0] 29, .cells #[.int .i64 0, .int .i64 0, .int .i64 0, .int .i64 0, .int .i64 0, .int .i64 0, .bool false, .bool false, .int .i64 0, .bool false] 31] := hv4 ▸ fr3.more z3 _
  have z4 : v4.heap.size = w.heap.size + 4 := by rw [← hv4, Fr.size1, z3]
  obtain ⟨v5, hv5⟩ : ∃ W, v4.alloc (.cells #[.bool false, .bool false, .bool false, .int .i64 0, .int .i64 0, .int .u64 0, .slice none 0 0] 39) = W := ⟨_, rfl⟩
  have fr5 : Fr w v5 w.heap.size [.cells #[.int .i64 kd, .int .i64 o0, .int .i64 o1, .int .i64 o2, .int .i64 o3, .int .i64 o4, .int .i64 o5, .int .u32 wa, .int .u32 to, .slice A n c, .slice B m d] 29, .cells #[.int .i64 op, .int .i64 stage, .int .i64 phase, .int .i64 old, .int .i64 since, .int .i64 left, .bool awoke, .bool starve, .int .i64 need, .bool front] 31, .cells #[.int .i64 0, .int .i64 0, .int .i64 0, .int .i64 0, .int .i64 0, .int .i64 0, .int .i64 0, .int .u32 0, .int .u32 0, .slice none 0 0, .slice none 0 0] 29, .cells #[.int .i64 0, .int .i64 0, .int .i64 0, .int .i64 0, .int .i64 0, .int .i64 0, .bool false, .bool false, .int .i64 0, .bool false] 31, .cells #[.bool false, .bool false, .bool false, .int .i64 0, .int .i64 0, .int .u64 0, .slice none 0 0] 39] := hv5 ▸ fr4.more z4 _
  have z5 : v5.heap.size = w.heap.size + 5 := by rw [← hv5, Fr.size1, z4]
  generalize hq : w.heap.size = q at *
  have FR := Lib.hid fr5
  clear fr1 fr2 fr3 fr4 fr5
  by_cases p0 : phase = 0
  · subst p0
    replace B0 := B0 o0
    clear B1
    cases hb0 : decide (hasBit o0 0)
    · rw [hb0] at B0
      replace B0 := Lib.hid B0
      clear B2
      have HE := Lib.hid (show unlockM o0 ⟨op, stage, 0, old, since, left, awoke, starve, need, front⟩ = (o0, noF, ⟨false, 0, false, 1⟩) from if_pos ⟨rfl, of_decide_eq_false hb0⟩)
      clear hb0
      go_enter Try.func17, Try.ntmps17
      obtain ⟨ac00, ac01, ac02, ac03, ac04, ac05, ac06, ac07, ac08, ac09, ac010⟩ := row11 (b := q) (FR.out.at 0 rfl rfl)
      obtain ⟨ac10, ac11, ac12, ac13, ac14, ac15, ac16, ac17, ac18, ac19⟩ := row10 (b := q + 1) (FR.out.at 1 rfl rfl)
      go_wp2_with fail
      refine (B0.out _).mono ?_
      rintro e wz ⟨rfl, hw⟩
      obtain rfl := hw.symm
      clear ac00 ac01 ac02 ac03 ac04 ac05 ac06 ac07 ac08 ac09 ac010 ac10 ac11 ac12 ac13 ac14 ac15 ac16 ac17 ac18 ac19
      obtain ⟨ac00, ac01, ac02, ac03, ac04, ac05, ac06, ac07, ac08, ac09, ac010⟩ := row11 (b := q) (FR.out.at 0 rfl rfl)
      obtain ⟨mc20, mc21, mc22, mc23, mc24, mc25, mc26, mc27, mc28, mc29, mc210⟩ := row11 (b := q + 2) (FR.out.at 2 rfl rfl)
      obtain ⟨mf20, mf21, mf22, mf23, mf24, mf25, mf26, mf27, mf28, mf29, mf210⟩ := frz11 (b := q + 2) (FR.out.at 2 rfl rfl)
      obtain ⟨w6r, hw6r⟩ : ∃ W, (((((((((((v5.setCell ⟨q + 2, 0, none⟩ (.int .i64 kd)).setCell ⟨q + 2, 1, none⟩ (.int .i64 o0)).setCell ⟨q + 2, 2, none⟩ (.int .i64 o1)).setCell ⟨q + 2, 3, none⟩ (.int .i64 o2)).setCell ⟨q + 2, 4, none⟩ (.int .i64 o3)).setCell ⟨q + 2, 5, none⟩ (.int .i64 o4)).setCell ⟨q + 2, 6, none⟩ (.int .i64 o5)).setCell ⟨q + 2, 7, none⟩ (.int .u32 wa)).setCell ⟨q + 2, 8, none⟩ (.int .u32 to)).setCell ⟨q + 2, 9, none⟩ (.slice A n c)).setCell ⟨q + 2, 10, none⟩ (.slice B m d)) = W := ⟨_, rfl⟩
      replace FR := Lib.hid ((FR.out.all 2 (vs := [.int .i64 kd, .int .i64 o0, .int .i64 o1, .int .i64 o2, .int .i64 o3, .int .i64 o4, .int .i64 o5, .int .u32 wa, .int .u32 to, .slice A n c, .slice B m d]) rfl rfl rfl).eqw hw6r)
      obtain ⟨nc30, nc31, nc32, nc33, nc34, nc35, nc36, nc37, nc38, nc39⟩ := row10 (b := q + 3) (FR.out.at 3 rfl rfl)
      obtain ⟨nf30, nf31, nf32, nf33, nf34, nf35, nf36, nf37, nf38, nf39⟩ := frz10 (b := q + 3) (FR.out.at 3 rfl rfl)
      obtain ⟨w7r, hw7r⟩ : ∃ W, ((((((((((w6r.setCell ⟨q + 3, 0, none⟩ (.int .i64 0)).setCell ⟨q + 3, 1, none⟩ (.int .i64 0)).setCell ⟨q + 3, 2, none⟩ (.int .i64 0)).setCell ⟨q + 3, 3, none⟩ (.int .i64 0)).setCell ⟨q + 3, 4, none⟩ (.int .i64 0)).setCell ⟨q + 3, 5, none⟩ (.int .i64 0)).setCell ⟨q + 3, 6, none⟩ (.bool false)).setCell ⟨q + 3, 7, none⟩ (.bool false)).setCell ⟨q + 3, 8, none⟩ (.int .i64 0)).setCell ⟨q + 3, 9, none⟩ (.bool false)) = W := ⟨_, rfl⟩
      replace FR := Lib.hid ((FR.out.all 3 (vs := [.int .i64 0, .int .i64 0, .int .i64 0, .int .i64 0, .int .i64 0, .int .i64 0, .bool false, .bool false, .int .i64 0, .bool false]) rfl rfl rfl).eqw hw7r)
      obtain ⟨oc40, oc41, oc42, oc43, oc44, oc45, oc46⟩ := row7 (b := q + 4) (FR.out.at 4 rfl rfl)
      obtain ⟨of40, of41, of42, of43, of44, of45, of46⟩ := frz7 (b := q + 4) (FR.out.at 4 rfl rfl)
      obtain ⟨w8r, hw8r⟩ : ∃ W, (((((((w7r.setCell ⟨q + 4, 0, none⟩ (.bool false)).setCell ⟨q + 4, 1, none⟩ (.bool false)).setCell ⟨q + 4, 2, none⟩ (.bool false)).setCell ⟨q + 4, 3, none⟩ (.int .i64 0)).setCell ⟨q + 4, 4, none⟩ (.int .i64 1)).setCell ⟨q + 4, 5, none⟩ (.int .u64 0)).setCell ⟨q + 4, 6, none⟩ (.slice none 0 0)) = W := ⟨_, rfl⟩
      replace FR := Lib.hid ((FR.out.all 4 (vs := [.bool false, .bool false, .bool false, .int .i64 0, .int .i64 1, .int .u64 0, .slice none 0 0]) rfl rfl rfl).eqw hw8r)
      go_wp2
      refine bodyPost_ret (res_ccc Try.results17 (by rfl) (by rfl) (by rfl) (FR.out.load 2 rfl rfl Try.underlying29 (by kernel_rfl)) (FR.out.load 3 rfl rfl Try.underlying31 (by kernel_rfl)) (FR.out.load 4 rfl rfl Try.underlying39 (by kernel_rfl))) rfl ?_
      rw [HE.out]
      exact ⟨rfl, FR.out.out⟩
    · rw [hb0] at B0
      replace B0 := Lib.hid B0
      obtain ⟨z, hz⟩ : ∃ z, IntKind.i64.wrap (o0 - 1) = z := ⟨_, rfl⟩
      have HO : unlockM o0 ⟨op, stage, 0, old, since, left, awoke, starve, need, front⟩ = (if o0 = 1 then (0, noF, doneA) else (z, ⟨op, stage, if hasBit o0 2 then 2 else 1, z, since, left, awoke, starve, need, front⟩, noA)) := by
        unfold unlockM
        rw [if_neg (fun h => h.2 (of_decide_eq_true hb0)), if_pos rfl, hz]
      clear hb0
      by_cases h1 : o0 = 1
      · have e1 : (o0 == 1) = true := by simp [h1]
        have ez : z = 0 := by rw [← hz, h1]; rfl
        have HE := Lib.hid (HO.trans (if_pos h1))
        rw [ez] at hz
        clear HO B2 h1 ez
        go_enter Try.func17, Try.ntmps17
        obtain ⟨ac00, ac01, ac02, ac03, ac04, ac05, ac06, ac07, ac08, ac09, ac010⟩ := row11 (b := q) (FR.out.at 0 rfl rfl)
        obtain ⟨ac10, ac11, ac12, ac13, ac14, ac15, ac16, ac17, ac18, ac19⟩ := row10 (b := q + 1) (FR.out.at 1 rfl rfl)
        go_wp2_with fail
        refine (B0.out _).mono ?_
        rintro e wz ⟨rfl, hw⟩
        obtain rfl := hw.symm
        clear ac00 ac01 ac02 ac03 ac04 ac05 ac06 ac07 ac08 ac09 ac010 ac10 ac11 ac12 ac13 ac14 ac15 ac16 ac17 ac18 ac19
        obtain ⟨ac00, ac01, ac02, ac03, ac04, ac05, ac06, ac07, ac08, ac09, ac010⟩ := row11 (b := q) (FR.out.at 0 rfl rfl)
        have af01 : v5.frozen? ⟨q, 1, none⟩ = false := FR.out.frozen 0 1 rfl rfl
        obtain ⟨ac10, ac11, ac12, ac13, ac14, ac15, ac16, ac17, ac18, ac19⟩ := row10 (b := q + 1) (FR.out.at 1 rfl rfl)
        obtain ⟨w6p, hw6p⟩ : ∃ W, (v5.setCell ⟨q, 1, none⟩ (.int .i64 0)) = W := ⟨_, rfl⟩
        replace FR := Lib.hid (((FR.out.set 0 1 rfl rfl (.int .i64 0))).eqw hw6p)
        obtain ⟨bc00, bc01, bc02, bc03, bc04, bc05, bc06, bc07, bc08, bc09, bc010⟩ := row11 (b := q) (FR.out.at 0 rfl rfl)
        obtain ⟨bc10, bc11, bc12, bc13, bc14, bc15, bc16, bc17, bc18, bc19⟩ := row10 (b := q + 1) (FR.out.at 1 rfl rfl)
        obtain ⟨mc20, mc21, mc22, mc23, mc24, mc25, mc26, mc27, mc28, mc29, mc210⟩ := row11 (b := q + 2) (FR.out.at 2 rfl rfl)
        obtain ⟨mf20, mf21, mf22, mf23, mf24, mf25, mf26, mf27, mf28, mf29, mf210⟩ := frz11 (b := q + 2) (FR.out.at 2 rfl rfl)
        obtain ⟨w7r, hw7r⟩ : ∃ W, (((((((((((w6p.setCell ⟨q + 2, 0, none⟩ (.int .i64 kd)).setCell ⟨q + 2, 1, none⟩ (.int .i64 0)).setCell ⟨q + 2, 2, none⟩ (.int .i64 o1)).setCell ⟨q + 2, 3, none⟩ (.int .i64 o2)).setCell ⟨q + 2, 4, none⟩ (.int .i64 o3)).setCell ⟨q + 2, 5, none⟩ (.int .i64 o4)).setCell ⟨q + 2, 6, none⟩ (.int .i64 o5)).setCell ⟨q + 2, 7, none⟩ (.int .u32 wa)).setCell ⟨q + 2, 8, none⟩ (.int .u32 to)).setCell ⟨q + 2, 9, none⟩ (.slice A n c)).setCell ⟨q + 2, 10, none⟩ (.slice B m d)) = W := ⟨_, rfl⟩
        replace FR := Lib.hid ((FR.out.all 2 (vs := [.int .i64 kd, .int .i64 0, .int .i64 o1, .int .i64 o2, .int .i64 o3, .int .i64 o4, .int .i64 o5, .int .u32 wa, .int .u32 to, .slice A n c, .slice B m d]) rfl rfl rfl).eqw hw7r)
        obtain ⟨nc30, nc31, nc32, nc33, nc34, nc35, nc36, nc37, nc38, nc39⟩ := row10 (b := q + 3) (FR.out.at 3 rfl rfl)
        obtain ⟨nf30, nf31, nf32, nf33, nf34, nf35, nf36, nf37, nf38, nf39⟩ := frz10 (b := q + 3) (FR.out.at 3 rfl rfl)
        obtain ⟨w8r, hw8r⟩ : ∃ W, ((((((((((w7r.setCell ⟨q + 3, 0, none⟩ (.int .i64 0)).setCell ⟨q + 3, 1, none⟩ (.int .i64 0)).setCell ⟨q + 3, 2, none⟩ (.int .i64 0)).setCell ⟨q + 3, 3, none⟩ (.int .i64 0)).setCell ⟨q + 3, 4, none⟩ (.int .i64 0)).setCell ⟨q + 3, 5, none⟩ (.int .i64 0)).setCell ⟨q + 3, 6, none⟩ (.bool false)).setCell ⟨q + 3, 7, none⟩ (.bool false)).setCell ⟨q + 3, 8, none⟩ (.int .i64 0)).setCell ⟨q + 3, 9, none⟩ (.bool false)) = W := ⟨_, rfl⟩
        replace FR := Lib.hid ((FR.out.all 3 (vs := [.int .i64 0, .int .i64 0, .int .i64 0, .int .i64 0, .int .i64 0, .int .i64 0, .bool false, .bool false, .int .i64 0, .bool false]) rfl rfl rfl).eqw hw8r)
        obtain ⟨oc40, oc41, oc42, oc43, oc44, oc45, oc46⟩ := row7 (b := q + 4) (FR.out.at 4 rfl rfl)
        obtain ⟨of40, of41, of42, of43, of44, of45, of46⟩ := frz7 (b := q + 4) (FR.out.at 4 rfl rfl)
        obtain ⟨w9r, hw9r⟩ : ∃ W, (((((((w8r.setCell ⟨q + 4, 0, none⟩ (.bool true)).setCell ⟨q + 4, 1, none⟩ (.bool false)).setCell ⟨q + 4, 2, none⟩ (.bool false)).setCell ⟨q + 4, 3, none⟩ (.int .i64 0)).setCell ⟨q + 4, 4, none⟩ (.int .i64 0)).setCell ⟨q + 4, 5, none⟩ (.int .u64 0)).setCell ⟨q + 4, 6, none⟩ (.slice none 0 0)) = W := ⟨_, rfl⟩
        replace FR := Lib.hid ((FR.out.all 4 (vs := [.bool true, .bool false, .bool false, .int .i64 0, .int .i64 0, .int .u64 0, .slice none 0 0]) rfl rfl rfl).eqw hw9r)
        go_wp2
        refine bodyPost_ret (res_ccc Try.results17 (by rfl) (by rfl) (by rfl) (FR.out.load 2 rfl rfl Try.underlying29 (by kernel_rfl)) (FR.out.load 3 rfl rfl Try.underlying31 (by kernel_rfl)) (FR.out.load 4 rfl rfl Try.underlying39 (by kernel_rfl))) rfl ?_
        rw [HE.out]
        exact ⟨rfl, FR.out.out⟩
      · have e1 : (o0 == 1) = false := by simp [h1]
        replace B2 := B2 o0
        cases hb2 : decide (hasBit o0 2)
        · rw [hb2] at B2
          replace B2 := Lib.hid B2
          have HE := Lib.hid (show unlockM o0 ⟨op, stage, 0, old, since, left, awoke, starve, need, front⟩ = (z, ⟨op, stage, 1, z, since, left, awoke, starve, need, front⟩, noA) from HO.trans ((if_neg h1).trans (by rw [if_neg (of_decide_eq_false hb2)])))
          clear HO hb2 h1
          go_enter Try.func17, Try.ntmps17
          obtain ⟨ac00, ac01, ac02, ac03, ac04, ac05, ac06, ac07, ac08, ac09, ac010⟩ := row11 (b := q) (FR.out.at 0 rfl rfl)
          obtain ⟨ac10, ac11, ac12, ac13, ac14, ac15, ac16, ac17, ac18, ac19⟩ := row10 (b := q + 1) (FR.out.at 1 rfl rfl)
          go_wp2_with fail
          refine (B0.out _).mono ?_
          rintro e wz ⟨rfl, hw⟩
          obtain rfl := hw.symm
          clear ac00 ac01 ac02 ac03 ac04 ac05 ac06 ac07 ac08 ac09 ac010 ac10 ac11 ac12 ac13 ac14 ac15 ac16 ac17 ac18 ac19
          obtain ⟨ac00, ac01, ac02, ac03, ac04, ac05, ac06, ac07, ac08, ac09, ac010⟩ := row11 (b := q) (FR.out.at 0 rfl rfl)
          have af01 : v5.frozen? ⟨q, 1, none⟩ = false := FR.out.frozen 0 1 rfl rfl
          obtain ⟨ac10, ac11, ac12, ac13, ac14, ac15, ac16, ac17, ac18, ac19⟩ := row10 (b := q + 1) (FR.out.at 1 rfl rfl)
          obtain ⟨w6p, hw6p⟩ : ∃ W, (v5.setCell ⟨q, 1, none⟩ (.int .i64 z)) = W := ⟨_, rfl⟩
          replace FR := Lib.hid (((FR.out.set 0 1 rfl rfl (.int .i64 z))).eqw hw6p)
          obtain ⟨bc00, bc01, bc02, bc03, bc04, bc05, bc06, bc07, bc08, bc09, bc010⟩ := row11 (b := q) (FR.out.at 0 rfl rfl)
          obtain ⟨bc10, bc11, bc12, bc13, bc14, bc15, bc16, bc17, bc18, bc19⟩ := row10 (b := q + 1) (FR.out.at 1 rfl rfl)
          have bf12 : w6p.frozen? ⟨q + 1, 2, none⟩ = false := FR.out.frozen 1 2 rfl rfl
          have bf13 : w6p.frozen? ⟨q + 1, 3, none⟩ = false := FR.out.frozen 1 3 rfl rfl
          obtain ⟨w7p, hw7p⟩ : ∃ W, ((w6p.setCell ⟨q + 1, 3, none⟩ (.int .i64 z)).setCell ⟨q + 1, 2, none⟩ (.int .i64 1)) = W := ⟨_, rfl⟩
          replace FR := Lib.hid ((((FR.out.set 1 3 rfl rfl (.int .i64 z)).set 1 2 rfl rfl (.int .i64 1))).eqw hw7p)
          obtain ⟨cc00, cc01, cc02, cc03, cc04, cc05, cc06, cc07, cc08, cc09, cc010⟩ := row11 (b := q) (FR.out.at 0 rfl rfl)
          obtain ⟨cc10, cc11, cc12, cc13, cc14, cc15, cc16, cc17, cc18, cc19⟩ := row10 (b := q + 1) (FR.out.at 1 rfl rfl)
          go_wp2_with fail
          refine (B2.out _).mono ?_
          rintro e wz ⟨rfl, hw⟩
          obtain rfl := hw.symm
          clear ac00 ac01 ac02 ac03 ac04 ac05 ac06 ac07 ac08 ac09 ac010 af01 ac10 ac11 ac12 ac13 ac14 ac15 ac16 ac17 ac18 ac19 bc00 bc01 bc02 bc03 bc04 bc05 bc06 bc07 bc08 bc09 bc010 bc10 bc11 bc12 bc13 bc14 bc15 bc16 bc17 bc18 bc19 bf12 bf13 cc00 cc01 cc02 cc03 cc04 cc05 cc06 cc07 cc08 cc09 cc010 cc10 cc11 cc12 cc13 cc14 cc15 cc16 cc17 cc18 cc19
          obtain ⟨ac00, ac01, ac02, ac03, ac04, ac05, ac06, ac07, ac08, ac09, ac010⟩ := row11 (b := q) (FR.out.at 0 rfl rfl)
          obtain ⟨ac10, ac11, ac12, ac13, ac14, ac15, ac16, ac17, ac18, ac19⟩ := row10 (b := q + 1) (FR.out.at 1 rfl rfl)
          go_wp2
          clear ac00 ac01 ac02 ac03 ac04 ac05 ac06 ac07 ac08 ac09 ac010 ac10 ac11 ac12 ac13 ac14 ac15 ac16 ac17 ac18 ac19
          have HF0 := Lib.hid FR.out.drew
          obtain ⟨w8r, hw8r⟩ : ∃ W, w7p.drew.setCells (q + 2) 0 [.int .i64 kd, .int .i64 z, .int .i64 o1, .int .i64 o2, .int .i64 o3, .int .i64 o4, .int .i64 o5, .int .u32 wa, .int .u32 to, .slice A n c, .slice B m d] = W := ⟨_, rfl⟩
          have HF1 := Lib.hid ((HF0.out.all 2 rfl rfl (by rfl)).eqw hw8r)
          have hh1 := Lib.hid hw8r
          clear hw8r
          obtain ⟨w9r, hw9r⟩ : ∃ W, w8r.setCells (q + 3) 0 [.int .i64 op, .int .i64 stage, .int .i64 1, .int .i64 z, .int .i64 since, .int .i64 left, .bool awoke, .bool starve, .int .i64 need, .bool front] = W := ⟨_, rfl⟩
          have HF2 := Lib.hid ((HF1.out.all 3 rfl rfl (by rfl)).eqw hw9r)
          have hh2 := Lib.hid hw9r
          clear hw9r
          obtain ⟨w10r, hw10r⟩ : ∃ W, w9r.setCells (q + 4) 0 [.bool false, .bool false, .bool false, .int .i64 0, .int .i64 0, .int .u64 0, .slice none 0 0] = W := ⟨_, rfl⟩
          have HF3 := Lib.hid ((HF2.out.all 4 rfl rfl (by rfl)).eqw hw10r)
          have hh3 := Lib.hid hw10r
          clear hw10r
          refine wp_region_noPanic ?_
          refine wp_region_held_drew (S := (fun wv => Hid (wv.heap[q]? = some (.cells #[.int .i64 kd, .int .i64 z, .int .i64 o1, .int .i64 o2, .int .i64 o3, .int .i64 o4, .int .i64 o5, .int .u32 wa, .int .u32 to, .slice A n c, .slice B m d] 29) ∧ wv.heap[q + 1]? = some (.cells #[.int .i64 op, .int .i64 stage, .int .i64 1, .int .i64 z, .int .i64 since, .int .i64 left, .bool awoke, .bool starve, .int .i64 need, .bool front] 31)))) (by kernel_rfl) (Lib.hid (show w7p.drew.heap[q]? = some (.cells #[.int .i64 kd, .int .i64 z, .int .i64 o1, .int .i64 o2, .int .i64 o3, .int .i64 o4, .int .i64 o5, .int .u32 wa, .int .u32 to, .slice A n c, .slice B m d] 29) ∧ w7p.drew.heap[q + 1]? = some (.cells #[.int .i64 op, .int .i64 stage, .int .i64 1, .int .i64 z, .int .i64 since, .int .i64 left, .bool awoke, .bool starve, .int .i64 need, .bool front] 31) from ⟨HF0.out.blk 0 _ rfl, HF0.out.blk 1 _ rfl⟩)) (fun hS => ?_)
          refine wpAnyH_take (i := 0) (oi := ⟨some 41, .load 29 (.tmp 2), 29, "ref.go:97", #[], none⟩) (v := .agg (([.int .i64 kd, .int .i64 z, .int .i64 o1, .int .i64 o2, .int .i64 o3, .int .i64 o4, .int .i64 o5, .int .u32 wa, .int .u32 to, .slice A n c, .slice B m d] : List Value)).toArray) rfl (by kernel_rfl) (by kernel_rfl) (by kernel_rfl) (fun _ _ _ h => h) (yieldsIf_load_mid (by rfl) _ _ (by rfl) (q) (0) (by rfl) (([.int .i64 kd, .int .i64 z, .int .i64 o1, .int .i64 o2, .int .i64 o3, .int .i64 o4, .int .i64 o5, .int .u32 wa, .int .u32 to, .slice A n c, .slice B m d] : List Value)) _ (fun wv hS => blk_rngl hS.out.1) Try.underlying29 (by rfl) (by kernel_rfl)) hS ?_
          try simp only [Act.put, List.setIfInBounds_toArray, List.set_cons_zero, List.set_cons_succ]
          refine wpAnyH_take (i := 1) (oi := ⟨some 42, .load 31 (.tmp 3), 31, "ref.go:97", #[⟨3, .gcOnly .lateStores⟩], none⟩) (v := .agg (([.int .i64 op, .int .i64 stage, .int .i64 1, .int .i64 z, .int .i64 since, .int .i64 left, .bool awoke, .bool starve, .int .i64 need, .bool front] : List Value)).toArray) rfl (by kernel_rfl) (by kernel_rfl) (by kernel_rfl) (fun _ _ _ h => h) (yieldsIf_load_mid (by rfl) _ _ (by rfl) (q + 1) (0) (by rfl) (([.int .i64 op, .int .i64 stage, .int .i64 1, .int .i64 z, .int .i64 since, .int .i64 left, .bool awoke, .bool starve, .int .i64 need, .bool front] : List Value)) _ (fun wv hS => blk_rngl hS.out.2) Try.underlying31 (by rfl) (by kernel_rfl)) hS ?_
          try simp only [Act.put, List.setIfInBounds_toArray, List.set_cons_zero, List.set_cons_succ]
          refine wpAnyH_take (i := 2) (oi := ⟨some 43, .build 39 #[], 39, "ref.go:97", #[⟨4, .gcOnly .lateStores⟩], none⟩) (v := ?_) rfl (by kernel_rfl) (by kernel_rfl) (by kernel_rfl) (fun _ _ _ h => h) (Or.inl ⟨by rfl, ?_⟩) hS ?_
          rotate_left
          · intro wv _; go_simp; try with_reducible rfl
          try simp only [Act.put, List.setIfInBounds_toArray, List.set_cons_zero, List.set_cons_succ]
          refine wpAnyH_ready (rs := [3]) (by kernel_rfl) (by simp) (AllReadyH.cons (o := ⟨none, .store 29 (.tmp 4) (.tmp 41), 0, "ref.go:97", #[⟨0, .data⟩, ⟨0, .phase⟩, ⟨1, .textOnly .lateStores⟩, ⟨2, .textOnly .lateStores⟩], none⟩) rfl (fun K hK => ?_) AllReadyH.nil)
          refine op_storeS (by rfl) rfl rfl rfl (there_blk (HF0.out.blk 2 _ rfl) rfl) (by kernel_rfl) (by simp [Value.oneCell']) hh1.out ?_
          replace hS := Lib.hid (show w8r.heap[q]? = some (.cells #[.int .i64 kd, .int .i64 z, .int .i64 o1, .int .i64 o2, .int .i64 o3, .int .i64 o4, .int .i64 o5, .int .u32 wa, .int .u32 to, .slice A n c, .slice B m d] 29) ∧ w8r.heap[q + 1]? = some (.cells #[.int .i64 op, .int .i64 stage, .int .i64 1, .int .i64 z, .int .i64 since, .int .i64 left, .bool awoke, .bool starve, .int .i64 need, .bool front] 31) from ⟨HF1.out.blk 0 _ rfl, HF1.out.blk 1 _ rfl⟩)
          refine Shut.out hK _ _ hS (fun _ => ?_)
          clear hK K
          try simp only [Act.put, List.setIfInBounds_toArray, List.set_cons_zero, List.set_cons_succ]
          refine wpAnyH_ready (rs := [4]) (by kernel_rfl) (by simp) (AllReadyH.cons (o := ⟨none, .store 31 (.tmp 5) (.tmp 42), 0, "ref.go:97", #[⟨1, .data⟩, ⟨3, .chain⟩, ⟨0, .phase⟩, ⟨1, .phase⟩, ⟨2, .textOnly .lateStores⟩, ⟨3, .phase⟩], none⟩) rfl (fun K hK => ?_) AllReadyH.nil)
          refine op_storeS (by rfl) rfl rfl rfl (there_blk (HF1.out.blk 3 _ rfl) rfl) (by kernel_rfl) (by simp [Value.oneCell']) hh2.out ?_
          replace hS := Lib.hid (show w9r.heap[q]? = some (.cells #[.int .i64 kd, .int .i64 z, .int .i64 o1, .int .i64 o2, .int .i64 o3, .int .i64 o4, .int .i64 o5, .int .u32 wa, .int .u32 to, .slice A n c, .slice B m d] 29) ∧ w9r.heap[q + 1]? = some (.cells #[.int .i64 op, .int .i64 stage, .int .i64 1, .int .i64 z, .int .i64 since, .int .i64 left, .bool awoke, .bool starve, .int .i64 need, .bool front] 31) from ⟨HF2.out.blk 0 _ rfl, HF2.out.blk 1 _ rfl⟩)
          refine Shut.out hK _ _ hS (fun _ => ?_)
          clear hK K
          try simp only [Act.put, List.setIfInBounds_toArray, List.set_cons_zero, List.set_cons_succ]
          refine wpAnyH_ready (rs := [5]) (by kernel_rfl) (by simp) (AllReadyH.cons (o := ⟨none, .store 39 (.tmp 6) (.tmp 43), 0, "ref.go:97", #[⟨2, .data⟩, ⟨4, .chain⟩, ⟨0, .phase⟩, ⟨1, .phase⟩, ⟨2, .phase⟩, ⟨3, .phase⟩, ⟨4, .phase⟩], none⟩) rfl (fun K hK => ?_) AllReadyH.nil)
          refine op_storeS (by rfl) rfl rfl rfl (there_blk (HF2.out.blk 4 _ rfl) rfl) (by kernel_rfl) (by simp [Value.oneCell']) hh3.out ?_
          replace hS := Lib.hid (show w10r.heap[q]? = some (.cells #[.int .i64 kd, .int .i64 z, .int .i64 o1, .int .i64 o2, .int .i64 o3, .int .i64 o4, .int .i64 o5, .int .u32 wa, .int .u32 to, .slice A n c, .slice B m d] 29) ∧ w10r.heap[q + 1]? = some (.cells #[.int .i64 op, .int .i64 stage, .int .i64 1, .int .i64 z, .int .i64 since, .int .i64 left, .bool awoke, .bool starve, .int .i64 need, .bool front] 31) from ⟨HF3.out.blk 0 _ rfl, HF3.out.blk 1 _ rfl⟩)
          refine Shut.out hK _ _ hS (fun _ => ?_)
          clear hK K
          try simp only [Act.put, List.setIfInBounds_toArray, List.set_cons_zero, List.set_cons_succ]
          refine wpAnyH_done (by kernel_rfl) ?_ _
          refine NoPanic.normal ?_
          go_wp2
          refine bodyPost_ret (res_ccc Try.results17 (by rfl) (by rfl) (by rfl) (HF3.out.load 2 rfl rfl Try.underlying29 (by kernel_rfl)) (HF3.out.load 3 rfl rfl Try.underlying31 (by kernel_rfl)) (HF3.out.load 4 rfl rfl Try.underlying39 (by kernel_rfl))) rfl ?_
          replace FR := HF3
          rw [HE.out]
          exact ⟨rfl, FR.out.out⟩
        · rw [hb2] at B2
          replace B2 := Lib.hid B2
          have HE := Lib.hid (show unlockM o0 ⟨op, stage, 0, old, since, left, awoke, starve, need, front⟩ = (z, ⟨op, stage, 2, z, since, left, awoke, starve, need, front⟩, noA) from HO.trans ((if_neg h1).trans (by rw [if_pos (of_decide_eq_true hb2)])))
          clear HO hb2 h1
          go_enter Try.func17, Try.ntmps17
          obtain ⟨ac00, ac01, ac02, ac03, ac04, ac05, ac06, ac07, ac08, ac09, ac010⟩ := row11 (b := q) (FR.out.at 0 rfl rfl)
          obtain ⟨ac10, ac11, ac12, ac13, ac14, ac15, ac16, ac17, ac18, ac19⟩ := row10 (b := q + 1) (FR.out.at 1 rfl rfl)
          go_wp2_with fail
          refine (B0.out _).mono ?_
          rintro e wz ⟨rfl, hw⟩
          obtain rfl := hw.symm
          clear ac00 ac01 ac02 ac03 ac04 ac05 ac06 ac07 ac08 ac09 ac010 ac10 ac11 ac12 ac13 ac14 ac15 ac16 ac17 ac18 ac19
          obtain ⟨ac00, ac01, ac02, ac03, ac04, ac05, ac06, ac07, ac08, ac09, ac010⟩ := row11 (b := q) (FR.out.at 0 rfl rfl)
          have af01 : v5.frozen? ⟨q, 1, none⟩ = false := FR.out.frozen 0 1 rfl rfl
          obtain ⟨ac10, ac11, ac12, ac13, ac14, ac15, ac16, ac17, ac18, ac19⟩ := row10 (b := q + 1) (FR.out.at 1 rfl rfl)
          obtain ⟨w6p, hw6p⟩ : ∃ W, (v5.setCell ⟨q, 1, none⟩ (.int .i64 z)) = W := ⟨_, rfl⟩
          replace FR := Lib.hid (((FR.out.set 0 1 rfl rfl (.int .i64 z))).eqw hw6p)
          obtain ⟨bc00, bc01, bc02, bc03, bc04, bc05, bc06, bc07, bc08, bc09, bc010⟩ := row11 (b := q) (FR.out.at 0 rfl rfl)
          obtain ⟨bc10, bc11, bc12, bc13, bc14, bc15, bc16, bc17, bc18, bc19⟩ := row10 (b := q + 1) (FR.out.at 1 rfl rfl)
          have bf12 : w6p.frozen? ⟨q + 1, 2, none⟩ = false := FR.out.frozen 1 2 rfl rfl
          have bf13 : w6p.frozen? ⟨q + 1, 3, none⟩ = false := FR.out.frozen 1 3 rfl rfl
          obtain ⟨w7p, hw7p⟩ : ∃ W, ((w6p.setCell ⟨q + 1, 3, none⟩ (.int .i64 z)).setCell ⟨q + 1, 2, none⟩ (.int .i64 1)) = W := ⟨_, rfl⟩
          replace FR := Lib.hid ((((FR.out.set 1 3 rfl rfl (.int .i64 z)).set 1 2 rfl rfl (.int .i64 1))).eqw hw7p)
          obtain ⟨cc00, cc01, cc02, cc03, cc04, cc05, cc06, cc07, cc08, cc09, cc010⟩ := row11 (b := q) (FR.out.at 0 rfl rfl)
          obtain ⟨cc10, cc11, cc12, cc13, cc14, cc15, cc16, cc17, cc18, cc19⟩ := row10 (b := q + 1) (FR.out.at 1 rfl rfl)
          go_wp2_with fail
          refine (B2.out _).mono ?_
          rintro e wz ⟨rfl, hw⟩
          obtain rfl := hw.symm
          clear ac00 ac01 ac02 ac03 ac04 ac05 ac06 ac07 ac08 ac09 ac010 af01 ac10 ac11 ac12 ac13 ac14 ac15 ac16 ac17 ac18 ac19 bc00 bc01 bc02 bc03 bc04 bc05 bc06 bc07 bc08 bc09 bc010 bc10 bc11 bc12 bc13 bc14 bc15 bc16 bc17 bc18 bc19 bf12 bf13 cc00 cc01 cc02 cc03 cc04 cc05 cc06 cc07 cc08 cc09 cc010 cc10 cc11 cc12 cc13 cc14 cc15 cc16 cc17 cc18 cc19
          obtain ⟨ac00, ac01, ac02, ac03, ac04, ac05, ac06, ac07, ac08, ac09, ac010⟩ := row11 (b := q) (FR.out.at 0 rfl rfl)
          obtain ⟨ac10, ac11, ac12, ac13, ac14, ac15, ac16, ac17, ac18, ac19⟩ := row10 (b := q + 1) (FR.out.at 1 rfl rfl)
          have af12 : w7p.frozen? ⟨q + 1, 2, none⟩ = false := FR.out.frozen 1 2 rfl rfl
          obtain ⟨w8p, hw8p⟩ : ∃ W, (w7p.setCell ⟨q + 1, 2, none⟩ (.int .i64 2)) = W := ⟨_, rfl⟩
          replace FR := Lib.hid (((FR.out.set 1 2 rfl rfl (.int .i64 2))).eqw hw8p)
          obtain ⟨bc00, bc01, bc02, bc03, bc04, bc05, bc06, bc07, bc08, bc09, bc010⟩ := row11 (b := q) (FR.out.at 0 rfl rfl)
          obtain ⟨bc10, bc11, bc12, bc13, bc14, bc15, bc16, bc17, bc18, bc19⟩ := row10 (b := q + 1) (FR.out.at 1 rfl rfl)
          go_wp2
          clear ac00 ac01 ac02 ac03 ac04 ac05 ac06 ac07 ac08 ac09 ac010 ac10 ac11 ac12 ac13 ac14 ac15 ac16 ac17 ac18 ac19 af12 bc00 bc01 bc02 bc03 bc04 bc05 bc06 bc07 bc08 bc09 bc010 bc10 bc11 bc12 bc13 bc14 bc15 bc16 bc17 bc18 bc19
          have HF0 := Lib.hid FR.out.drew
          obtain ⟨w9r, hw9r⟩ : ∃ W, w8p.drew.setCells (q + 2) 0 [.int .i64 kd, .int .i64 z, .int .i64 o1, .int .i64 o2, .int .i64 o3, .int .i64 o4, .int .i64 o5, .int .u32 wa, .int .u32 to, .slice A n c, .slice B m d] = W := ⟨_, rfl⟩
          have HF1 := Lib.hid ((HF0.out.all 2 rfl rfl (by rfl)).eqw hw9r)
          have hh1 := Lib.hid hw9r
          clear hw9r
          obtain ⟨w10r, hw10r⟩ : ∃ W, w9r.setCells (q + 3) 0 [.int .i64 op, .int .i64 stage, .int .i64 2, .int .i64 z, .int .i64 since, .int .i64 left, .bool awoke, .bool starve, .int .i64 need, .bool front] = W := ⟨_, rfl⟩
          have HF2 := Lib.hid ((HF1.out.all 3 rfl rfl (by rfl)).eqw hw10r)
          have hh2 := Lib.hid hw10r
          clear hw10r
          obtain ⟨w11r, hw11r⟩ : ∃ W, w10r.setCells (q + 4) 0 [.bool false, .bool false, .bool false, .int .i64 0, .int .i64 0, .int .u64 0, .slice none 0 0] = W := ⟨_, rfl⟩
          have HF3 := Lib.hid ((HF2.out.all 4 rfl rfl (by rfl)).eqw hw11r)
          have hh3 := Lib.hid hw11r
          clear hw11r
          refine wp_region_noPanic ?_
          refine wp_region_held_drew (S := (fun wv => Hid (wv.heap[q]? = some (.cells #[.int .i64 kd, .int .i64 z, .int .i64 o1, .int .i64 o2, .int .i64 o3, .int .i64 o4, .int .i64 o5, .int .u32 wa, .int .u32 to, .slice A n c, .slice B m d] 29) ∧ wv.heap[q + 1]? = some (.cells #[.int .i64 op, .int .i64 stage, .int .i64 2, .int .i64 z, .int .i64 since, .int .i64 left, .bool awoke, .bool starve, .int .i64 need, .bool front] 31)))) (by kernel_rfl) (Lib.hid (show w8p.drew.heap[q]? = some (.cells #[.int .i64 kd, .int .i64 z, .int .i64 o1, .int .i64 o2, .int .i64 o3, .int .i64 o4, .int .i64 o5, .int .u32 wa, .int .u32 to, .slice A n c, .slice B m d] 29) ∧ w8p.drew.heap[q + 1]? = some (.cells #[.int .i64 op, .int .i64 stage, .int .i64 2, .int .i64 z, .int .i64 since, .int .i64 left, .bool awoke, .bool starve, .int .i64 need, .bool front] 31) from ⟨HF0.out.blk 0 _ rfl, HF0.out.blk 1 _ rfl⟩)) (fun hS => ?_)
          refine wpAnyH_take (i := 0) (oi := ⟨some 41, .load 29 (.tmp 2), 29, "ref.go:97", #[], none⟩) (v := .agg (([.int .i64 kd, .int .i64 z, .int .i64 o1, .int .i64 o2, .int .i64 o3, .int .i64 o4, .int .i64 o5, .int .u32 wa, .int .u32 to, .slice A n c, .slice B m d] : List Value)).toArray) rfl (by kernel_rfl) (by kernel_rfl) (by kernel_rfl) (fun _ _ _ h => h) (yieldsIf_load_mid (by rfl) _ _ (by rfl) (q) (0) (by rfl) (([.int .i64 kd, .int .i64 z, .int .i64 o1, .int .i64 o2, .int .i64 o3, .int .i64 o4, .int .i64 o5, .int .u32 wa, .int .u32 to, .slice A n c, .slice B m d] : List Value)) _ (fun wv hS => blk_rngl hS.out.1) Try.underlying29 (by rfl) (by kernel_rfl)) hS ?_
          try simp only [Act.put, List.setIfInBounds_toArray, List.set_cons_zero, List.set_cons_succ]
          refine wpAnyH_take (i := 1) (oi := ⟨some 42, .load 31 (.tmp 3), 31, "ref.go:97", #[⟨3, .gcOnly .lateStores⟩], none⟩) (v := .agg (([.int .i64 op, .int .i64 stage, .int .i64 2, .int .i64 z, .int .i64 since, .int .i64 left, .bool awoke, .bool starve, .int .i64 need, .bool front] : List Value)).toArray) rfl (by kernel_rfl) (by kernel_rfl) (by kernel_rfl) (fun _ _ _ h => h) (yieldsIf_load_mid (by rfl) _ _ (by rfl) (q + 1) (0) (by rfl) (([.int .i64 op, .int .i64 stage, .int .i64 2, .int .i64 z, .int .i64 since, .int .i64 left, .bool awoke, .bool starve, .int .i64 need, .bool front] : List Value)) _ (fun wv hS => blk_rngl hS.out.2) Try.underlying31 (by rfl) (by kernel_rfl)) hS ?_
          try simp only [Act.put, List.setIfInBounds_toArray, List.set_cons_zero, List.set_cons_succ]
          refine wpAnyH_take (i := 2) (oi := ⟨some 43, .build 39 #[], 39, "ref.go:97", #[⟨4, .gcOnly .lateStores⟩], none⟩) (v := ?_) rfl (by kernel_rfl) (by kernel_rfl) (by kernel_rfl) (fun _ _ _ h => h) (Or.inl ⟨by rfl, ?_⟩) hS ?_
          rotate_left
          · intro wv _; go_simp; try with_reducible rfl
          try simp only [Act.put, List.setIfInBounds_toArray, List.set_cons_zero, List.set_cons_succ]
          refine wpAnyH_ready (rs := [3]) (by kernel_rfl) (by simp) (AllReadyH.cons (o := ⟨none, .store 29 (.tmp 4) (.tmp 41), 0, "ref.go:97", #[⟨0, .data⟩, ⟨0, .phase⟩, ⟨1, .textOnly .lateStores⟩, ⟨2, .textOnly .lateStores⟩], none⟩) rfl (fun K hK => ?_) AllReadyH.nil)
          refine op_storeS (by rfl) rfl rfl rfl (there_blk (HF0.out.blk 2 _ rfl) rfl) (by kernel_rfl) (by simp [Value.oneCell']) hh1.out ?_
          replace hS := Lib.hid (show w9r.heap[q]? = some (.cells #[.int .i64 kd, .int .i64 z, .int .i64 o1, .int .i64 o2, .int .i64 o3, .int .i64 o4, .int .i64 o5, .int .u32 wa, .int .u32 to, .slice A n c, .slice B m d] 29) ∧ w9r.heap[q + 1]? = some (.cells #[.int .i64 op, .int .i64 stage, .int .i64 2, .int .i64 z, .int .i64 since, .int .i64 left, .bool awoke, .bool starve, .int .i64 need, .bool front] 31) from ⟨HF1.out.blk 0 _ rfl, HF1.out.blk 1 _ rfl⟩)
          refine Shut.out hK _ _ hS (fun _ => ?_)
          clear hK K
          try simp only [Act.put, List.setIfInBounds_toArray, List.set_cons_zero, List.set_cons_succ]
          refine wpAnyH_ready (rs := [4]) (by kernel_rfl) (by simp) (AllReadyH.cons (o := ⟨none, .store 31 (.tmp 5) (.tmp 42), 0, "ref.go:97", #[⟨1, .data⟩, ⟨3, .chain⟩, ⟨0, .phase⟩, ⟨1, .phase⟩, ⟨2, .textOnly .lateStores⟩, ⟨3, .phase⟩], none⟩) rfl (fun K hK => ?_) AllReadyH.nil)
          refine op_storeS (by rfl) rfl rfl rfl (there_blk (HF1.out.blk 3 _ rfl) rfl) (by kernel_rfl) (by simp [Value.oneCell']) hh2.out ?_
          replace hS := Lib.hid (show w10r.heap[q]? = some (.cells #[.int .i64 kd, .int .i64 z, .int .i64 o1, .int .i64 o2, .int .i64 o3, .int .i64 o4, .int .i64 o5, .int .u32 wa, .int .u32 to, .slice A n c, .slice B m d] 29) ∧ w10r.heap[q + 1]? = some (.cells #[.int .i64 op, .int .i64 stage, .int .i64 2, .int .i64 z, .int .i64 since, .int .i64 left, .bool awoke, .bool starve, .int .i64 need, .bool front] 31) from ⟨HF2.out.blk 0 _ rfl, HF2.out.blk 1 _ rfl⟩)
          refine Shut.out hK _ _ hS (fun _ => ?_)
          clear hK K
          try simp only [Act.put, List.setIfInBounds_toArray, List.set_cons_zero, List.set_cons_succ]
          refine wpAnyH_ready (rs := [5]) (by kernel_rfl) (by simp) (AllReadyH.cons (o := ⟨none, .store 39 (.tmp 6) (.tmp 43), 0, "ref.go:97", #[⟨2, .data⟩, ⟨4, .chain⟩, ⟨0, .phase⟩, ⟨1, .phase⟩, ⟨2, .phase⟩, ⟨3, .phase⟩, ⟨4, .phase⟩], none⟩) rfl (fun K hK => ?_) AllReadyH.nil)
          refine op_storeS (by rfl) rfl rfl rfl (there_blk (HF2.out.blk 4 _ rfl) rfl) (by kernel_rfl) (by simp [Value.oneCell']) hh3.out ?_
          replace hS := Lib.hid (show w11r.heap[q]? = some (.cells #[.int .i64 kd, .int .i64 z, .int .i64 o1, .int .i64 o2, .int .i64 o3, .int .i64 o4, .int .i64 o5, .int .u32 wa, .int .u32 to, .slice A n c, .slice B m d] 29) ∧ w11r.heap[q + 1]? = some (.cells #[.int .i64 op, .int .i64 stage, .int .i64 2, .int .i64 z, .int .i64 since, .int .i64 left, .bool awoke, .bool starve, .int .i64 need, .bool front] 31) from ⟨HF3.out.blk 0 _ rfl, HF3.out.blk 1 _ rfl⟩)
          refine Shut.out hK _ _ hS (fun _ => ?_)
          clear hK K
          try simp only [Act.put, List.setIfInBounds_toArray, List.set_cons_zero, List.set_cons_succ]
          refine wpAnyH_done (by kernel_rfl) ?_ _
          refine NoPanic.normal ?_
          go_wp2
          refine bodyPost_ret (res_ccc Try.results17 (by rfl) (by rfl) (by rfl) (HF3.out.load 2 rfl rfl Try.underlying29 (by kernel_rfl)) (HF3.out.load 3 rfl rfl Try.underlying31 (by kernel_rfl)) (HF3.out.load 4 rfl rfl Try.underlying39 (by kernel_rfl))) rfl ?_
          replace FR := HF3
          rw [HE.out]
          exact ⟨rfl, FR.out.out⟩
  have n0 : (phase == 0) = false := by simp [p0]
  by_cases p1 : phase = 1
  · subst p1
    have HO : unlockM o0 ⟨op, stage, 1, old, since, left, awoke, starve, need, front⟩ = (if old / 8 = 0 ∨ hasBit old 0 ∨ hasBit old 1 ∨ hasBit old 2 then (o0, noF, doneA) else if o0 ≠ old then (o0, ⟨op, stage, 1, o0, since, left, awoke, starve, need, front⟩, noA) else (IntKind.i64.wrap (o0 - 8 + 2), ⟨op, stage, 3, old, since, left, awoke, starve, need, front⟩, noA)) := by
      unfold unlockM
      rw [if_neg (fun h => (show ¬ ((1 : Int) = 0) by decide) h.1), if_neg (fun h => (show ¬ ((1 : Int) = 0) by decide) h), if_pos rfl]
    replace B0 := B0 old; replace B1 := B1 old; replace B2 := B2 old
    obtain ⟨x, hx⟩ : ∃ x, old / 8 = x := ⟨_, rfl⟩
    have hx2 : old / 2 ^ 3 = x := hx
    rw [hx] at HO
    clear p0 n0
    by_cases hx0 : x = 0
    · have e0 : (x == 0) = true := by simp [hx0]
      have HE := Lib.hid (HO.trans (if_pos (Or.inl hx0)))
      clear HO hx0 B0 B1 B2
      go_enter Try.func17, Try.ntmps17
      obtain ⟨ac00, ac01, ac02, ac03, ac04, ac05, ac06, ac07, ac08, ac09, ac010⟩ := row11 (b := q) (FR.out.at 0 rfl rfl)
      obtain ⟨ac10, ac11, ac12, ac13, ac14, ac15, ac16, ac17, ac18, ac19⟩ := row10 (b := q + 1) (FR.out.at 1 rfl rfl)
      clear ac00 ac01 ac02 ac03 ac04 ac05 ac06 ac07 ac08 ac09 ac010 ac10 ac11 ac12 ac13 ac14 ac15 ac16 ac17 ac18 ac19
      obtain ⟨ac00, ac01, ac02, ac03, ac04, ac05, ac06, ac07, ac08, ac09, ac010⟩ := row11 (b := q) (FR.out.at 0 rfl rfl)
      obtain ⟨ac10, ac11, ac12, ac13, ac14, ac15, ac16, ac17, ac18, ac19⟩ := row10 (b := q + 1) (FR.out.at 1 rfl rfl)
      obtain ⟨mc20, mc21, mc22, mc23, mc24, mc25, mc26, mc27, mc28, mc29, mc210⟩ := row11 (b := q + 2) (FR.out.at 2 rfl rfl)
      obtain ⟨mf20, mf21, mf22, mf23, mf24, mf25, mf26, mf27, mf28, mf29, mf210⟩ := frz11 (b := q + 2) (FR.out.at 2 rfl rfl)
      obtain ⟨w6r, hw6r⟩ : ∃ W, (((((((((((v5.setCell ⟨q + 2, 0, none⟩ (.int .i64 kd)).setCell ⟨q + 2, 1, none⟩ (.int .i64 o0)).setCell ⟨q + 2, 2, none⟩ (.int .i64 o1)).setCell ⟨q + 2, 3, none⟩ (.int .i64 o2)).setCell ⟨q + 2, 4, none⟩ (.int .i64 o3)).setCell ⟨q + 2, 5, none⟩ (.int .i64 o4)).setCell ⟨q + 2, 6, none⟩ (.int .i64 o5)).setCell ⟨q + 2, 7, none⟩ (.int .u32 wa)).setCell ⟨q + 2, 8, none⟩ (.int .u32 to)).setCell ⟨q + 2, 9, none⟩ (.slice A n c)).setCell ⟨q + 2, 10, none⟩ (.slice B m d)) = W := ⟨_, rfl⟩
      replace FR := Lib.hid ((FR.out.all 2 (vs := [.int .i64 kd, .int .i64 o0, .int .i64 o1, .int .i64 o2, .int .i64 o3, .int .i64 o4, .int .i64 o5, .int .u32 wa, .int .u32 to, .slice A n c, .slice B m d]) rfl rfl rfl).eqw hw6r)
      obtain ⟨nc30, nc31, nc32, nc33, nc34, nc35, nc36, nc37, nc38, nc39⟩ := row10 (b := q + 3) (FR.out.at 3 rfl rfl)
      obtain ⟨nf30, nf31, nf32, nf33, nf34, nf35, nf36, nf37, nf38, nf39⟩ := frz10 (b := q + 3) (FR.out.at 3 rfl rfl)
      obtain ⟨w7r, hw7r⟩ : ∃ W, ((((((((((w6r.setCell ⟨q + 3, 0, none⟩ (.int .i64 0)).setCell ⟨q + 3, 1, none⟩ (.int .i64 0)).setCell ⟨q + 3, 2, none⟩ (.int .i64 0)).setCell ⟨q + 3, 3, none⟩ (.int .i64 0)).setCell ⟨q + 3, 4, none⟩ (.int .i64 0)).setCell ⟨q + 3, 5, none⟩ (.int .i64 0)).setCell ⟨q + 3, 6, none⟩ (.bool false)).setCell ⟨q + 3, 7, none⟩ (.bool false)).setCell ⟨q + 3, 8, none⟩ (.int .i64 0)).setCell ⟨q + 3, 9, none⟩ (.bool false)) = W := ⟨_, rfl⟩
      replace FR := Lib.hid ((FR.out.all 3 (vs := [.int .i64 0, .int .i64 0, .int .i64 0, .int .i64 0, .int .i64 0, .int .i64 0, .bool false, .bool false, .int .i64 0, .bool false]) rfl rfl rfl).eqw hw7r)
      obtain ⟨oc40, oc41, oc42, oc43, oc44, oc45, oc46⟩ := row7 (b := q + 4) (FR.out.at 4 rfl rfl)
      obtain ⟨of40, of41, of42, of43, of44, of45, of46⟩ := frz7 (b := q + 4) (FR.out.at 4 rfl rfl)
      obtain ⟨w8r, hw8r⟩ : ∃ W, (((((((w7r.setCell ⟨q + 4, 0, none⟩ (.bool true)).setCell ⟨q + 4, 1, none⟩ (.bool false)).setCell ⟨q + 4, 2, none⟩ (.bool false)).setCell ⟨q + 4, 3, none⟩ (.int .i64 0)).setCell ⟨q + 4, 4, none⟩ (.int .i64 0)).setCell ⟨q + 4, 5, none⟩ (.int .u64 0)).setCell ⟨q + 4, 6, none⟩ (.slice none 0 0)) = W := ⟨_, rfl⟩
      replace FR := Lib.hid ((FR.out.all 4 (vs := [.bool true, .bool false, .bool false, .int .i64 0, .int .i64 0, .int .u64 0, .slice none 0 0]) rfl rfl rfl).eqw hw8r)
      go_wp2
      refine bodyPost_ret (res_ccc Try.results17 (by rfl) (by rfl) (by rfl) (FR.out.load 2 rfl rfl Try.underlying29 (by kernel_rfl)) (FR.out.load 3 rfl rfl Try.underlying31 (by kernel_rfl)) (FR.out.load 4 rfl rfl Try.underlying39 (by kernel_rfl))) rfl ?_
      rw [HE.out]
      exact ⟨rfl, FR.out.out⟩
    · have e0 : (x == 0) = false := by simp [hx0]
      cases hb0 : decide (hasBit old 0)
      · rw [hb0] at B0
        replace B0 := Lib.hid B0
        cases hb1 : decide (hasBit old 1)
        · rw [hb1] at B1
          replace B1 := Lib.hid B1
          cases hb2 : decide (hasBit old 2)
          · rw [hb2] at B2
            replace B2 := Lib.hid B2
            replace HO := HO.trans (if_neg (fun h => by rcases h with h | h | h | h; exact hx0 h; exact of_decide_eq_false hb0 h; exact of_decide_eq_false hb1 h; exact of_decide_eq_false hb2 h))
            clear hb0 hb1 hb2 hx0
            by_cases h0 : o0 = old
            rotate_left
            · have t0 : (o0 != old) = true := by simp [h0]
              have HE := Lib.hid (HO.trans (if_pos h0))
              clear HO h0
              go_enter Try.func17, Try.ntmps17
              obtain ⟨ac00, ac01, ac02, ac03, ac04, ac05, ac06, ac07, ac08, ac09, ac010⟩ := row11 (b := q) (FR.out.at 0 rfl rfl)
              obtain ⟨ac10, ac11, ac12, ac13, ac14, ac15, ac16, ac17, ac18, ac19⟩ := row10 (b := q + 1) (FR.out.at 1 rfl rfl)
              go_wp2_with fail
              refine (B0.out _).mono ?_
              rintro e wz ⟨rfl, hw⟩
              obtain rfl := hw.symm
              go_wp2_with fail
              refine (B1.out _).mono ?_
              rintro e wz ⟨rfl, hw⟩
              obtain rfl := hw.symm
              go_wp2_with fail
              refine (B2.out _).mono ?_
              rintro e wz ⟨rfl, hw⟩
              obtain rfl := hw.symm
              clear ac00 ac01 ac02 ac03 ac04 ac05 ac06 ac07 ac08 ac09 ac010 ac10 ac11 ac12 ac13 ac14 ac15 ac16 ac17 ac18 ac19
              obtain ⟨ac00, ac01, ac02, ac03, ac04, ac05, ac06, ac07, ac08, ac09, ac010⟩ := row11 (b := q) (FR.out.at 0 rfl rfl)
              obtain ⟨ac10, ac11, ac12, ac13, ac14, ac15, ac16, ac17, ac18, ac19⟩ := row10 (b := q + 1) (FR.out.at 1 rfl rfl)
              have af13 : v5.frozen? ⟨q + 1, 3, none⟩ = false := FR.out.frozen 1 3 rfl rfl
              obtain ⟨w6p, hw6p⟩ : ∃ W, (v5.setCell ⟨q + 1, 3, none⟩ (.int .i64 o0)) = W := ⟨_, rfl⟩
              replace FR := Lib.hid (((FR.out.set 1 3 rfl rfl (.int .i64 o0))).eqw hw6p)
              obtain ⟨bc00, bc01, bc02, bc03, bc04, bc05, bc06, bc07, bc08, bc09, bc010⟩ := row11 (b := q) (FR.out.at 0 rfl rfl)
              obtain ⟨bc10, bc11, bc12, bc13, bc14, bc15, bc16, bc17, bc18, bc19⟩ := row10 (b := q + 1) (FR.out.at 1 rfl rfl)
              go_wp2
              clear ac00 ac01 ac02 ac03 ac04 ac05 ac06 ac07 ac08 ac09 ac010 ac10 ac11 ac12 ac13 ac14 ac15 ac16 ac17 ac18 ac19 af13 bc00 bc01 bc02 bc03 bc04 bc05 bc06 bc07 bc08 bc09 bc010 bc10 bc11 bc12 bc13 bc14 bc15 bc16 bc17 bc18 bc19
              have HF0 := Lib.hid FR.out.drew
              obtain ⟨w7r, hw7r⟩ : ∃ W, w6p.drew.setCells (q + 2) 0 [.int .i64 kd, .int .i64 o0, .int .i64 o1, .int .i64 o2, .int .i64 o3, .int .i64 o4, .int .i64 o5, .int .u32 wa, .int .u32 to, .slice A n c, .slice B m d] = W := ⟨_, rfl⟩
              have HF1 := Lib.hid ((HF0.out.all 2 rfl rfl (by rfl)).eqw hw7r)
              have hh1 := Lib.hid hw7r
              clear hw7r
              obtain ⟨w8r, hw8r⟩ : ∃ W, w7r.setCells (q + 3) 0 [.int .i64 op, .int .i64 stage, .int .i64 1, .int .i64 o0, .int .i64 since, .int .i64 left, .bool awoke, .bool starve, .int .i64 need, .bool front] = W := ⟨_, rfl⟩
              have HF2 := Lib.hid ((HF1.out.all 3 rfl rfl (by rfl)).eqw hw8r)
              have hh2 := Lib.hid hw8r
              clear hw8r
              obtain ⟨w9r, hw9r⟩ : ∃ W, w8r.setCells (q + 4) 0 [.bool false, .bool false, .bool false, .int .i64 0, .int .i64 0, .int .u64 0, .slice none 0 0] = W := ⟨_, rfl⟩
              have HF3 := Lib.hid ((HF2.out.all 4 rfl rfl (by rfl)).eqw hw9r)
              have hh3 := Lib.hid hw9r
              clear hw9r
              refine wp_region_noPanic ?_
              refine wp_region_held_drew (S := (fun wv => Hid (wv.heap[q]? = some (.cells #[.int .i64 kd, .int .i64 o0, .int .i64 o1, .int .i64 o2, .int .i64 o3, .int .i64 o4, .int .i64 o5, .int .u32 wa, .int .u32 to, .slice A n c, .slice B m d] 29) ∧ wv.heap[q + 1]? = some (.cells #[.int .i64 op, .int .i64 stage, .int .i64 1, .int .i64 o0, .int .i64 since, .int .i64 left, .bool awoke, .bool starve, .int .i64 need, .bool front] 31)))) (by kernel_rfl) (Lib.hid (show w6p.drew.heap[q]? = some (.cells #[.int .i64 kd, .int .i64 o0, .int .i64 o1, .int .i64 o2, .int .i64 o3, .int .i64 o4, .int .i64 o5, .int .u32 wa, .int .u32 to, .slice A n c, .slice B m d] 29) ∧ w6p.drew.heap[q + 1]? = some (.cells #[.int .i64 op, .int .i64 stage, .int .i64 1, .int .i64 o0, .int .i64 since, .int .i64 left, .bool awoke, .bool starve, .int .i64 need, .bool front] 31) from ⟨HF0.out.blk 0 _ rfl, HF0.out.blk 1 _ rfl⟩)) (fun hS => ?_)
              refine wpAnyH_take (i := 0) (oi := ⟨some 75, .load 29 (.tmp 2), 29, "ref.go:105", #[], none⟩) (v := .agg (([.int .i64 kd, .int .i64 o0, .int .i64 o1, .int .i64 o2, .int .i64 o3, .int .i64 o4, .int .i64 o5, .int .u32 wa, .int .u32 to, .slice A n c, .slice B m d] : List Value)).toArray) rfl (by kernel_rfl) (by kernel_rfl) (by kernel_rfl) (fun _ _ _ h => h) (yieldsIf_load_mid (by rfl) _ _ (by rfl) (q) (0) (by rfl) (([.int .i64 kd, .int .i64 o0, .int .i64 o1, .int .i64 o2, .int .i64 o3, .int .i64 o4, .int .i64 o5, .int .u32 wa, .int .u32 to, .slice A n c, .slice B m d] : List Value)) _ (fun wv hS => blk_rngl hS.out.1) Try.underlying29 (by rfl) (by kernel_rfl)) hS ?_
              try simp only [Act.put, List.setIfInBounds_toArray, List.set_cons_zero, List.set_cons_succ]
              refine wpAnyH_take (i := 1) (oi := ⟨some 76, .load 31 (.tmp 3), 31, "ref.go:105", #[⟨3, .gcOnly .lateStores⟩], none⟩) (v := .agg (([.int .i64 op, .int .i64 stage, .int .i64 1, .int .i64 o0, .int .i64 since, .int .i64 left, .bool awoke, .bool starve, .int .i64 need, .bool front] : List Value)).toArray) rfl (by kernel_rfl) (by kernel_rfl) (by kernel_rfl) (fun _ _ _ h => h) (yieldsIf_load_mid (by rfl) _ _ (by rfl) (q + 1) (0) (by rfl) (([.int .i64 op, .int .i64 stage, .int .i64 1, .int .i64 o0, .int .i64 since, .int .i64 left, .bool awoke, .bool starve, .int .i64 need, .bool front] : List Value)) _ (fun wv hS => blk_rngl hS.out.2) Try.underlying31 (by rfl) (by kernel_rfl)) hS ?_
              try simp only [Act.put, List.setIfInBounds_toArray, List.set_cons_zero, List.set_cons_succ]
              refine wpAnyH_take (i := 2) (oi := ⟨some 77, .build 39 #[], 39, "ref.go:105", #[⟨4, .gcOnly .lateStores⟩], none⟩) (v := ?_) rfl (by kernel_rfl) (by kernel_rfl) (by kernel_rfl) (fun _ _ _ h => h) (Or.inl ⟨by rfl, ?_⟩) hS ?_
              rotate_left
              · intro wv _; go_simp; try with_reducible rfl
              try simp only [Act.put, List.setIfInBounds_toArray, List.set_cons_zero, List.set_cons_succ]
              refine wpAnyH_ready (rs := [3]) (by kernel_rfl) (by simp) (AllReadyH.cons (o := ⟨none, .store 29 (.tmp 4) (.tmp 75), 0, "ref.go:105", #[⟨0, .data⟩, ⟨0, .phase⟩, ⟨1, .textOnly .lateStores⟩, ⟨2, .textOnly .lateStores⟩], none⟩) rfl (fun K hK => ?_) AllReadyH.nil)
              refine op_storeS (by rfl) rfl rfl rfl (there_blk (HF0.out.blk 2 _ rfl) rfl) (by kernel_rfl) (by simp [Value.oneCell']) hh1.out ?_
              replace hS := Lib.hid (show w7r.heap[q]? = some (.cells #[.int .i64 kd, .int .i64 o0, .int .i64 o1, .int .i64 o2, .int .i64 o3, .int .i64 o4, .int .i64 o5, .int .u32 wa, .int .u32 to, .slice A n c, .slice B m d] 29) ∧ w7r.heap[q + 1]? = some (.cells #[.int .i64 op, .int .i64 stage, .int .i64 1, .int .i64 o0, .int .i64 since, .int .i64 left, .bool awoke, .bool starve, .int .i64 need, .bool front] 31) from ⟨HF1.out.blk 0 _ rfl, HF1.out.blk 1 _ rfl⟩)
              refine Shut.out hK _ _ hS (fun _ => ?_)
              clear hK K
              try simp only [Act.put, List.setIfInBounds_toArray, List.set_cons_zero, List.set_cons_succ]
              refine wpAnyH_ready (rs := [4]) (by kernel_rfl) (by simp) (AllReadyH.cons (o := ⟨none, .store 31 (.tmp 5) (.tmp 76), 0, "ref.go:105", #[⟨1, .data⟩, ⟨3, .chain⟩, ⟨0, .phase⟩, ⟨1, .phase⟩, ⟨2, .textOnly .lateStores⟩, ⟨3, .phase⟩], none⟩) rfl (fun K hK => ?_) AllReadyH.nil)
              refine op_storeS (by rfl) rfl rfl rfl (there_blk (HF1.out.blk 3 _ rfl) rfl) (by kernel_rfl) (by simp [Value.oneCell']) hh2.out ?_
              replace hS := Lib.hid (show w8r.heap[q]? = some (.cells #[.int .i64 kd, .int .i64 o0, .int .i64 o1, .int .i64 o2, .int .i64 o3, .int .i64 o4, .int .i64 o5, .int .u32 wa, .int .u32 to, .slice A n c, .slice B m d] 29) ∧ w8r.heap[q + 1]? = some (.cells #[.int .i64 op, .int .i64 stage, .int .i64 1, .int .i64 o0, .int .i64 since, .int .i64 left, .bool awoke, .bool starve, .int .i64 need, .bool front] 31) from ⟨HF2.out.blk 0 _ rfl, HF2.out.blk 1 _ rfl⟩)
              refine Shut.out hK _ _ hS (fun _ => ?_)
              clear hK K
              try simp only [Act.put, List.setIfInBounds_toArray, List.set_cons_zero, List.set_cons_succ]
              refine wpAnyH_ready (rs := [5]) (by kernel_rfl) (by simp) (AllReadyH.cons (o := ⟨none, .store 39 (.tmp 6) (.tmp 77), 0, "ref.go:105", #[⟨2, .data⟩, ⟨4, .chain⟩, ⟨0, .phase⟩, ⟨1, .phase⟩, ⟨2, .phase⟩, ⟨3, .phase⟩, ⟨4, .phase⟩], none⟩) rfl (fun K hK => ?_) AllReadyH.nil)
              refine op_storeS (by rfl) rfl rfl rfl (there_blk (HF2.out.blk 4 _ rfl) rfl) (by kernel_rfl) (by simp [Value.oneCell']) hh3.out ?_
              replace hS := Lib.hid (show w9r.heap[q]? = some (.cells #[.int .i64 kd, .int .i64 o0, .int .i64 o1, .int .i64 o2, .int .i64 o3, .int .i64 o4, .int .i64 o5, .int .u32 wa, .int .u32 to, .slice A n c, .slice B m d] 29) ∧ w9r.heap[q + 1]? = some (.cells #[.int .i64 op, .int .i64 stage, .int .i64 1, .int .i64 o0, .int .i64 since, .int .i64 left, .bool awoke, .bool starve, .int .i64 need, .bool front] 31) from ⟨HF3.out.blk 0 _ rfl, HF3.out.blk 1 _ rfl⟩)
              refine Shut.out hK _ _ hS (fun _ => ?_)
              clear hK K
              try simp only [Act.put, List.setIfInBounds_toArray, List.set_cons_zero, List.set_cons_succ]
              refine wpAnyH_done (by kernel_rfl) ?_ _
              refine NoPanic.normal ?_
              go_wp2
              refine bodyPost_ret (res_ccc Try.results17 (by rfl) (by rfl) (by rfl) (HF3.out.load 2 rfl rfl Try.underlying29 (by kernel_rfl)) (HF3.out.load 3 rfl rfl Try.underlying31 (by kernel_rfl)) (HF3.out.load 4 rfl rfl Try.underlying39 (by kernel_rfl))) rfl ?_
              replace FR := HF3
              rw [HE.out]
              exact ⟨rfl, FR.out.out⟩
            · have t0 : (o0 != old) = false := by simp [h0]
              obtain ⟨z1_, hz1⟩ : ∃ z, IntKind.i64.wrap (o0 - 8) = z := ⟨_, rfl⟩
              obtain ⟨z, hz⟩ : ∃ z, IntKind.i64.wrap (z1_ + 2) = z := ⟨_, rfl⟩
              have hzz : IntKind.i64.wrap (o0 - 8 + 2) = z := by rw [← hz, ← hz1]; simp only [IntKind.wrap_i64]; omega
              have HE := Lib.hid (HO.trans ((if_neg (fun h => h h0)).trans (by rw [hzz])))
              clear HO h0 hzz
              go_enter Try.func17, Try.ntmps17
              obtain ⟨ac00, ac01, ac02, ac03, ac04, ac05, ac06, ac07, ac08, ac09, ac010⟩ := row11 (b := q) (FR.out.at 0 rfl rfl)
              obtain ⟨ac10, ac11, ac12, ac13, ac14, ac15, ac16, ac17, ac18, ac19⟩ := row10 (b := q + 1) (FR.out.at 1 rfl rfl)
              go_wp2_with fail
              refine (B0.out _).mono ?_
              rintro e wz ⟨rfl, hw⟩
              obtain rfl := hw.symm
              go_wp2_with fail
              refine (B1.out _).mono ?_
              rintro e wz ⟨rfl, hw⟩
              obtain rfl := hw.symm
              go_wp2_with fail
              refine (B2.out _).mono ?_
              rintro e wz ⟨rfl, hw⟩
              obtain rfl := hw.symm
              clear ac00 ac01 ac02 ac03 ac04 ac05 ac06 ac07 ac08 ac09 ac010 ac10 ac11 ac12 ac13 ac14 ac15 ac16 ac17 ac18 ac19
              obtain ⟨ac00, ac01, ac02, ac03, ac04, ac05, ac06, ac07, ac08, ac09, ac010⟩ := row11 (b := q) (FR.out.at 0 rfl rfl)
              have af01 : v5.frozen? ⟨q, 1, none⟩ = false := FR.out.frozen 0 1 rfl rfl
              obtain ⟨ac10, ac11, ac12, ac13, ac14, ac15, ac16, ac17, ac18, ac19⟩ := row10 (b := q + 1) (FR.out.at 1 rfl rfl)
              obtain ⟨w6p, hw6p⟩ : ∃ W, (v5.setCell ⟨q, 1, none⟩ (.int .i64 z)) = W := ⟨_, rfl⟩
              replace FR := Lib.hid (((FR.out.set 0 1 rfl rfl (.int .i64 z))).eqw hw6p)
              obtain ⟨bc00, bc01, bc02, bc03, bc04, bc05, bc06, bc07, bc08, bc09, bc010⟩ := row11 (b := q) (FR.out.at 0 rfl rfl)
              obtain ⟨bc10, bc11, bc12, bc13, bc14, bc15, bc16, bc17, bc18, bc19⟩ := row10 (b := q + 1) (FR.out.at 1 rfl rfl)
              have bf12 : w6p.frozen? ⟨q + 1, 2, none⟩ = false := FR.out.frozen 1 2 rfl rfl
              obtain ⟨w7p, hw7p⟩ : ∃ W, (w6p.setCell ⟨q + 1, 2, none⟩ (.int .i64 3)) = W := ⟨_, rfl⟩
              replace FR := Lib.hid (((FR.out.set 1 2 rfl rfl (.int .i64 3))).eqw hw7p)
              obtain ⟨cc00, cc01, cc02, cc03, cc04, cc05, cc06, cc07, cc08, cc09, cc010⟩ := row11 (b := q) (FR.out.at 0 rfl rfl)
              obtain ⟨cc10, cc11, cc12, cc13, cc14, cc15, cc16, cc17, cc18, cc19⟩ := row10 (b := q + 1) (FR.out.at 1 rfl rfl)
              go_wp2
              clear ac00 ac01 ac02 ac03 ac04 ac05 ac06 ac07 ac08 ac09 ac010 af01 ac10 ac11 ac12 ac13 ac14 ac15 ac16 ac17 ac18 ac19 bc00 bc01 bc02 bc03 bc04 bc05 bc06 bc07 bc08 bc09 bc010 bc10 bc11 bc12 bc13 bc14 bc15 bc16 bc17 bc18 bc19 bf12 cc00 cc01 cc02 cc03 cc04 cc05 cc06 cc07 cc08 cc09 cc010 cc10 cc11 cc12 cc13 cc14 cc15 cc16 cc17 cc18 cc19
              have HF0 := Lib.hid FR.out.drew
              obtain ⟨w8r, hw8r⟩ : ∃ W, w7p.drew.setCells (q + 2) 0 [.int .i64 kd, .int .i64 z, .int .i64 o1, .int .i64 o2, .int .i64 o3, .int .i64 o4, .int .i64 o5, .int .u32 wa, .int .u32 to, .slice A n c, .slice B m d] = W := ⟨_, rfl⟩
              have HF1 := Lib.hid ((HF0.out.all 2 rfl rfl (by rfl)).eqw hw8r)
              have hh1 := Lib.hid hw8r
              clear hw8r
              obtain ⟨w9r, hw9r⟩ : ∃ W, w8r.setCells (q + 3) 0 [.int .i64 op, .int .i64 stage, .int .i64 3, .int .i64 old, .int .i64 since, .int .i64 left, .bool awoke, .bool starve, .int .i64 need, .bool front] = W := ⟨_, rfl⟩
              have HF2 := Lib.hid ((HF1.out.all 3 rfl rfl (by rfl)).eqw hw9r)
              have hh2 := Lib.hid hw9r
              clear hw9r
              obtain ⟨w10r, hw10r⟩ : ∃ W, w9r.setCells (q + 4) 0 [.bool false, .bool false, .bool false, .int .i64 0, .int .i64 0, .int .u64 0, .slice none 0 0] = W := ⟨_, rfl⟩
              have HF3 := Lib.hid ((HF2.out.all 4 rfl rfl (by rfl)).eqw hw10r)
              have hh3 := Lib.hid hw10r
              clear hw10r
              refine wp_region_noPanic ?_
              refine wp_region_held_drew (S := (fun wv => Hid (wv.heap[q]? = some (.cells #[.int .i64 kd, .int .i64 z, .int .i64 o1, .int .i64 o2, .int .i64 o3, .int .i64 o4, .int .i64 o5, .int .u32 wa, .int .u32 to, .slice A n c, .slice B m d] 29) ∧ wv.heap[q + 1]? = some (.cells #[.int .i64 op, .int .i64 stage, .int .i64 3, .int .i64 old, .int .i64 since, .int .i64 left, .bool awoke, .bool starve, .int .i64 need, .bool front] 31)))) (by kernel_rfl) (Lib.hid (show w7p.drew.heap[q]? = some (.cells #[.int .i64 kd, .int .i64 z, .int .i64 o1, .int .i64 o2, .int .i64 o3, .int .i64 o4, .int .i64 o5, .int .u32 wa, .int .u32 to, .slice A n c, .slice B m d] 29) ∧ w7p.drew.heap[q + 1]? = some (.cells #[.int .i64 op, .int .i64 stage, .int .i64 3, .int .i64 old, .int .i64 since, .int .i64 left, .bool awoke, .bool starve, .int .i64 need, .bool front] 31) from ⟨HF0.out.blk 0 _ rfl, HF0.out.blk 1 _ rfl⟩)) (fun hS => ?_)
              refine wpAnyH_take (i := 0) (oi := ⟨some 84, .load 29 (.tmp 2), 29, "ref.go:109", #[], none⟩) (v := .agg (([.int .i64 kd, .int .i64 z, .int .i64 o1, .int .i64 o2, .int .i64 o3, .int .i64 o4, .int .i64 o5, .int .u32 wa, .int .u32 to, .slice A n c, .slice B m d] : List Value)).toArray) rfl (by kernel_rfl) (by kernel_rfl) (by kernel_rfl) (fun _ _ _ h => h) (yieldsIf_load_mid (by rfl) _ _ (by rfl) (q) (0) (by rfl) (([.int .i64 kd, .int .i64 z, .int .i64 o1, .int .i64 o2, .int .i64 o3, .int .i64 o4, .int .i64 o5, .int .u32 wa, .int .u32 to, .slice A n c, .slice B m d] : List Value)) _ (fun wv hS => blk_rngl hS.out.1) Try.underlying29 (by rfl) (by kernel_rfl)) hS ?_
              try simp only [Act.put, List.setIfInBounds_toArray, List.set_cons_zero, List.set_cons_succ]
              refine wpAnyH_take (i := 1) (oi := ⟨some 85, .load 31 (.tmp 3), 31, "ref.go:109", #[⟨3, .gcOnly .lateStores⟩], none⟩) (v := .agg (([.int .i64 op, .int .i64 stage, .int .i64 3, .int .i64 old, .int .i64 since, .int .i64 left, .bool awoke, .bool starve, .int .i64 need, .bool front] : List Value)).toArray) rfl (by kernel_rfl) (by kernel_rfl) (by kernel_rfl) (fun _ _ _ h => h) (yieldsIf_load_mid (by rfl) _ _ (by rfl) (q + 1) (0) (by rfl) (([.int .i64 op, .int .i64 stage, .int .i64 3, .int .i64 old, .int .i64 since, .int .i64 left, .bool awoke, .bool starve, .int .i64 need, .bool front] : List Value)) _ (fun wv hS => blk_rngl hS.out.2) Try.underlying31 (by rfl) (by kernel_rfl)) hS ?_
              try simp only [Act.put, List.setIfInBounds_toArray, List.set_cons_zero, List.set_cons_succ]
              refine wpAnyH_take (i := 2) (oi := ⟨some 86, .build 39 #[], 39, "ref.go:109", #[⟨4, .gcOnly .lateStores⟩], none⟩) (v := ?_) rfl (by kernel_rfl) (by kernel_rfl) (by kernel_rfl) (fun _ _ _ h => h) (Or.inl ⟨by rfl, ?_⟩) hS ?_
              rotate_left
              · intro wv _; go_simp; try with_reducible rfl
              try simp only [Act.put, List.setIfInBounds_toArray, List.set_cons_zero, List.set_cons_succ]
              refine wpAnyH_ready (rs := [3]) (by kernel_rfl) (by simp) (AllReadyH.cons (o := ⟨none, .store 29 (.tmp 4) (.tmp 84), 0, "ref.go:109", #[⟨0, .data⟩, ⟨0, .phase⟩, ⟨1, .textOnly .lateStores⟩, ⟨2, .textOnly .lateStores⟩], none⟩) rfl (fun K hK => ?_) AllReadyH.nil)
              refine op_storeS (by rfl) rfl rfl rfl (there_blk (HF0.out.blk 2 _ rfl) rfl) (by kernel_rfl) (by simp [Value.oneCell']) hh1.out ?_
              replace hS := Lib.hid (show w8r.heap[q]? = some (.cells #[.int .i64 kd, .int .i64 z, .int .i64 o1, .int .i64 o2, .int .i64 o3, .int .i64 o4, .int .i64 o5, .int .u32 wa, .int .u32 to, .slice A n c, .slice B m d] 29) ∧ w8r.heap[q + 1]? = some (.cells #[.int .i64 op, .int .i64 stage, .int .i64 3, .int .i64 old, .int .i64 since, .int .i64 left, .bool awoke, .bool starve, .int .i64 need, .bool front] 31) from ⟨HF1.out.blk 0 _ rfl, HF1.out.blk 1 _ rfl⟩)
              refine Shut.out hK _ _ hS (fun _ => ?_)
              clear hK K
              try simp only [Act.put, List.setIfInBounds_toArray, List.set_cons_zero, List.set_cons_succ]
              refine wpAnyH_ready (rs := [4]) (by kernel_rfl) (by simp) (AllReadyH.cons (o := ⟨none, .store 31 (.tmp 5) (.tmp 85), 0, "ref.go:109", #[⟨1, .data⟩, ⟨3, .chain⟩, ⟨0, .phase⟩, ⟨1, .phase⟩, ⟨2, .textOnly .lateStores⟩, ⟨3, .phase⟩], none⟩) rfl (fun K hK => ?_) AllReadyH.nil)
              refine op_storeS (by rfl) rfl rfl rfl (there_blk (HF1.out.blk 3 _ rfl) rfl) (by kernel_rfl) (by simp [Value.oneCell']) hh2.out ?_
              replace hS := Lib.hid (show w9r.heap[q]? = some (.cells #[.int .i64 kd, .int .i64 z, .int .i64 o1, .int .i64 o2, .int .i64 o3, .int .i64 o4, .int .i64 o5, .int .u32 wa, .int .u32 to, .slice A n c, .slice B m d] 29) ∧ w9r.heap[q + 1]? = some (.cells #[.int .i64 op, .int .i64 stage, .int .i64 3, .int .i64 old, .int .i64 since, .int .i64 left, .bool awoke, .bool starve, .int .i64 need, .bool front] 31) from ⟨HF2.out.blk 0 _ rfl, HF2.out.blk 1 _ rfl⟩)
              refine Shut.out hK _ _ hS (fun _ => ?_)
              clear hK K
              try simp only [Act.put, List.setIfInBounds_toArray, List.set_cons_zero, List.set_cons_succ]
              refine wpAnyH_ready (rs := [5]) (by kernel_rfl) (by simp) (AllReadyH.cons (o := ⟨none, .store 39 (.tmp 6) (.tmp 86), 0, "ref.go:109", #[⟨2, .data⟩, ⟨4, .chain⟩, ⟨0, .phase⟩, ⟨1, .phase⟩, ⟨2, .phase⟩, ⟨3, .phase⟩, ⟨4, .phase⟩], none⟩) rfl (fun K hK => ?_) AllReadyH.nil)
              refine op_storeS (by rfl) rfl rfl rfl (there_blk (HF2.out.blk 4 _ rfl) rfl) (by kernel_rfl) (by simp [Value.oneCell']) hh3.out ?_
              replace hS := Lib.hid (show w10r.heap[q]? = some (.cells #[.int .i64 kd, .int .i64 z, .int .i64 o1, .int .i64 o2, .int .i64 o3, .int .i64 o4, .int .i64 o5, .int .u32 wa, .int .u32 to, .slice A n c, .slice B m d] 29) ∧ w10r.heap[q + 1]? = some (.cells #[.int .i64 op, .int .i64 stage, .int .i64 3, .int .i64 old, .int .i64 since, .int .i64 left, .bool awoke, .bool starve, .int .i64 need, .bool front] 31) from ⟨HF3.out.blk 0 _ rfl, HF3.out.blk 1 _ rfl⟩)
              refine Shut.out hK _ _ hS (fun _ => ?_)
              clear hK K
              try simp only [Act.put, List.setIfInBounds_toArray, List.set_cons_zero, List.set_cons_succ]
              refine wpAnyH_done (by kernel_rfl) ?_ _
              refine NoPanic.normal ?_
              go_wp2
              refine bodyPost_ret (res_ccc Try.results17 (by rfl) (by rfl) (by rfl) (HF3.out.load 2 rfl rfl Try.underlying29 (by kernel_rfl)) (HF3.out.load 3 rfl rfl Try.underlying31 (by kernel_rfl)) (HF3.out.load 4 rfl rfl Try.underlying39 (by kernel_rfl))) rfl ?_
              replace FR := HF3
              rw [HE.out]
              exact ⟨rfl, FR.out.out⟩
          · rw [hb2] at B2
            replace B2 := Lib.hid B2
            have HE := Lib.hid (HO.trans (if_pos (Or.inr (Or.inr (Or.inr ((of_decide_eq_true hb2)))))))
            clear HO hb0 hb1 hb2 hx0
            go_enter Try.func17, Try.ntmps17
            obtain ⟨ac00, ac01, ac02, ac03, ac04, ac05, ac06, ac07, ac08, ac09, ac010⟩ := row11 (b := q) (FR.out.at 0 rfl rfl)
            obtain ⟨ac10, ac11, ac12, ac13, ac14, ac15, ac16, ac17, ac18, ac19⟩ := row10 (b := q + 1) (FR.out.at 1 rfl rfl)
            go_wp2_with fail
            refine (B0.out _).mono ?_
            rintro e wz ⟨rfl, hw⟩
            obtain rfl := hw.symm
            go_wp2_with fail
            refine (B1.out _).mono ?_
            rintro e wz ⟨rfl, hw⟩
            obtain rfl := hw.symm
            go_wp2_with fail
            refine (B2.out _).mono ?_
            rintro e wz ⟨rfl, hw⟩
            obtain rfl := hw.symm
            clear ac00 ac01 ac02 ac03 ac04 ac05 ac06 ac07 ac08 ac09 ac010 ac10 ac11 ac12 ac13 ac14 ac15 ac16 ac17 ac18 ac19
            obtain ⟨ac00, ac01, ac02, ac03, ac04, ac05, ac06, ac07, ac08, ac09, ac010⟩ := row11 (b := q) (FR.out.at 0 rfl rfl)
            obtain ⟨ac10, ac11, ac12, ac13, ac14, ac15, ac16, ac17, ac18, ac19⟩ := row10 (b := q + 1) (FR.out.at 1 rfl rfl)
            obtain ⟨mc20, mc21, mc22, mc23, mc24, mc25, mc26, mc27, mc28, mc29, mc210⟩ := row11 (b := q + 2) (FR.out.at 2 rfl rfl)
            obtain ⟨mf20, mf21, mf22, mf23, mf24, mf25, mf26, mf27, mf28, mf29, mf210⟩ := frz11 (b := q + 2) (FR.out.at 2 rfl rfl)
            obtain ⟨w6r, hw6r⟩ : ∃ W, (((((((((((v5.setCell ⟨q + 2, 0, none⟩ (.int .i64 kd)).setCell ⟨q + 2, 1, none⟩ (.int .i64 o0)).setCell ⟨q + 2, 2, none⟩ (.int .i64 o1)).setCell ⟨q + 2, 3, none⟩ (.int .i64 o2)).setCell ⟨q + 2, 4, none⟩ (.int .i64 o3)).setCell ⟨q + 2, 5, none⟩ (.int .i64 o4)).setCell ⟨q + 2, 6, none⟩ (.int .i64 o5)).setCell ⟨q + 2, 7, none⟩ (.int .u32 wa)).setCell ⟨q + 2, 8, none⟩ (.int .u32 to)).setCell ⟨q + 2, 9, none⟩ (.slice A n c)).setCell ⟨q + 2, 10, none⟩ (.slice B m d)) = W := ⟨_, rfl⟩
            replace FR := Lib.hid ((FR.out.all 2 (vs := [.int .i64 kd, .int .i64 o0, .int .i64 o1, .int .i64 o2, .int .i64 o3, .int .i64 o4, .int .i64 o5, .int .u32 wa, .int .u32 to, .slice A n c, .slice B m d]) rfl rfl rfl).eqw hw6r)
            obtain ⟨nc30, nc31, nc32, nc33, nc34, nc35, nc36, nc37, nc38, nc39⟩ := row10 (b := q + 3) (FR.out.at 3 rfl rfl)
            obtain ⟨nf30, nf31, nf32, nf33, nf34, nf35, nf36, nf37, nf38, nf39⟩ := frz10 (b := q + 3) (FR.out.at 3 rfl rfl)
            obtain ⟨w7r, hw7r⟩ : ∃ W, ((((((((((w6r.setCell ⟨q + 3, 0, none⟩ (.int .i64 0)).setCell ⟨q + 3, 1, none⟩ (.int .i64 0)).setCell ⟨q + 3, 2, none⟩ (.int .i64 0)).setCell ⟨q + 3, 3, none⟩ (.int .i64 0)).setCell ⟨q + 3, 4, none⟩ (.int .i64 0)).setCell ⟨q + 3, 5, none⟩ (.int .i64 0)).setCell ⟨q + 3, 6, none⟩ (.bool false)).setCell ⟨q + 3, 7, none⟩ (.bool false)).setCell ⟨q + 3, 8, none⟩ (.int .i64 0)).setCell ⟨q + 3, 9, none⟩ (.bool false)) = W := ⟨_, rfl⟩
            replace FR := Lib.hid ((FR.out.all 3 (vs := [.int .i64 0, .int .i64 0, .int .i64 0, .int .i64 0, .int .i64 0, .int .i64 0, .bool false, .bool false, .int .i64 0, .bool false]) rfl rfl rfl).eqw hw7r)
            obtain ⟨oc40, oc41, oc42, oc43, oc44, oc45, oc46⟩ := row7 (b := q + 4) (FR.out.at 4 rfl rfl)
            obtain ⟨of40, of41, of42, of43, of44, of45, of46⟩ := frz7 (b := q + 4) (FR.out.at 4 rfl rfl)
            obtain ⟨w8r, hw8r⟩ : ∃ W, (((((((w7r.setCell ⟨q + 4, 0, none⟩ (.bool true)).setCell ⟨q + 4, 1, none⟩ (.bool false)).setCell ⟨q + 4, 2, none⟩ (.bool false)).setCell ⟨q + 4, 3, none⟩ (.int .i64 0)).setCell ⟨q + 4, 4, none⟩ (.int .i64 0)).setCell ⟨q + 4, 5, none⟩ (.int .u64 0)).setCell ⟨q + 4, 6, none⟩ (.slice none 0 0)) = W := ⟨_, rfl⟩
            replace FR := Lib.hid ((FR.out.all 4 (vs := [.bool true, .bool false, .bool false, .int .i64 0, .int .i64 0, .int .u64 0, .slice none 0 0]) rfl rfl rfl).eqw hw8r)
            go_wp2
            refine bodyPost_ret (res_ccc Try.results17 (by rfl) (by rfl) (by rfl) (FR.out.load 2 rfl rfl Try.underlying29 (by kernel_rfl)) (FR.out.load 3 rfl rfl Try.underlying31 (by kernel_rfl)) (FR.out.load 4 rfl rfl Try.underlying39 (by kernel_rfl))) rfl ?_
            rw [HE.out]
            exact ⟨rfl, FR.out.out⟩
        · rw [hb1] at B1
          replace B1 := Lib.hid B1
          have HE := Lib.hid (HO.trans (if_pos (Or.inr (Or.inr (Or.inl (of_decide_eq_true hb1))))))
          clear HO hb0 hb1 hx0 B2
          go_enter Try.func17, Try.ntmps17
          obtain ⟨ac00, ac01, ac02, ac03, ac04, ac05, ac06, ac07, ac08, ac09, ac010⟩ := row11 (b := q) (FR.out.at 0 rfl rfl)
          obtain ⟨ac10, ac11, ac12, ac13, ac14, ac15, ac16, ac17, ac18, ac19⟩ := row10 (b := q + 1) (FR.out.at 1 rfl rfl)
          go_wp2_with fail
          refine (B0.out _).mono ?_
          rintro e wz ⟨rfl, hw⟩
          obtain rfl := hw.symm
          go_wp2_with fail
          refine (B1.out _).mono ?_
          rintro e wz ⟨rfl, hw⟩
          obtain rfl := hw.symm
          clear ac00 ac01 ac02 ac03 ac04 ac05 ac06 ac07 ac08 ac09 ac010 ac10 ac11 ac12 ac13 ac14 ac15 ac16 ac17 ac18 ac19
          obtain ⟨ac00, ac01, ac02, ac03, ac04, ac05, ac06, ac07, ac08, ac09, ac010⟩ := row11 (b := q) (FR.out.at 0 rfl rfl)
          obtain ⟨ac10, ac11, ac12, ac13, ac14, ac15, ac16, ac17, ac18, ac19⟩ := row10 (b := q + 1) (FR.out.at 1 rfl rfl)
          obtain ⟨mc20, mc21, mc22, mc23, mc24, mc25, mc26, mc27, mc28, mc29, mc210⟩ := row11 (b := q + 2) (FR.out.at 2 rfl rfl)
          obtain ⟨mf20, mf21, mf22, mf23, mf24, mf25, mf26, mf27, mf28, mf29, mf210⟩ := frz11 (b := q + 2) (FR.out.at 2 rfl rfl)
          obtain ⟨w6r, hw6r⟩ : ∃ W, (((((((((((v5.setCell ⟨q + 2, 0, none⟩ (.int .i64 kd)).setCell ⟨q + 2, 1, none⟩ (.int .i64 o0)).setCell ⟨q + 2, 2, none⟩ (.int .i64 o1)).setCell ⟨q + 2, 3, none⟩ (.int .i64 o2)).setCell ⟨q + 2, 4, none⟩ (.int .i64 o3)).setCell ⟨q + 2, 5, none⟩ (.int .i64 o4)).setCell ⟨q + 2, 6, none⟩ (.int .i64 o5)).setCell ⟨q + 2, 7, none⟩ (.int .u32 wa)).setCell ⟨q + 2, 8, none⟩ (.int .u32 to)).setCell ⟨q + 2, 9, none⟩ (.slice A n c)).setCell ⟨q + 2, 10, none⟩ (.slice B m d)) = W := ⟨_, rfl⟩
          replace FR := Lib.hid ((FR.out.all 2 (vs := [.int .i64 kd, .int .i64 o0, .int .i64 o1, .int .i64 o2, .int .i64 o3, .int .i64 o4, .int .i64 o5, .int .u32 wa, .int .u32 to, .slice A n c, .slice B m d]) rfl rfl rfl).eqw hw6r)
          obtain ⟨nc30, nc31, nc32, nc33, nc34, nc35, nc36, nc37, nc38, nc39⟩ := row10 (b := q + 3) (FR.out.at 3 rfl rfl)
          obtain ⟨nf30, nf31, nf32, nf33, nf34, nf35, nf36, nf37, nf38, nf39⟩ := frz10 (b := q + 3) (FR.out.at 3 rfl rfl)
          obtain ⟨w7r, hw7r⟩ : ∃ W, ((((((((((w6r.setCell ⟨q + 3, 0, none⟩ (.int .i64 0)).setCell ⟨q + 3, 1, none⟩ (.int .i64 0)).setCell ⟨q + 3, 2, none⟩ (.int .i64 0)).setCell ⟨q + 3, 3, none⟩ (.int .i64 0)).setCell ⟨q + 3, 4, none⟩ (.int .i64 0)).setCell ⟨q + 3, 5, none⟩ (.int .i64 0)).setCell ⟨q + 3, 6, none⟩ (.bool false)).setCell ⟨q + 3, 7, none⟩ (.bool false)).setCell ⟨q + 3, 8, none⟩ (.int .i64 0)).setCell ⟨q + 3, 9, none⟩ (.bool false)) = W := ⟨_, rfl⟩
          replace FR := Lib.hid ((FR.out.all 3 (vs := [.int .i64 0, .int .i64 0, .int .i64 0, .int .i64 0, .int .i64 0, .int .i64 0, .bool false, .bool false, .int .i64 0, .bool false]) rfl rfl rfl).eqw hw7r)
          obtain ⟨oc40, oc41, oc42, oc43, oc44, oc45, oc46⟩ := row7 (b := q + 4) (FR.out.at 4 rfl rfl)
          obtain ⟨of40, of41, of42, of43, of44, of45, of46⟩ := frz7 (b := q + 4) (FR.out.at 4 rfl rfl)
          obtain ⟨w8r, hw8r⟩ : ∃ W, (((((((w7r.setCell ⟨q + 4, 0, none⟩ (.bool true)).setCell ⟨q + 4, 1, none⟩ (.bool false)).setCell ⟨q + 4, 2, none⟩ (.bool false)).setCell ⟨q + 4, 3, none⟩ (.int .i64 0)).setCell ⟨q + 4, 4, none⟩ (.int .i64 0)).setCell ⟨q + 4, 5, none⟩ (.int .u64 0)).setCell ⟨q + 4, 6, none⟩ (.slice none 0 0)) = W := ⟨_, rfl⟩
          replace FR := Lib.hid ((FR.out.all 4 (vs := [.bool true, .bool false, .bool false, .int .i64 0, .int .i64 0, .int .u64 0, .slice none 0 0]) rfl rfl rfl).eqw hw8r)
          go_wp2
          refine bodyPost_ret (res_ccc Try.results17 (by rfl) (by rfl) (by rfl) (FR.out.load 2 rfl rfl Try.underlying29 (by kernel_rfl)) (FR.out.load 3 rfl rfl Try.underlying31 (by kernel_rfl)) (FR.out.load 4 rfl rfl Try.underlying39 (by kernel_rfl))) rfl ?_
          rw [HE.out]
          exact ⟨rfl, FR.out.out⟩
      · rw [hb0] at B0
        replace B0 := Lib.hid B0
        have HE := Lib.hid (HO.trans (if_pos (Or.inr (Or.inl (of_decide_eq_true hb0)))))
        clear HO hb0 hx0 B1 B2
        go_enter Try.func17, Try.ntmps17
        obtain ⟨ac00, ac01, ac02, ac03, ac04, ac05, ac06, ac07, ac08, ac09, ac010⟩ := row11 (b := q) (FR.out.at 0 rfl rfl)
        obtain ⟨ac10, ac11, ac12, ac13, ac14, ac15, ac16, ac17, ac18, ac19⟩ := row10 (b := q + 1) (FR.out.at 1 rfl rfl)
        go_wp2_with fail
        refine (B0.out _).mono ?_
        rintro e wz ⟨rfl, hw⟩
        obtain rfl := hw.symm
        clear ac00 ac01 ac02 ac03 ac04 ac05 ac06 ac07 ac08 ac09 ac010 ac10 ac11 ac12 ac13 ac14 ac15 ac16 ac17 ac18 ac19
        obtain ⟨ac00, ac01, ac02, ac03, ac04, ac05, ac06, ac07, ac08, ac09, ac010⟩ := row11 (b := q) (FR.out.at 0 rfl rfl)
        obtain ⟨ac10, ac11, ac12, ac13, ac14, ac15, ac16, ac17, ac18, ac19⟩ := row10 (b := q + 1) (FR.out.at 1 rfl rfl)
        obtain ⟨mc20, mc21, mc22, mc23, mc24, mc25, mc26, mc27, mc28, mc29, mc210⟩ := row11 (b := q + 2) (FR.out.at 2 rfl rfl)
        obtain ⟨mf20, mf21, mf22, mf23, mf24, mf25, mf26, mf27, mf28, mf29, mf210⟩ := frz11 (b := q + 2) (FR.out.at 2 rfl rfl)
        obtain ⟨w6r, hw6r⟩ : ∃ W, (((((((((((v5.setCell ⟨q + 2, 0, none⟩ (.int .i64 kd)).setCell ⟨q + 2, 1, none⟩ (.int .i64 o0)).setCell ⟨q + 2, 2, none⟩ (.int .i64 o1)).setCell ⟨q + 2, 3, none⟩ (.int .i64 o2)).setCell ⟨q + 2, 4, none⟩ (.int .i64 o3)).setCell ⟨q + 2, 5, none⟩ (.int .i64 o4)).setCell ⟨q + 2, 6, none⟩ (.int .i64 o5)).setCell ⟨q + 2, 7, none⟩ (.int .u32 wa)).setCell ⟨q + 2, 8, none⟩ (.int .u32 to)).setCell ⟨q + 2, 9, none⟩ (.slice A n c)).setCell ⟨q + 2, 10, none⟩ (.slice B m d)) = W := ⟨_, rfl⟩
        replace FR := Lib.hid ((FR.out.all 2 (vs := [.int .i64 kd, .int .i64 o0, .int .i64 o1, .int .i64 o2, .int .i64 o3, .int .i64 o4, .int .i64 o5, .int .u32 wa, .int .u32 to, .slice A n c, .slice B m d]) rfl rfl rfl).eqw hw6r)
        obtain ⟨nc30, nc31, nc32, nc33, nc34, nc35, nc36, nc37, nc38, nc39⟩ := row10 (b := q + 3) (FR.out.at 3 rfl rfl)
        obtain ⟨nf30, nf31, nf32, nf33, nf34, nf35, nf36, nf37, nf38, nf39⟩ := frz10 (b := q + 3) (FR.out.at 3 rfl rfl)
        obtain ⟨w7r, hw7r⟩ : ∃ W, ((((((((((w6r.setCell ⟨q + 3, 0, none⟩ (.int .i64 0)).setCell ⟨q + 3, 1, none⟩ (.int .i64 0)).setCell ⟨q + 3, 2, none⟩ (.int .i64 0)).setCell ⟨q + 3, 3, none⟩ (.int .i64 0)).setCell ⟨q + 3, 4, none⟩ (.int .i64 0)).setCell ⟨q + 3, 5, none⟩ (.int .i64 0)).setCell ⟨q + 3, 6, none⟩ (.bool false)).setCell ⟨q + 3, 7, none⟩ (.bool false)).setCell ⟨q + 3, 8, none⟩ (.int .i64 0)).setCell ⟨q + 3, 9, none⟩ (.bool false)) = W := ⟨_, rfl⟩
        replace FR := Lib.hid ((FR.out.all 3 (vs := [.int .i64 0, .int .i64 0, .int .i64 0, .int .i64 0, .int .i64 0, .int .i64 0, .bool false, .bool false, .int .i64 0, .bool false]) rfl rfl rfl).eqw hw7r)
        obtain ⟨oc40, oc41, oc42, oc43, oc44, oc45, oc46⟩ := row7 (b := q + 4) (FR.out.at 4 rfl rfl)
        obtain ⟨of40, of41, of42, of43, of44, of45, of46⟩ := frz7 (b := q + 4) (FR.out.at 4 rfl rfl)
        obtain ⟨w8r, hw8r⟩ : ∃ W, (((((((w7r.setCell ⟨q + 4, 0, none⟩ (.bool true)).setCell ⟨q + 4, 1, none⟩ (.bool false)).setCell ⟨q + 4, 2, none⟩ (.bool false)).setCell ⟨q + 4, 3, none⟩ (.int .i64 0)).setCell ⟨q + 4, 4, none⟩ (.int .i64 0)).setCell ⟨q + 4, 5, none⟩ (.int .u64 0)).setCell ⟨q + 4, 6, none⟩ (.slice none 0 0)) = W := ⟨_, rfl⟩
        replace FR := Lib.hid ((FR.out.all 4 (vs := [.bool true, .bool false, .bool false, .int .i64 0, .int .i64 0, .int .u64 0, .slice none 0 0]) rfl rfl rfl).eqw hw8r)
        go_wp2
        refine bodyPost_ret (res_ccc Try.results17 (by rfl) (by rfl) (by rfl) (FR.out.load 2 rfl rfl Try.underlying29 (by kernel_rfl)) (FR.out.load 3 rfl rfl Try.underlying31 (by kernel_rfl)) (FR.out.load 4 rfl rfl Try.underlying39 (by kernel_rfl))) rfl ?_
        rw [HE.out]
        exact ⟨rfl, FR.out.out⟩
  have n1 : (phase == 1) = false := by simp [p1]
  by_cases p2 : phase = 2
  · subst p2
    have HE := Lib.hid (show unlockM o0 ⟨op, stage, 2, old, since, left, awoke, starve, need, front⟩ = (o0, noF, ⟨true, 2, true, 0⟩) from (by
      unfold unlockM
      rw [if_neg (fun h => (show ¬ ((2 : Int) = 0) by decide) h.1), if_neg (fun h => (show ¬ ((2 : Int) = 0) by decide) h), if_neg (fun h => (show ¬ ((2 : Int) = 1) by decide) h), if_pos rfl]))
    clear p0 p1 n0 n1 B0 B1 B2
    go_enter Try.func17, Try.ntmps17
    obtain ⟨ac00, ac01, ac02, ac03, ac04, ac05, ac06, ac07, ac08, ac09, ac010⟩ := row11 (b := q) (FR.out.at 0 rfl rfl)
    obtain ⟨ac10, ac11, ac12, ac13, ac14, ac15, ac16, ac17, ac18, ac19⟩ := row10 (b := q + 1) (FR.out.at 1 rfl rfl)
    obtain ⟨mc20, mc21, mc22, mc23, mc24, mc25, mc26, mc27, mc28, mc29, mc210⟩ := row11 (b := q + 2) (FR.out.at 2 rfl rfl)
    obtain ⟨mf20, mf21, mf22, mf23, mf24, mf25, mf26, mf27, mf28, mf29, mf210⟩ := frz11 (b := q + 2) (FR.out.at 2 rfl rfl)
    obtain ⟨w6r, hw6r⟩ : ∃ W, (((((((((((v5.setCell ⟨q + 2, 0, none⟩ (.int .i64 kd)).setCell ⟨q + 2, 1, none⟩ (.int .i64 o0)).setCell ⟨q + 2, 2, none⟩ (.int .i64 o1)).setCell ⟨q + 2, 3, none⟩ (.int .i64 o2)).setCell ⟨q + 2, 4, none⟩ (.int .i64 o3)).setCell ⟨q + 2, 5, none⟩ (.int .i64 o4)).setCell ⟨q + 2, 6, none⟩ (.int .i64 o5)).setCell ⟨q + 2, 7, none⟩ (.int .u32 wa)).setCell ⟨q + 2, 8, none⟩ (.int .u32 to)).setCell ⟨q + 2, 9, none⟩ (.slice A n c)).setCell ⟨q + 2, 10, none⟩ (.slice B m d)) = W := ⟨_, rfl⟩
    replace FR := Lib.hid ((FR.out.all 2 (vs := [.int .i64 kd, .int .i64 o0, .int .i64 o1, .int .i64 o2, .int .i64 o3, .int .i64 o4, .int .i64 o5, .int .u32 wa, .int .u32 to, .slice A n c, .slice B m d]) rfl rfl rfl).eqw hw6r)
    obtain ⟨nc30, nc31, nc32, nc33, nc34, nc35, nc36, nc37, nc38, nc39⟩ := row10 (b := q + 3) (FR.out.at 3 rfl rfl)
    obtain ⟨nf30, nf31, nf32, nf33, nf34, nf35, nf36, nf37, nf38, nf39⟩ := frz10 (b := q + 3) (FR.out.at 3 rfl rfl)
    obtain ⟨w7r, hw7r⟩ : ∃ W, ((((((((((w6r.setCell ⟨q + 3, 0, none⟩ (.int .i64 0)).setCell ⟨q + 3, 1, none⟩ (.int .i64 0)).setCell ⟨q + 3, 2, none⟩ (.int .i64 0)).setCell ⟨q + 3, 3, none⟩ (.int .i64 0)).setCell ⟨q + 3, 4, none⟩ (.int .i64 0)).setCell ⟨q + 3, 5, none⟩ (.int .i64 0)).setCell ⟨q + 3, 6, none⟩ (.bool false)).setCell ⟨q + 3, 7, none⟩ (.bool false)).setCell ⟨q + 3, 8, none⟩ (.int .i64 0)).setCell ⟨q + 3, 9, none⟩ (.bool false)) = W := ⟨_, rfl⟩
    replace FR := Lib.hid ((FR.out.all 3 (vs := [.int .i64 0, .int .i64 0, .int .i64 0, .int .i64 0, .int .i64 0, .int .i64 0, .bool false, .bool false, .int .i64 0, .bool false]) rfl rfl rfl).eqw hw7r)
    obtain ⟨oc40, oc41, oc42, oc43, oc44, oc45, oc46⟩ := row7 (b := q + 4) (FR.out.at 4 rfl rfl)
    obtain ⟨of40, of41, of42, of43, of44, of45, of46⟩ := frz7 (b := q + 4) (FR.out.at 4 rfl rfl)
    obtain ⟨w8r, hw8r⟩ : ∃ W, (((((((w7r.setCell ⟨q + 4, 0, none⟩ (.bool true)).setCell ⟨q + 4, 1, none⟩ (.bool false)).setCell ⟨q + 4, 2, none⟩ (.bool true)).setCell ⟨q + 4, 3, none⟩ (.int .i64 2)).setCell ⟨q + 4, 4, none⟩ (.int .i64 0)).setCell ⟨q + 4, 5, none⟩ (.int .u64 0)).setCell ⟨q + 4, 6, none⟩ (.slice none 0 0)) = W := ⟨_, rfl⟩
    replace FR := Lib.hid ((FR.out.all 4 (vs := [.bool true, .bool false, .bool true, .int .i64 2, .int .i64 0, .int .u64 0, .slice none 0 0]) rfl rfl rfl).eqw hw8r)
    go_wp2
    refine bodyPost_ret (res_ccc Try.results17 (by rfl) (by rfl) (by rfl) (FR.out.load 2 rfl rfl Try.underlying29 (by kernel_rfl)) (FR.out.load 3 rfl rfl Try.underlying31 (by kernel_rfl)) (FR.out.load 4 rfl rfl Try.underlying39 (by kernel_rfl))) rfl ?_
    rw [HE.out]
    exact ⟨rfl, FR.out.out⟩
  have n2 : (phase == 2) = false := by simp [p2]
  by_cases p3 : phase = 3
  · subst p3
    have HE := Lib.hid (show unlockM o0 ⟨op, stage, 3, old, since, left, awoke, starve, need, front⟩ = (o0, noF, ⟨true, 2, false, 0⟩) from (by
      unfold unlockM
      rw [if_neg (fun h => (show ¬ ((3 : Int) = 0) by decide) h.1), if_neg (fun h => (show ¬ ((3 : Int) = 0) by decide) h), if_neg (fun h => (show ¬ ((3 : Int) = 1) by decide) h), if_neg (fun h => (show ¬ ((3 : Int) = 2) by decide) h), if_pos rfl]))
    clear p0 p1 p2 n0 n1 n2 B0 B1 B2
    go_enter Try.func17, Try.ntmps17
    obtain ⟨ac00, ac01, ac02, ac03, ac04, ac05, ac06, ac07, ac08, ac09, ac010⟩ := row11 (b := q) (FR.out.at 0 rfl rfl)
    obtain ⟨ac10, ac11, ac12, ac13, ac14, ac15, ac16, ac17, ac18, ac19⟩ := row10 (b := q + 1) (FR.out.at 1 rfl rfl)
    obtain ⟨mc20, mc21, mc22, mc23, mc24, mc25, mc26, mc27, mc28, mc29, mc210⟩ := row11 (b := q + 2) (FR.out.at 2 rfl rfl)
    obtain ⟨mf20, mf21, mf22, mf23, mf24, mf25, mf26, mf27, mf28, mf29, mf210⟩ := frz11 (b := q + 2) (FR.out.at 2 rfl rfl)
    obtain ⟨w6r, hw6r⟩ : ∃ W, (((((((((((v5.setCell ⟨q + 2, 0, none⟩ (.int .i64 kd)).setCell ⟨q + 2, 1, none⟩ (.int .i64 o0)).setCell ⟨q + 2, 2, none⟩ (.int .i64 o1)).setCell ⟨q + 2, 3, none⟩ (.int .i64 o2)).setCell ⟨q + 2, 4, none⟩ (.int .i64 o3)).setCell ⟨q + 2, 5, none⟩ (.int .i64 o4)).setCell ⟨q + 2, 6, none⟩ (.int .i64 o5)).setCell ⟨q + 2, 7, none⟩ (.int .u32 wa)).setCell ⟨q + 2, 8, none⟩ (.int .u32 to)).setCell ⟨q + 2, 9, none⟩ (.slice A n c)).setCell ⟨q + 2, 10, none⟩ (.slice B m d)) = W := ⟨_, rfl⟩
    replace FR := Lib.hid ((FR.out.all 2 (vs := [.int .i64 kd, .int .i64 o0, .int .i64 o1, .int .i64 o2, .int .i64 o3, .int .i64 o4, .int .i64 o5, .int .u32 wa, .int .u32 to, .slice A n c, .slice B m d]) rfl rfl rfl).eqw hw6r)
    obtain ⟨nc30, nc31, nc32, nc33, nc34, nc35, nc36, nc37, nc38, nc39⟩ := row10 (b := q + 3) (FR.out.at 3 rfl rfl)
    obtain ⟨nf30, nf31, nf32, nf33, nf34, nf35, nf36, nf37, nf38, nf39⟩ := frz10 (b := q + 3) (FR.out.at 3 rfl rfl)
    obtain ⟨w7r, hw7r⟩ : ∃ W, ((((((((((w6r.setCell ⟨q + 3, 0, none⟩ (.int .i64 0)).setCell ⟨q + 3, 1, none⟩ (.int .i64 0)).setCell ⟨q + 3, 2, none⟩ (.int .i64 0)).setCell ⟨q + 3, 3, none⟩ (.int .i64 0)).setCell ⟨q + 3, 4, none⟩ (.int .i64 0)).setCell ⟨q + 3, 5, none⟩ (.int .i64 0)).setCell ⟨q + 3, 6, none⟩ (.bool false)).setCell ⟨q + 3, 7, none⟩ (.bool false)).setCell ⟨q + 3, 8, none⟩ (.int .i64 0)).setCell ⟨q + 3, 9, none⟩ (.bool false)) = W := ⟨_, rfl⟩
    replace FR := Lib.hid ((FR.out.all 3 (vs := [.int .i64 0, .int .i64 0, .int .i64 0, .int .i64 0, .int .i64 0, .int .i64 0, .bool false, .bool false, .int .i64 0, .bool false]) rfl rfl rfl).eqw hw7r)
    obtain ⟨oc40, oc41, oc42, oc43, oc44, oc45, oc46⟩ := row7 (b := q + 4) (FR.out.at 4 rfl rfl)
    obtain ⟨of40, of41, of42, of43, of44, of45, of46⟩ := frz7 (b := q + 4) (FR.out.at 4 rfl rfl)
    obtain ⟨w8r, hw8r⟩ : ∃ W, (((((((w7r.setCell ⟨q + 4, 0, none⟩ (.bool true)).setCell ⟨q + 4, 1, none⟩ (.bool false)).setCell ⟨q + 4, 2, none⟩ (.bool false)).setCell ⟨q + 4, 3, none⟩ (.int .i64 2)).setCell ⟨q + 4, 4, none⟩ (.int .i64 0)).setCell ⟨q + 4, 5, none⟩ (.int .u64 0)).setCell ⟨q + 4, 6, none⟩ (.slice none 0 0)) = W := ⟨_, rfl⟩
    replace FR := Lib.hid ((FR.out.all 4 (vs := [.bool true, .bool false, .bool false, .int .i64 2, .int .i64 0, .int .u64 0, .slice none 0 0]) rfl rfl rfl).eqw hw8r)
    go_wp2
    refine bodyPost_ret (res_ccc Try.results17 (by rfl) (by rfl) (by rfl) (FR.out.load 2 rfl rfl Try.underlying29 (by kernel_rfl)) (FR.out.load 3 rfl rfl Try.underlying31 (by kernel_rfl)) (FR.out.load 4 rfl rfl Try.underlying39 (by kernel_rfl))) rfl ?_
    rw [HE.out]
    exact ⟨rfl, FR.out.out⟩
  have n3 : (phase == 3) = false := by simp [p3]
  have HE := Lib.hid (show unlockM o0 ⟨op, stage, phase, old, since, left, awoke, starve, need, front⟩ = (o0, ⟨op, stage, phase, old, since, left, awoke, starve, need, front⟩, noA) from by
    unfold unlockM
    rw [if_neg (fun h => p0 h.1), if_neg p0, if_neg p1, if_neg p2, if_neg p3])
  clear p0 p1 p2 p3 B0 B1 B2
  go_enter Try.func17, Try.ntmps17
  obtain ⟨ac00, ac01, ac02, ac03, ac04, ac05, ac06, ac07, ac08, ac09, ac010⟩ := row11 (b := q) (FR.out.at 0 rfl rfl)
  obtain ⟨ac10, ac11, ac12, ac13, ac14, ac15, ac16, ac17, ac18, ac19⟩ := row10 (b := q + 1) (FR.out.at 1 rfl rfl)
  go_wp2
  clear ac00 ac01 ac02 ac03 ac04 ac05 ac06 ac07 ac08 ac09 ac010 ac10 ac11 ac12 ac13 ac14 ac15 ac16 ac17 ac18 ac19
  have HF0 := Lib.hid FR.out.drew
  obtain ⟨w6r, hw6r⟩ : ∃ W, v5.drew.setCells (q + 2) 0 [.int .i64 kd, .int .i64 o0, .int .i64 o1, .int .i64 o2, .int .i64 o3, .int .i64 o4, .int .i64 o5, .int .u32 wa, .int .u32 to, .slice A n c, .slice B m d] = W := ⟨_, rfl⟩
  have HF1 := Lib.hid ((HF0.out.all 2 rfl rfl (by rfl)).eqw hw6r)
  have hh1 := Lib.hid hw6r
  clear hw6r
  obtain ⟨w7r, hw7r⟩ : ∃ W, w6r.setCells (q + 3) 0 [.int .i64 op, .int .i64 stage, .int .i64 phase, .int .i64 old, .int .i64 since, .int .i64 left, .bool awoke, .bool starve, .int .i64 need, .bool front] = W := ⟨_, rfl⟩
  have HF2 := Lib.hid ((HF1.out.all 3 rfl rfl (by rfl)).eqw hw7r)
  have hh2 := Lib.hid hw7r
  clear hw7r
  obtain ⟨w8r, hw8r⟩ : ∃ W, w7r.setCells (q + 4) 0 [.bool false, .bool false, .bool false, .int .i64 0, .int .i64 0, .int .u64 0, .slice none 0 0] = W := ⟨_, rfl⟩
  have HF3 := Lib.hid ((HF2.out.all 4 rfl rfl (by rfl)).eqw hw8r)
  have hh3 := Lib.hid hw8r
  clear hw8r
  refine wp_region_noPanic ?_
  refine wp_region_held_drew (S := (fun wv => Hid (wv.heap[q]? = some (.cells #[.int .i64 kd, .int .i64 o0, .int .i64 o1, .int .i64 o2, .int .i64 o3, .int .i64 o4, .int .i64 o5, .int .u32 wa, .int .u32 to, .slice A n c, .slice B m d] 29) ∧ wv.heap[q + 1]? = some (.cells #[.int .i64 op, .int .i64 stage, .int .i64 phase, .int .i64 old, .int .i64 since, .int .i64 left, .bool awoke, .bool starve, .int .i64 need, .bool front] 31)))) (by kernel_rfl) (Lib.hid (show v5.drew.heap[q]? = some (.cells #[.int .i64 kd, .int .i64 o0, .int .i64 o1, .int .i64 o2, .int .i64 o3, .int .i64 o4, .int .i64 o5, .int .u32 wa, .int .u32 to, .slice A n c, .slice B m d] 29) ∧ v5.drew.heap[q + 1]? = some (.cells #[.int .i64 op, .int .i64 stage, .int .i64 phase, .int .i64 old, .int .i64 since, .int .i64 left, .bool awoke, .bool starve, .int .i64 need, .bool front] 31) from ⟨HF0.out.blk 0 _ rfl, HF0.out.blk 1 _ rfl⟩)) (fun hS => ?_)
  refine wpAnyH_take (i := 0) (oi := ⟨some 99, .load 29 (.tmp 2), 29, "ref.go:117", #[], none⟩) (v := .agg (([.int .i64 kd, .int .i64 o0, .int .i64 o1, .int .i64 o2, .int .i64 o3, .int .i64 o4, .int .i64 o5, .int .u32 wa, .int .u32 to, .slice A n c, .slice B m d] : List Value)).toArray) rfl (by kernel_rfl) (by kernel_rfl) (by kernel_rfl) (fun _ _ _ h => h) (yieldsIf_load_mid (by rfl) _ _ (by rfl) (q) (0) (by rfl) (([.int .i64 kd, .int .i64 o0, .int .i64 o1, .int .i64 o2, .int .i64 o3, .int .i64 o4, .int .i64 o5, .int .u32 wa, .int .u32 to, .slice A n c, .slice B m d] : List Value)) _ (fun wv hS => blk_rngl hS.out.1) Try.underlying29 (by rfl) (by kernel_rfl)) hS ?_
  try simp only [Act.put, List.setIfInBounds_toArray, List.set_cons_zero, List.set_cons_succ]
  refine wpAnyH_take (i := 1) (oi := ⟨some 100, .load 31 (.tmp 3), 31, "ref.go:117", #[⟨3, .gcOnly .lateStores⟩], none⟩) (v := .agg (([.int .i64 op, .int .i64 stage, .int .i64 phase, .int .i64 old, .int .i64 since, .int .i64 left, .bool awoke, .bool starve, .int .i64 need, .bool front] : List Value)).toArray) rfl (by kernel_rfl) (by kernel_rfl) (by kernel_rfl) (fun _ _ _ h => h) (yieldsIf_load_mid (by rfl) _ _ (by rfl) (q + 1) (0) (by rfl) (([.int .i64 op, .int .i64 stage, .int .i64 phase, .int .i64 old, .int .i64 since, .int .i64 left, .bool awoke, .bool starve, .int .i64 need, .bool front] : List Value)) _ (fun wv hS => blk_rngl hS.out.2) Try.underlying31 (by rfl) (by kernel_rfl)) hS ?_
  try simp only [Act.put, List.setIfInBounds_toArray, List.set_cons_zero, List.set_cons_succ]
  refine wpAnyH_take (i := 2) (oi := ⟨some 101, .build 39 #[], 39, "ref.go:117", #[⟨4, .gcOnly .lateStores⟩], none⟩) (v := ?_) rfl (by kernel_rfl) (by kernel_rfl) (by kernel_rfl) (fun _ _ _ h => h) (Or.inl ⟨by rfl, ?_⟩) hS ?_
  rotate_left
  · intro wv _; go_simp; try with_reducible rfl
  try simp only [Act.put, List.setIfInBounds_toArray, List.set_cons_zero, List.set_cons_succ]
  refine wpAnyH_ready (rs := [3]) (by kernel_rfl) (by simp) (AllReadyH.cons (o := ⟨none, .store 29 (.tmp 4) (.tmp 99), 0, "ref.go:117", #[⟨0, .data⟩, ⟨0, .phase⟩, ⟨1, .textOnly .lateStores⟩, ⟨2, .textOnly .lateStores⟩], none⟩) rfl (fun K hK => ?_) AllReadyH.nil)
  refine op_storeS (by rfl) rfl rfl rfl (there_blk (HF0.out.blk 2 _ rfl) rfl) (by kernel_rfl) (by simp [Value.oneCell']) hh1.out ?_
  replace hS := Lib.hid (show w6r.heap[q]? = some (.cells #[.int .i64 kd, .int .i64 o0, .int .i64 o1, .int .i64 o2, .int .i64 o3, .int .i64 o4, .int .i64 o5, .int .u32 wa, .int .u32 to, .slice A n c, .slice B m d] 29) ∧ w6r.heap[q + 1]? = some (.cells #[.int .i64 op, .int .i64 stage, .int .i64 phase, .int .i64 old, .int .i64 since, .int .i64 left, .bool awoke, .bool starve, .int .i64 need, .bool front] 31) from ⟨HF1.out.blk 0 _ rfl, HF1.out.blk 1 _ rfl⟩)
  refine Shut.out hK _ _ hS (fun _ => ?_)
  clear hK K
  try simp only [Act.put, List.setIfInBounds_toArray, List.set_cons_zero, List.set_cons_succ]
  refine wpAnyH_ready (rs := [4]) (by kernel_rfl) (by simp) (AllReadyH.cons (o := ⟨none, .store 31 (.tmp 5) (.tmp 100), 0, "ref.go:117", #[⟨1, .data⟩, ⟨3, .chain⟩, ⟨0, .phase⟩, ⟨1, .phase⟩, ⟨2, .textOnly .lateStores⟩, ⟨3, .phase⟩], none⟩) rfl (fun K hK => ?_) AllReadyH.nil)
  refine op_storeS (by rfl) rfl rfl rfl (there_blk (HF1.out.blk 3 _ rfl) rfl) (by kernel_rfl) (by simp [Value.oneCell']) hh2.out ?_
  replace hS := Lib.hid (show w7r.heap[q]? = some (.cells #[.int .i64 kd, .int .i64 o0, .int .i64 o1, .int .i64 o2, .int .i64 o3, .int .i64 o4, .int .i64 o5, .int .u32 wa, .int .u32 to, .slice A n c, .slice B m d] 29) ∧ w7r.heap[q + 1]? = some (.cells #[.int .i64 op, .int .i64 stage, .int .i64 phase, .int .i64 old, .int .i64 since, .int .i64 left, .bool awoke, .bool starve, .int .i64 need, .bool front] 31) from ⟨HF2.out.blk 0 _ rfl, HF2.out.blk 1 _ rfl⟩)
  refine Shut.out hK _ _ hS (fun _ => ?_)
  clear hK K
  try simp only [Act.put, List.setIfInBounds_toArray, List.set_cons_zero, List.set_cons_succ]
  refine wpAnyH_ready (rs := [5]) (by kernel_rfl) (by simp) (AllReadyH.cons (o := ⟨none, .store 39 (.tmp 6) (.tmp 101), 0, "ref.go:117", #[⟨2, .data⟩, ⟨4, .chain⟩, ⟨0, .phase⟩, ⟨1, .phase⟩, ⟨2, .phase⟩, ⟨3, .phase⟩, ⟨4, .phase⟩], none⟩) rfl (fun K hK => ?_) AllReadyH.nil)
  refine op_storeS (by rfl) rfl rfl rfl (there_blk (HF2.out.blk 4 _ rfl) rfl) (by kernel_rfl) (by simp [Value.oneCell']) hh3.out ?_
  replace hS := Lib.hid (show w8r.heap[q]? = some (.cells #[.int .i64 kd, .int .i64 o0, .int .i64 o1, .int .i64 o2, .int .i64 o3, .int .i64 o4, .int .i64 o5, .int .u32 wa, .int .u32 to, .slice A n c, .slice B m d] 29) ∧ w8r.heap[q + 1]? = some (.cells #[.int .i64 op, .int .i64 stage, .int .i64 phase, .int .i64 old, .int .i64 since, .int .i64 left, .bool awoke, .bool starve, .int .i64 need, .bool front] 31) from ⟨HF3.out.blk 0 _ rfl, HF3.out.blk 1 _ rfl⟩)
  refine Shut.out hK _ _ hS (fun _ => ?_)
  clear hK K
  try simp only [Act.put, List.setIfInBounds_toArray, List.set_cons_zero, List.set_cons_succ]
  refine wpAnyH_done (by kernel_rfl) ?_ _
  refine NoPanic.normal ?_
  go_wp2
  refine bodyPost_ret (res_ccc Try.results17 (by rfl) (by rfl) (by rfl) (HF3.out.load 2 rfl rfl Try.underlying29 (by kernel_rfl)) (HF3.out.load 3 rfl rfl Try.underlying31 (by kernel_rfl)) (HF3.out.load 4 rfl rfl Try.underlying39 (by kernel_rfl))) rfl ?_
  replace FR := HF3
  rw [HE.out]
  exact ⟨rfl, FR.out.out⟩
end Go.Proofs.Ytagaijghfikdoaa
