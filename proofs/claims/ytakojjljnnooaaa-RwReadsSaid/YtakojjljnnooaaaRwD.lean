/- Layer 16: what the document's own RLock and RUnlock answer; no condition. -/
import Derived.Test.YtakojjljnnooaaaRwB
namespace Go.Proofs.Ytakojjljnnooaaa
set_option linter.unusedVariables false
set_option linter.unusedSimpArgs false
open Go.RowKit
set_option maxRecDepth 100000 in
set_option maxHeartbeats 16000000 in
theorem rlock16_any (kd o0 o1 o2 o3 o4 o5 wa to : Int) (A : Option Addr) (n c : Nat) (B : Option Addr) (m d : Nat) (f : MFr) (w : World) : Calls Try.prog 10 #[obV kd o0 o1 o2 o3 o4 o5 wa to A n c B m d, frV f] w (StepR w kd o1 o2 o3 wa to A n c B m d (rlockW o0 o4 o5 f)) := by
  obtain ⟨op, stage, phase, old, since, left, awoke, starve, need, front⟩ := f
  unfold obV frV frC
  simp only
  obtain ⟨v1, hv1⟩ : ∃ W, w.alloc (.cells #[.int .i64 kd, .int .i64 o0, .int .i64 o1, .int .i64 o2, .int .i64 o3, .int .i64 o4, .int .i64 o5, .int .u32 wa, .int .u32 to, .slice A n c, .slice B m d] 29) = W := ⟨_, rfl⟩
  have fr1 : Fr w v1 w.heap.size [.cells #[.int .i64 kd, .int .i64 o0, .int .i64 o1, .int .i64 o2, .int .i64 o3, .int .i64 o4, .int .i64 o5, .int .u32 wa, .int .u32 to, .slice A n c, .slice B m d] 29] := hv1 ▸ Fr.first w _
  have z1 : v1.heap.size = w.heap.size + 1 := by rw [← hv1, Fr.size1]
  obtain ⟨v2, hv2⟩ : ∃ W, v1.alloc (.cells #[.int .i64 op, .int .i64 stage, .int .i64 phase, .int .i64 old, .int .i64 since, .int .i64 left, .bool awoke, .bool starve, .int .i64 need, .bool front] 31) = W := ⟨_, rfl⟩
  have fr2 : Fr w v2 w.heap.size [.cells #[.int .i64 kd, .int .i64 o0, .int .i64 o1, .int .i64 o2, .int .i64 o3, .int .i64 o4, .int .i64 o5, .int .u32 wa, .int .u32 to, .slice A n c, .slice B m d] 29, .cells #[.int .i64 op, .int .i64 stage, .int .i64 phase, .int .i64 old, .int .i64 since, .int .i64 left, .bool awoke, .bool starve, .int .i64 need, .bool front] 31] := hv2 ▸ fr1.more z1 _
  have z2 : v2.heap.size = w.heap.size + 2 := by rw [← hv2, Fr.size1, z1]
  obtain ⟨v3, hv3⟩ : ∃ W, v2.alloc (.cells #[.int .i64 0, .int .i64 0, .int .i64 0, .int .i64 0, .int .i64 0, .int .i64 0, .int .i64 0, .int .u32 0, .int .u32 0, .slice none 0 0, .slice none 0 0] 29) = W := ⟨_, rfl⟩
  have fr3 : Fr w v3 w.heap.size [.cells #[.int .i64 kd, .int .i64 o0, .int .i64 o1, .int .i64 o2, .int .i64 o3, .int .i64 o4, .int .i64 o5, .int .u32 wa, .int .u32 to, .slice A n c, .slice B m d] 29, .cells #[.int .i64 op, .int .i64 stage, .int .i64 phase, .int .i64 old, .int .i64 since, .int .i64 left, .bool awoke, .bool starve, .int .i64 need, .bool front] 31, .cells #[.int .i64 0, .int .i64 0, .int .i64 0, .int .i64 0, .int .i64 0, .int .i64 0, .int .i64 0, .int .u32 0, .int .u32 0, .slice none 0 0, .slice none 0 0] 29] := hv3 ▸ fr2.more z2 _
  have z3 : v3.heap.size = w.heap.size + 3 := by rw [← hv3, Fr.size1, z2]
  obtain ⟨v4, hv4⟩ : ∃ W, v3.alloc (.cells #[.int .i64 0, .int .i64 0, .int .i64 0, .int .i64 0, .int .i64 0, .int .i64 0, .bool false, .bool false, .int .i64 0, .bool false] 31) = W := ⟨_, rfl⟩
  have fr4 : Fr w v4 w.heap.size [.cells #[.int .i64 kd, .int .i64 o0, .int .i64 o1, .int .i64 o2, .int .i64 o3, .int .i64 o4, .int .i64 o5, .int .u32 wa, .int .u32 to, .slice A n c, .slice B m d] 29, .cells #[.int .i64 op, .int .i64 stage, .int .i64 phase, .int .i64 old, .int .i64 since, .int .i64 left, .bool awoke, .bool starve, .int .i64 need, .bool front] 31, .cells #[.int .i64 0, .int .i64 0, .int .i64 0, .int .i64 0, .int .i64 0, .int .i64 0, .int .i64 0, .int .u32 0, .int .u32 0, .slice none 0 0, .slice none 0 0] 29, .cells #[.int .i64 0, .int .i64 0, .int .i64 0, .int .i64 0, .int .i64 0, .int .i64 0, .bool false, .bool false, .int .i64 0, .bool false] 31] := hv4 ▸ fr3.more z3 _
  have z4 : v4.heap.size = w.heap.size + 4 := by rw [← hv4, Fr.size1, z3]
  obtain ⟨v5, hv5⟩ : ∃ W, v4.alloc (.cells #[.bool false, .bool false, .bool false, .int .i64 0, .int .i64 0, .int .u64 0, .slice none 0 0] 38) = W := ⟨_, rfl⟩
  have fr5 : Fr w v5 w.heap.size [.cells #[.int .i64 kd, .int .i64 o0, .int .i64 o1, .int .i64 o2, .int .i64 o3, .int .i64 o4, .int .i64 o5, .int .u32 wa, .int .u32 to, .slice A n c, .slice B m d] 29, .cells #[.int .i64 op, .int .i64 stage, .int .i64 phase, .int .i64 old, .int .i64 since, .int .i64 left, .bool awoke, .bool starve, .int .i64 need, .bool front] 31, .cells #[.int .i64 0, .int .i64 0, .int .i64 0, .int .i64 0, .int .i64 0, .int .i64 0, .int .i64 0, .int .u32 0, .int .u32 0, .slice none 0 0, .slice none 0 0] 29, .cells #[.int .i64 0, .int .i64 0, .int .i64 0, .int .i64 0, .int .i64 0, .int .i64 0, .bool false, .bool false, .int .i64 0, .bool false] 31, .cells #[.bool false, .bool false, .bool false, .int .i64 0, .int .i64 0, .int .u64 0, .slice none 0 0] 38] := hv5 ▸ fr4.more z4 _
  have z5 : v5.heap.size = w.heap.size + 5 := by rw [← hv5, Fr.size1, z4]
  generalize hq : w.heap.size = q at *
  have FR := Lib.hid fr5
  clear fr1 fr2 fr3 fr4 fr5
  by_cases s1 : stage = 1
  · subst s1
    have HE := Lib.hid (show rlockW o0 o4 o5 ⟨op, 1, phase, old, since, left, awoke, starve, need, front⟩ = ((o0, o4, o5), noF, doneA) from by
      unfold rlockW
      exact if_pos rfl)
    go_enter Try.func10, Try.ntmps10
    obtain ⟨ac00, ac01, ac02, ac03, ac04, ac05, ac06, ac07, ac08, ac09, ac010⟩ := row11 (b := q) (FR.out.at 0 rfl rfl)
    obtain ⟨ac10, ac11, ac12, ac13, ac14, ac15, ac16, ac17, ac18, ac19⟩ := row10 (b := q + 1) (FR.out.at 1 rfl rfl)
    go_wp2_with fail
    refine (over16_any _ _ _ _ _ _ _ _ _ _ _ _ _ _ _ _).mono ?_
    rintro e w7 ⟨rfl, hb⟩
    clear ac00 ac01 ac02 ac03 ac04 ac05 ac06 ac07 ac08 ac09 ac010 ac10 ac11 ac12 ac13 ac14 ac15 ac16 ac17 ac18 ac19
    replace FR := Lib.hid (FR.out.step hb)
    clear hb
    obtain ⟨mc20, mc21, mc22, mc23, mc24, mc25, mc26, mc27, mc28, mc29, mc210⟩ := row11 (b := q + 2) (FR.out.at 2 rfl rfl)
    obtain ⟨mf20, mf21, mf22, mf23, mf24, mf25, mf26, mf27, mf28, mf29, mf210⟩ := frz11 (b := q + 2) (FR.out.at 2 rfl rfl)
    obtain ⟨w6r, hw6r⟩ : ∃ W, (((((((((((w7.setCell ⟨q + 2, 0, none⟩ (.int .i64 kd)).setCell ⟨q + 2, 1, none⟩ (.int .i64 o0)).setCell ⟨q + 2, 2, none⟩ (.int .i64 o1)).setCell ⟨q + 2, 3, none⟩ (.int .i64 o2)).setCell ⟨q + 2, 4, none⟩ (.int .i64 o3)).setCell ⟨q + 2, 5, none⟩ (.int .i64 o4)).setCell ⟨q + 2, 6, none⟩ (.int .i64 o5)).setCell ⟨q + 2, 7, none⟩ (.int .u32 wa)).setCell ⟨q + 2, 8, none⟩ (.int .u32 to)).setCell ⟨q + 2, 9, none⟩ (.slice A n c)).setCell ⟨q + 2, 10, none⟩ (.slice B m d)) = W := ⟨_, rfl⟩
    replace FR := Lib.hid ((FR.out.all 2 (vs := [.int .i64 kd, .int .i64 o0, .int .i64 o1, .int .i64 o2, .int .i64 o3, .int .i64 o4, .int .i64 o5, .int .u32 wa, .int .u32 to, .slice A n c, .slice B m d]) rfl rfl rfl).eqw hw6r)
    obtain ⟨nc30, nc31, nc32, nc33, nc34, nc35, nc36, nc37, nc38, nc39⟩ := row10 (b := q + 3) (FR.out.at 3 rfl rfl)
    obtain ⟨nf30, nf31, nf32, nf33, nf34, nf35, nf36, nf37, nf38, nf39⟩ := frz10 (b := q + 3) (FR.out.at 3 rfl rfl)
    obtain ⟨w7r, hw7r⟩ : ∃ W, ((((((((((w6r.setCell ⟨q + 3, 0, none⟩ (.int .i64 0)).setCell ⟨q + 3, 1, none⟩ (.int .i64 0)).setCell ⟨q + 3, 2, none⟩ (.int .i64 0)).setCell ⟨q + 3, 3, none⟩ (.int .i64 0)).setCell ⟨q + 3, 4, none⟩ (.int .i64 0)).setCell ⟨q + 3, 5, none⟩ (.int .i64 0)).setCell ⟨q + 3, 6, none⟩ (.bool false)).setCell ⟨q + 3, 7, none⟩ (.bool false)).setCell ⟨q + 3, 8, none⟩ (.int .i64 0)).setCell ⟨q + 3, 9, none⟩ (.bool false)) = W := ⟨_, rfl⟩
    replace FR := Lib.hid ((FR.out.all 3 (vs := [.int .i64 0, .int .i64 0, .int .i64 0, .int .i64 0, .int .i64 0, .int .i64 0, .bool false, .bool false, .int .i64 0, .bool false]) rfl rfl rfl).eqw hw7r)
    obtain ⟨oc40, oc41, oc42, oc43, oc44, oc45, oc46⟩ := row7 (b := q + 4) (FR.out.at 4 rfl rfl)
    obtain ⟨of40, of41, of42, of43, of44, of45, of46⟩ := frz7 (b := q + 4) (FR.out.at 4 rfl rfl)
    obtain ⟨w8r, hw8r⟩ : ∃ W, (((((((w7r.setCell ⟨q + 4, 0, none⟩ (.bool true)).setCell ⟨q + 4, 1, none⟩ (.bool false)).setCell ⟨q + 4, 2, none⟩ (.bool false)).setCell ⟨q + 4, 3, none⟩ (.int .i64 0)).setCell ⟨q + 4, 4, none⟩ (.int .i64 0)).setCell ⟨q + 4, 5, none⟩ (.int .u64 0)).setCell ⟨q + 4, 6, none⟩ (.slice none 0 0)) = W := ⟨_, rfl⟩
    replace FR := Lib.hid ((FR.out.all 4 (vs := [.bool true, .bool false, .bool false, .int .i64 0, .int .i64 0, .int .u64 0, .slice none 0 0]) rfl rfl rfl).eqw hw8r)
    go_wp2
    refine bodyPost_ret (res_ccc Try.results10 (by rfl) (by rfl) (by rfl) (FR.out.load 2 rfl rfl Try.underlying29 (by kernel_rfl)) (FR.out.load 3 rfl rfl Try.underlying31 (by kernel_rfl)) (FR.out.load 4 rfl rfl Try.underlying38 (by kernel_rfl))) rfl ?_
    rw [HE.out]
    exact ⟨rfl, FR.out.out⟩
  have n1 : (stage == 1) = false := by simp [s1]
  by_cases s0 : stage = 0
  rotate_left
  · have n0 : (stage != 0) = true := by simp [s0]
    have HE := Lib.hid (show rlockW o0 o4 o5 ⟨op, stage, phase, old, since, left, awoke, starve, need, front⟩ = ((o0, o4, o5), ⟨op, stage, phase, old, since, left, awoke, starve, need, front⟩, noA) from by
      unfold rlockW
      rw [if_neg s1, if_pos s0])
    clear s0 s1
    go_enter Try.func10, Try.ntmps10
    obtain ⟨ac00, ac01, ac02, ac03, ac04, ac05, ac06, ac07, ac08, ac09, ac010⟩ := row11 (b := q) (FR.out.at 0 rfl rfl)
    obtain ⟨ac10, ac11, ac12, ac13, ac14, ac15, ac16, ac17, ac18, ac19⟩ := row10 (b := q + 1) (FR.out.at 1 rfl rfl)
    go_wp2_with fail
    refine (on16_any _ _ _ _ _ _ _ _ _ _ _ _ _ _ _ _ _ _ _ _ _ _ _ _ _ _).mono ?_
    rintro e w7 ⟨rfl, hb⟩
    clear ac00 ac01 ac02 ac03 ac04 ac05 ac06 ac07 ac08 ac09 ac010 ac10 ac11 ac12 ac13 ac14 ac15 ac16 ac17 ac18 ac19
    replace FR := Lib.hid (FR.out.step hb)
    clear hb
    obtain ⟨mc20, mc21, mc22, mc23, mc24, mc25, mc26, mc27, mc28, mc29, mc210⟩ := row11 (b := q + 2) (FR.out.at 2 rfl rfl)
    obtain ⟨mf20, mf21, mf22, mf23, mf24, mf25, mf26, mf27, mf28, mf29, mf210⟩ := frz11 (b := q + 2) (FR.out.at 2 rfl rfl)
    obtain ⟨w6r, hw6r⟩ : ∃ W, (((((((((((w7.setCell ⟨q + 2, 0, none⟩ (.int .i64 kd)).setCell ⟨q + 2, 1, none⟩ (.int .i64 o0)).setCell ⟨q + 2, 2, none⟩ (.int .i64 o1)).setCell ⟨q + 2, 3, none⟩ (.int .i64 o2)).setCell ⟨q + 2, 4, none⟩ (.int .i64 o3)).setCell ⟨q + 2, 5, none⟩ (.int .i64 o4)).setCell ⟨q + 2, 6, none⟩ (.int .i64 o5)).setCell ⟨q + 2, 7, none⟩ (.int .u32 wa)).setCell ⟨q + 2, 8, none⟩ (.int .u32 to)).setCell ⟨q + 2, 9, none⟩ (.slice A n c)).setCell ⟨q + 2, 10, none⟩ (.slice B m d)) = W := ⟨_, rfl⟩
    replace FR := Lib.hid ((FR.out.all 2 (vs := [.int .i64 kd, .int .i64 o0, .int .i64 o1, .int .i64 o2, .int .i64 o3, .int .i64 o4, .int .i64 o5, .int .u32 wa, .int .u32 to, .slice A n c, .slice B m d]) rfl rfl rfl).eqw hw6r)
    obtain ⟨nc30, nc31, nc32, nc33, nc34, nc35, nc36, nc37, nc38, nc39⟩ := row10 (b := q + 3) (FR.out.at 3 rfl rfl)
    obtain ⟨nf30, nf31, nf32, nf33, nf34, nf35, nf36, nf37, nf38, nf39⟩ := frz10 (b := q + 3) (FR.out.at 3 rfl rfl)
    obtain ⟨w7r, hw7r⟩ : ∃ W, ((((((((((w6r.setCell ⟨q + 3, 0, none⟩ (.int .i64 op)).setCell ⟨q + 3, 1, none⟩ (.int .i64 stage)).setCell ⟨q + 3, 2, none⟩ (.int .i64 phase)).setCell ⟨q + 3, 3, none⟩ (.int .i64 old)).setCell ⟨q + 3, 4, none⟩ (.int .i64 since)).setCell ⟨q + 3, 5, none⟩ (.int .i64 left)).setCell ⟨q + 3, 6, none⟩ (.bool awoke)).setCell ⟨q + 3, 7, none⟩ (.bool starve)).setCell ⟨q + 3, 8, none⟩ (.int .i64 need)).setCell ⟨q + 3, 9, none⟩ (.bool front)) = W := ⟨_, rfl⟩
    replace FR := Lib.hid ((FR.out.all 3 (vs := [.int .i64 op, .int .i64 stage, .int .i64 phase, .int .i64 old, .int .i64 since, .int .i64 left, .bool awoke, .bool starve, .int .i64 need, .bool front]) rfl rfl rfl).eqw hw7r)
    obtain ⟨oc40, oc41, oc42, oc43, oc44, oc45, oc46⟩ := row7 (b := q + 4) (FR.out.at 4 rfl rfl)
    obtain ⟨of40, of41, of42, of43, of44, of45, of46⟩ := frz7 (b := q + 4) (FR.out.at 4 rfl rfl)
    obtain ⟨w8r, hw8r⟩ : ∃ W, (((((((w7r.setCell ⟨q + 4, 0, none⟩ (.bool false)).setCell ⟨q + 4, 1, none⟩ (.bool false)).setCell ⟨q + 4, 2, none⟩ (.bool false)).setCell ⟨q + 4, 3, none⟩ (.int .i64 0)).setCell ⟨q + 4, 4, none⟩ (.int .i64 0)).setCell ⟨q + 4, 5, none⟩ (.int .u64 0)).setCell ⟨q + 4, 6, none⟩ (.slice none 0 0)) = W := ⟨_, rfl⟩
    replace FR := Lib.hid ((FR.out.all 4 (vs := [.bool false, .bool false, .bool false, .int .i64 0, .int .i64 0, .int .u64 0, .slice none 0 0]) rfl rfl rfl).eqw hw8r)
    go_wp2
    refine bodyPost_ret (res_ccc Try.results10 (by rfl) (by rfl) (by rfl) (FR.out.load 2 rfl rfl Try.underlying29 (by kernel_rfl)) (FR.out.load 3 rfl rfl Try.underlying31 (by kernel_rfl)) (FR.out.load 4 rfl rfl Try.underlying38 (by kernel_rfl))) rfl ?_
    rw [HE.out]
    exact ⟨rfl, FR.out.out⟩
  · subst s0
    obtain ⟨x, hx⟩ : ∃ x, IntKind.i64.wrap (o4 + 1) = x := ⟨_, rfl⟩
    have HO : rlockW o0 o4 o5 ⟨op, 0, phase, old, since, left, awoke, starve, need, front⟩ = (if x < 0 then ((o0, x, o5), ⟨op, 1, phase, old, since, left, awoke, starve, 4, front⟩, noA) else ((o0, x, o5), noF, doneA)) := by
      unfold rlockW
      rw [if_neg (show ¬ ((0 : Int) = 1) by decide), if_neg (fun h => h rfl), hx]
    clear s1 n1
    by_cases hx0 : x < 0
    · have c0 : decide (x < 0) = true := decide_eq_true hx0
      have HE := Lib.hid (HO.trans (if_pos hx0))
      clear HO hx0
      go_enter Try.func10, Try.ntmps10
      obtain ⟨ac00, ac01, ac02, ac03, ac04, ac05, ac06, ac07, ac08, ac09, ac010⟩ := row11 (b := q) (FR.out.at 0 rfl rfl)
      have af05 : v5.frozen? ⟨q, 5, none⟩ = false := FR.out.frozen 0 5 rfl rfl
      obtain ⟨ac10, ac11, ac12, ac13, ac14, ac15, ac16, ac17, ac18, ac19⟩ := row10 (b := q + 1) (FR.out.at 1 rfl rfl)
      obtain ⟨w6p, hw6p⟩ : ∃ W, (v5.setCell ⟨q, 5, none⟩ (.int .i64 x)) = W := ⟨_, rfl⟩
      replace FR := Lib.hid (((FR.out.set 0 5 rfl rfl (.int .i64 x))).eqw hw6p)
      obtain ⟨bc00, bc01, bc02, bc03, bc04, bc05, bc06, bc07, bc08, bc09, bc010⟩ := row11 (b := q) (FR.out.at 0 rfl rfl)
      obtain ⟨bc10, bc11, bc12, bc13, bc14, bc15, bc16, bc17, bc18, bc19⟩ := row10 (b := q + 1) (FR.out.at 1 rfl rfl)
      have bf11 : w6p.frozen? ⟨q + 1, 1, none⟩ = false := FR.out.frozen 1 1 rfl rfl
      have bf18 : w6p.frozen? ⟨q + 1, 8, none⟩ = false := FR.out.frozen 1 8 rfl rfl
      obtain ⟨w7p, hw7p⟩ : ∃ W, ((w6p.setCell ⟨q + 1, 1, none⟩ (.int .i64 1)).setCell ⟨q + 1, 8, none⟩ (.int .i64 4)) = W := ⟨_, rfl⟩
      replace FR := Lib.hid ((((FR.out.set 1 1 rfl rfl (.int .i64 1)).set 1 8 rfl rfl (.int .i64 4))).eqw hw7p)
      obtain ⟨cc00, cc01, cc02, cc03, cc04, cc05, cc06, cc07, cc08, cc09, cc010⟩ := row11 (b := q) (FR.out.at 0 rfl rfl)
      obtain ⟨cc10, cc11, cc12, cc13, cc14, cc15, cc16, cc17, cc18, cc19⟩ := row10 (b := q + 1) (FR.out.at 1 rfl rfl)
      go_wp2_with fail
      refine (on16_any _ _ _ _ _ _ _ _ _ _ _ _ _ _ _ _ _ _ _ _ _ _ _ _ _ _).mono ?_
      rintro e w7 ⟨rfl, hb⟩
      clear ac00 ac01 ac02 ac03 ac04 ac05 ac06 ac07 ac08 ac09 ac010 af05 ac10 ac11 ac12 ac13 ac14 ac15 ac16 ac17 ac18 ac19 bc00 bc01 bc02 bc03 bc04 bc05 bc06 bc07 bc08 bc09 bc010 bc10 bc11 bc12 bc13 bc14 bc15 bc16 bc17 bc18 bc19 bf11 bf18 cc00 cc01 cc02 cc03 cc04 cc05 cc06 cc07 cc08 cc09 cc010 cc10 cc11 cc12 cc13 cc14 cc15 cc16 cc17 cc18 cc19
      clear hw6p hw7p
      replace FR := Lib.hid (FR.out.step hb)
      clear hb
      obtain ⟨mc20, mc21, mc22, mc23, mc24, mc25, mc26, mc27, mc28, mc29, mc210⟩ := row11 (b := q + 2) (FR.out.at 2 rfl rfl)
      obtain ⟨mf20, mf21, mf22, mf23, mf24, mf25, mf26, mf27, mf28, mf29, mf210⟩ := frz11 (b := q + 2) (FR.out.at 2 rfl rfl)
      obtain ⟨w8r, hw8r⟩ : ∃ W, (((((((((((w7.setCell ⟨q + 2, 0, none⟩ (.int .i64 kd)).setCell ⟨q + 2, 1, none⟩ (.int .i64 o0)).setCell ⟨q + 2, 2, none⟩ (.int .i64 o1)).setCell ⟨q + 2, 3, none⟩ (.int .i64 o2)).setCell ⟨q + 2, 4, none⟩ (.int .i64 o3)).setCell ⟨q + 2, 5, none⟩ (.int .i64 x)).setCell ⟨q + 2, 6, none⟩ (.int .i64 o5)).setCell ⟨q + 2, 7, none⟩ (.int .u32 wa)).setCell ⟨q + 2, 8, none⟩ (.int .u32 to)).setCell ⟨q + 2, 9, none⟩ (.slice A n c)).setCell ⟨q + 2, 10, none⟩ (.slice B m d)) = W := ⟨_, rfl⟩
      replace FR := Lib.hid ((FR.out.all 2 (vs := [.int .i64 kd, .int .i64 o0, .int .i64 o1, .int .i64 o2, .int .i64 o3, .int .i64 x, .int .i64 o5, .int .u32 wa, .int .u32 to, .slice A n c, .slice B m d]) rfl rfl rfl).eqw hw8r)
      obtain ⟨nc30, nc31, nc32, nc33, nc34, nc35, nc36, nc37, nc38, nc39⟩ := row10 (b := q + 3) (FR.out.at 3 rfl rfl)
      obtain ⟨nf30, nf31, nf32, nf33, nf34, nf35, nf36, nf37, nf38, nf39⟩ := frz10 (b := q + 3) (FR.out.at 3 rfl rfl)
      obtain ⟨w9r, hw9r⟩ : ∃ W, ((((((((((w8r.setCell ⟨q + 3, 0, none⟩ (.int .i64 op)).setCell ⟨q + 3, 1, none⟩ (.int .i64 1)).setCell ⟨q + 3, 2, none⟩ (.int .i64 phase)).setCell ⟨q + 3, 3, none⟩ (.int .i64 old)).setCell ⟨q + 3, 4, none⟩ (.int .i64 since)).setCell ⟨q + 3, 5, none⟩ (.int .i64 left)).setCell ⟨q + 3, 6, none⟩ (.bool awoke)).setCell ⟨q + 3, 7, none⟩ (.bool starve)).setCell ⟨q + 3, 8, none⟩ (.int .i64 4)).setCell ⟨q + 3, 9, none⟩ (.bool front)) = W := ⟨_, rfl⟩
      replace FR := Lib.hid ((FR.out.all 3 (vs := [.int .i64 op, .int .i64 1, .int .i64 phase, .int .i64 old, .int .i64 since, .int .i64 left, .bool awoke, .bool starve, .int .i64 4, .bool front]) rfl rfl rfl).eqw hw9r)
      obtain ⟨oc40, oc41, oc42, oc43, oc44, oc45, oc46⟩ := row7 (b := q + 4) (FR.out.at 4 rfl rfl)
      obtain ⟨of40, of41, of42, of43, of44, of45, of46⟩ := frz7 (b := q + 4) (FR.out.at 4 rfl rfl)
      obtain ⟨w10r, hw10r⟩ : ∃ W, (((((((w9r.setCell ⟨q + 4, 0, none⟩ (.bool false)).setCell ⟨q + 4, 1, none⟩ (.bool false)).setCell ⟨q + 4, 2, none⟩ (.bool false)).setCell ⟨q + 4, 3, none⟩ (.int .i64 0)).setCell ⟨q + 4, 4, none⟩ (.int .i64 0)).setCell ⟨q + 4, 5, none⟩ (.int .u64 0)).setCell ⟨q + 4, 6, none⟩ (.slice none 0 0)) = W := ⟨_, rfl⟩
      replace FR := Lib.hid ((FR.out.all 4 (vs := [.bool false, .bool false, .bool false, .int .i64 0, .int .i64 0, .int .u64 0, .slice none 0 0]) rfl rfl rfl).eqw hw10r)
      go_wp2
      refine bodyPost_ret (res_ccc Try.results10 (by rfl) (by rfl) (by rfl) (FR.out.load 2 rfl rfl Try.underlying29 (by kernel_rfl)) (FR.out.load 3 rfl rfl Try.underlying31 (by kernel_rfl)) (FR.out.load 4 rfl rfl Try.underlying38 (by kernel_rfl))) rfl ?_
      rw [HE.out]
      exact ⟨rfl, FR.out.out⟩
    · have c0 : decide (x < 0) = false := decide_eq_false hx0
      have HE := Lib.hid (HO.trans (if_neg hx0))
      clear HO hx0
      go_enter Try.func10, Try.ntmps10
      obtain ⟨ac00, ac01, ac02, ac03, ac04, ac05, ac06, ac07, ac08, ac09, ac010⟩ := row11 (b := q) (FR.out.at 0 rfl rfl)
      have af05 : v5.frozen? ⟨q, 5, none⟩ = false := FR.out.frozen 0 5 rfl rfl
      obtain ⟨ac10, ac11, ac12, ac13, ac14, ac15, ac16, ac17, ac18, ac19⟩ := row10 (b := q + 1) (FR.out.at 1 rfl rfl)
      obtain ⟨w6p, hw6p⟩ : ∃ W, (v5.setCell ⟨q, 5, none⟩ (.int .i64 x)) = W := ⟨_, rfl⟩
      replace FR := Lib.hid (((FR.out.set 0 5 rfl rfl (.int .i64 x))).eqw hw6p)
      obtain ⟨bc00, bc01, bc02, bc03, bc04, bc05, bc06, bc07, bc08, bc09, bc010⟩ := row11 (b := q) (FR.out.at 0 rfl rfl)
      obtain ⟨bc10, bc11, bc12, bc13, bc14, bc15, bc16, bc17, bc18, bc19⟩ := row10 (b := q + 1) (FR.out.at 1 rfl rfl)
      go_wp2_with fail
      refine (over16_any _ _ _ _ _ _ _ _ _ _ _ _ _ _ _ _).mono ?_
      rintro e w7 ⟨rfl, hb⟩
      clear ac00 ac01 ac02 ac03 ac04 ac05 ac06 ac07 ac08 ac09 ac010 af05 ac10 ac11 ac12 ac13 ac14 ac15 ac16 ac17 ac18 ac19 bc00 bc01 bc02 bc03 bc04 bc05 bc06 bc07 bc08 bc09 bc010 bc10 bc11 bc12 bc13 bc14 bc15 bc16 bc17 bc18 bc19
      clear hw6p
      replace FR := Lib.hid (FR.out.step hb)
      clear hb
      obtain ⟨mc20, mc21, mc22, mc23, mc24, mc25, mc26, mc27, mc28, mc29, mc210⟩ := row11 (b := q + 2) (FR.out.at 2 rfl rfl)
      obtain ⟨mf20, mf21, mf22, mf23, mf24, mf25, mf26, mf27, mf28, mf29, mf210⟩ := frz11 (b := q + 2) (FR.out.at 2 rfl rfl)
      obtain ⟨w7r, hw7r⟩ : ∃ W, (((((((((((w7.setCell ⟨q + 2, 0, none⟩ (.int .i64 kd)).setCell ⟨q + 2, 1, none⟩ (.int .i64 o0)).setCell ⟨q + 2, 2, none⟩ (.int .i64 o1)).setCell ⟨q + 2, 3, none⟩ (.int .i64 o2)).setCell ⟨q + 2, 4, none⟩ (.int .i64 o3)).setCell ⟨q + 2, 5, none⟩ (.int .i64 x)).setCell ⟨q + 2, 6, none⟩ (.int .i64 o5)).setCell ⟨q + 2, 7, none⟩ (.int .u32 wa)).setCell ⟨q + 2, 8, none⟩ (.int .u32 to)).setCell ⟨q + 2, 9, none⟩ (.slice A n c)).setCell ⟨q + 2, 10, none⟩ (.slice B m d)) = W := ⟨_, rfl⟩
      replace FR := Lib.hid ((FR.out.all 2 (vs := [.int .i64 kd, .int .i64 o0, .int .i64 o1, .int .i64 o2, .int .i64 o3, .int .i64 x, .int .i64 o5, .int .u32 wa, .int .u32 to, .slice A n c, .slice B m d]) rfl rfl rfl).eqw hw7r)
      obtain ⟨nc30, nc31, nc32, nc33, nc34, nc35, nc36, nc37, nc38, nc39⟩ := row10 (b := q + 3) (FR.out.at 3 rfl rfl)
      obtain ⟨nf30, nf31, nf32, nf33, nf34, nf35, nf36, nf37, nf38, nf39⟩ := frz10 (b := q + 3) (FR.out.at 3 rfl rfl)
      obtain ⟨w8r, hw8r⟩ : ∃ W, ((((((((((w7r.setCell ⟨q + 3, 0, none⟩ (.int .i64 0)).setCell ⟨q + 3, 1, none⟩ (.int .i64 0)).setCell ⟨q + 3, 2, none⟩ (.int .i64 0)).setCell ⟨q + 3, 3, none⟩ (.int .i64 0)).setCell ⟨q + 3, 4, none⟩ (.int .i64 0)).setCell ⟨q + 3, 5, none⟩ (.int .i64 0)).setCell ⟨q + 3, 6, none⟩ (.bool false)).setCell ⟨q + 3, 7, none⟩ (.bool false)).setCell ⟨q + 3, 8, none⟩ (.int .i64 0)).setCell ⟨q + 3, 9, none⟩ (.bool false)) = W := ⟨_, rfl⟩
      replace FR := Lib.hid ((FR.out.all 3 (vs := [.int .i64 0, .int .i64 0, .int .i64 0, .int .i64 0, .int .i64 0, .int .i64 0, .bool false, .bool false, .int .i64 0, .bool false]) rfl rfl rfl).eqw hw8r)
      obtain ⟨oc40, oc41, oc42, oc43, oc44, oc45, oc46⟩ := row7 (b := q + 4) (FR.out.at 4 rfl rfl)
      obtain ⟨of40, of41, of42, of43, of44, of45, of46⟩ := frz7 (b := q + 4) (FR.out.at 4 rfl rfl)
      obtain ⟨w9r, hw9r⟩ : ∃ W, (((((((w8r.setCell ⟨q + 4, 0, none⟩ (.bool true)).setCell ⟨q + 4, 1, none⟩ (.bool false)).setCell ⟨q + 4, 2, none⟩ (.bool false)).setCell ⟨q + 4, 3, none⟩ (.int .i64 0)).setCell ⟨q + 4, 4, none⟩ (.int .i64 0)).setCell ⟨q + 4, 5, none⟩ (.int .u64 0)).setCell ⟨q + 4, 6, none⟩ (.slice none 0 0)) = W := ⟨_, rfl⟩
      replace FR := Lib.hid ((FR.out.all 4 (vs := [.bool true, .bool false, .bool false, .int .i64 0, .int .i64 0, .int .u64 0, .slice none 0 0]) rfl rfl rfl).eqw hw9r)
      go_wp2
      refine bodyPost_ret (res_ccc Try.results10 (by rfl) (by rfl) (by rfl) (FR.out.load 2 rfl rfl Try.underlying29 (by kernel_rfl)) (FR.out.load 3 rfl rfl Try.underlying31 (by kernel_rfl)) (FR.out.load 4 rfl rfl Try.underlying38 (by kernel_rfl))) rfl ?_
      rw [HE.out]
      exact ⟨rfl, FR.out.out⟩
set_option maxRecDepth 100000 in
set_option maxHeartbeats 16000000 in
theorem runlock16_any (kd o0 o1 o2 o3 o4 o5 wa to : Int) (A : Option Addr) (n c : Nat) (B : Option Addr) (m d : Nat) (f : MFr) (w : World) : Calls Try.prog 12 #[obV kd o0 o1 o2 o3 o4 o5 wa to A n c B m d, frV f] w (StepR w kd o1 o2 o3 wa to A n c B m d (runlockW o0 o4 o5 f)) := by
  obtain ⟨op, stage, phase, old, since, left, awoke, starve, need, front⟩ := f
  unfold obV frV frC
  simp only
  obtain ⟨v1, hv1⟩ : ∃ W, w.alloc (.cells #[.int .i64 kd, .int .i64 o0, .int .i64 o1, .int .i64 o2, .int .i64 o3, .int .i64 o4, .int .i64 o5, .int .u32 wa, .int .u32 to, .slice A n c, .slice B m d] 29) = W := ⟨_, rfl⟩
  have fr1 : Fr w v1 w.heap.size [.cells #[.int .i64 kd, .int .i64 o0, .int .i64 o1, .int .i64 o2, .int .i64 o3, .int .i64 o4, .int .i64 o5, .int .u32 wa, .int .u32 to, .slice A n c, .slice B m d] 29] := hv1 ▸ Fr.first w _
  have z1 : v1.heap.size = w.heap.size + 1 := by rw [← hv1, Fr.size1]
  obtain ⟨v2, hv2⟩ : ∃ W, v1.alloc (.cells #[.int .i64 op, .int .i64 stage, .int .i64 phase, .int .i64 old, .int .i64 since, .int .i64 left, .bool awoke, .bool starve, .int .i64 need, .bool front] 31) = W := ⟨_, rfl⟩
  have fr2 : Fr w v2 w.heap.size [.cells #[.int .i64 kd, .int .i64 o0, .int .i64 o1, .int .i64 o2, .int .i64 o3, .int .i64 o4, .int .i64 o5, .int .u32 wa, .int .u32 to, .slice A n c, .slice B m d] 29, .cells #[.int .i64 op, .int .i64 stage, .int .i64 phase, .int .i64 old, .int .i64 since, .int .i64 left, .bool awoke, .bool starve, .int .i64 need, .bool front] 31] := hv2 ▸ fr1.more z1 _
  have z2 : v2.heap.size = w.heap.size + 2 := by rw [← hv2, Fr.size1, z1]
  obtain ⟨v3, hv3⟩ : ∃ W, v2.alloc (.cells #[.int .i64 0, .int .i64 0, .int .i64 0, .int .i64 0, .int .i64 0, .int .i64 0, .int .i64 0, .int .u32 0, .int .u32 0, .slice none 0 0, .slice none 0 0] 29) = W := ⟨_, rfl⟩
  have fr3 : Fr w v3 w.heap.size [.cells #[.int .i64 kd, .int .i64 o0, .int .i64 o1, .int .i64 o2, .int .i64 o3, .int .i64 o4, .int .i64 o5, .int .u32 wa, .int .u32 to, .slice A n c, .slice B m d] 29, .cells #[.int .i64 op, .int .i64 stage, .int .i64 phase, .int .i64 old, .int .i64 since, .int .i64 left, .bool awoke, .bool starve, .int .i64 need, .bool front] 31, .cells #[.int .i64 0, .int .i64 0, .int .i64 0, .int .i64 0, .int .i64 0, .int .i64 0, .int .i64 0, .int .u32 0, .int .u32 0, .slice none 0 0, .slice none 0 0] 29] := hv3 ▸ fr2.more z2 _
  have z3 : v3.heap.size = w.heap.size + 3 := by rw [← hv3, Fr.size1, z2]
  obtain ⟨v4, hv4⟩ : ∃ W, v3.alloc (.cells #[.int .i64 0, .int .i64 0, .int .i64 0, .int .i64 0, .int .i64 0, .int .i64 0, .bool false, .bool false, .int .i64 0, .bool false] 31) = W := ⟨_, rfl⟩
  have fr4 : Fr w v4 w.heap.size [.cells #[.int .i64 kd, .int .i64 o0, .int .i64 o1, .int .i64 o2, .int .i64 o3, .int .i64 o4, .int .i64 o5, .int .u32 wa, .int .u32 to, .slice A n c, .slice B m d] 29, .cells #[.int .i64 op, .int .i64 stage, .int .i64 phase, .int .i64 old, .int .i64 since, .int .i64 left, .bool awoke, .bool starve, .int .i64 need, .bool front] 31, .cells #[.int .i64 0, .int .i64 0, .int .i64 0, .int .i64 0, .int .i64 0, .int .i64 0, .int .i64 0, .int .u32 0, .int .u32 0, .slice none 0 0, .slice none 0 0] 29, .cells #[.int .i64 0, .int .i64 0, .int .i64 0, .int .i64 0, .int .i64 0, .int .i64 0, .bool false, .bool false, .int .i64 0, .bool false] 31] := hv4 ▸ fr3.more z3 _
  have z4 : v4.heap.size = w.heap.size + 4 := by rw [← hv4, Fr.size1, z3]
  obtain ⟨v5, hv5⟩ : ∃ W, v4.alloc (.cells #[.bool false, .bool false, .bool false, .int .i64 0, .int .i64 0, .int .u64 0, .slice none 0 0] 38) = W := ⟨_, rfl⟩
  have fr5 : Fr w v5 w.heap.size [.cells #[.int .i64 kd, .int .i64 o0, .int .i64 o1, .int .i64 o2, .int .i64 o3, .int .i64 o4, .int .i64 o5, .int .u32 wa, .int .u32 to, .slice A n c, .slice B m d] 29, .cells #[.int .i64 op, .int .i64 stage, .int .i64 phase, .int .i64 old, .int .i64 since, .int .i64 left, .bool awoke, .bool starve, .int .i64 need, .bool front] 31, .cells #[.int .i64 0, .int .i64 0, .int .i64 0, .int .i64 0, .int .i64 0, .int .i64 0, .int .i64 0, .int .u32 0, .int .u32 0, .slice none 0 0, .slice none 0 0] 29, .cells #[.int .i64 0, .int .i64 0, .int .i64 0, .int .i64 0, .int .i64 0, .int .i64 0, .bool false, .bool false, .int .i64 0, .bool false] 31, .cells #[.bool false, .bool false, .bool false, .int .i64 0, .int .i64 0, .int .u64 0, .slice none 0 0] 38] := hv5 ▸ fr4.more z4 _
  have z5 : v5.heap.size = w.heap.size + 5 := by rw [← hv5, Fr.size1, z4]
  generalize hq : w.heap.size = q at *
  have FR := Lib.hid fr5
  clear fr1 fr2 fr3 fr4 fr5
  by_cases s0 : stage = 0
  · subst s0
    obtain ⟨x, hx⟩ : ∃ x, IntKind.i64.wrap (o4 - 1) = x := ⟨_, rfl⟩
    have HO : runlockW o0 o4 o5 ⟨op, 0, phase, old, since, left, awoke, starve, need, front⟩ = (if o4 = 0 ∨ o4 = -1048576 then ((o0, o4, o5), noF, faultA) else if x < 0 then ((o0, x, o5), ⟨op, 1, phase, old, since, left, awoke, starve, need, front⟩, noA) else ((o0, x, o5), noF, doneA)) := by
      unfold runlockW
      rw [if_pos rfl, hx]
    by_cases h0 : o4 = 0
    · have c0 : (o4 == 0) = true := by simp [h0]
      have HE := Lib.hid (HO.trans (if_pos (Or.inl h0)))
      clear HO h0
      go_enter Try.func12, Try.ntmps12
      obtain ⟨ac00, ac01, ac02, ac03, ac04, ac05, ac06, ac07, ac08, ac09, ac010⟩ := row11 (b := q) (FR.out.at 0 rfl rfl)
      obtain ⟨ac10, ac11, ac12, ac13, ac14, ac15, ac16, ac17, ac18, ac19⟩ := row10 (b := q + 1) (FR.out.at 1 rfl rfl)
      go_wp2_with fail
      refine (fault16_any _ _ _ _ _ _ _ _ _ _ _ _ _ _ _ _).mono ?_
      rintro e w7 ⟨rfl, hb⟩
      clear ac00 ac01 ac02 ac03 ac04 ac05 ac06 ac07 ac08 ac09 ac010 ac10 ac11 ac12 ac13 ac14 ac15 ac16 ac17 ac18 ac19
      replace FR := Lib.hid (FR.out.step hb)
      clear hb
      obtain ⟨mc20, mc21, mc22, mc23, mc24, mc25, mc26, mc27, mc28, mc29, mc210⟩ := row11 (b := q + 2) (FR.out.at 2 rfl rfl)
      obtain ⟨mf20, mf21, mf22, mf23, mf24, mf25, mf26, mf27, mf28, mf29, mf210⟩ := frz11 (b := q + 2) (FR.out.at 2 rfl rfl)
      obtain ⟨w6r, hw6r⟩ : ∃ W, (((((((((((w7.setCell ⟨q + 2, 0, none⟩ (.int .i64 kd)).setCell ⟨q + 2, 1, none⟩ (.int .i64 o0)).setCell ⟨q + 2, 2, none⟩ (.int .i64 o1)).setCell ⟨q + 2, 3, none⟩ (.int .i64 o2)).setCell ⟨q + 2, 4, none⟩ (.int .i64 o3)).setCell ⟨q + 2, 5, none⟩ (.int .i64 o4)).setCell ⟨q + 2, 6, none⟩ (.int .i64 o5)).setCell ⟨q + 2, 7, none⟩ (.int .u32 wa)).setCell ⟨q + 2, 8, none⟩ (.int .u32 to)).setCell ⟨q + 2, 9, none⟩ (.slice A n c)).setCell ⟨q + 2, 10, none⟩ (.slice B m d)) = W := ⟨_, rfl⟩
      replace FR := Lib.hid ((FR.out.all 2 (vs := [.int .i64 kd, .int .i64 o0, .int .i64 o1, .int .i64 o2, .int .i64 o3, .int .i64 o4, .int .i64 o5, .int .u32 wa, .int .u32 to, .slice A n c, .slice B m d]) rfl rfl rfl).eqw hw6r)
      obtain ⟨nc30, nc31, nc32, nc33, nc34, nc35, nc36, nc37, nc38, nc39⟩ := row10 (b := q + 3) (FR.out.at 3 rfl rfl)
      obtain ⟨nf30, nf31, nf32, nf33, nf34, nf35, nf36, nf37, nf38, nf39⟩ := frz10 (b := q + 3) (FR.out.at 3 rfl rfl)
      obtain ⟨w7r, hw7r⟩ : ∃ W, ((((((((((w6r.setCell ⟨q + 3, 0, none⟩ (.int .i64 0)).setCell ⟨q + 3, 1, none⟩ (.int .i64 0)).setCell ⟨q + 3, 2, none⟩ (.int .i64 0)).setCell ⟨q + 3, 3, none⟩ (.int .i64 0)).setCell ⟨q + 3, 4, none⟩ (.int .i64 0)).setCell ⟨q + 3, 5, none⟩ (.int .i64 0)).setCell ⟨q + 3, 6, none⟩ (.bool false)).setCell ⟨q + 3, 7, none⟩ (.bool false)).setCell ⟨q + 3, 8, none⟩ (.int .i64 0)).setCell ⟨q + 3, 9, none⟩ (.bool false)) = W := ⟨_, rfl⟩
      replace FR := Lib.hid ((FR.out.all 3 (vs := [.int .i64 0, .int .i64 0, .int .i64 0, .int .i64 0, .int .i64 0, .int .i64 0, .bool false, .bool false, .int .i64 0, .bool false]) rfl rfl rfl).eqw hw7r)
      obtain ⟨oc40, oc41, oc42, oc43, oc44, oc45, oc46⟩ := row7 (b := q + 4) (FR.out.at 4 rfl rfl)
      obtain ⟨of40, of41, of42, of43, of44, of45, of46⟩ := frz7 (b := q + 4) (FR.out.at 4 rfl rfl)
      obtain ⟨w8r, hw8r⟩ : ∃ W, (((((((w7r.setCell ⟨q + 4, 0, none⟩ (.bool false)).setCell ⟨q + 4, 1, none⟩ (.bool false)).setCell ⟨q + 4, 2, none⟩ (.bool false)).setCell ⟨q + 4, 3, none⟩ (.int .i64 0)).setCell ⟨q + 4, 4, none⟩ (.int .i64 1)).setCell ⟨q + 4, 5, none⟩ (.int .u64 0)).setCell ⟨q + 4, 6, none⟩ (.slice none 0 0)) = W := ⟨_, rfl⟩
      replace FR := Lib.hid ((FR.out.all 4 (vs := [.bool false, .bool false, .bool false, .int .i64 0, .int .i64 1, .int .u64 0, .slice none 0 0]) rfl rfl rfl).eqw hw8r)
      go_wp2
      refine bodyPost_ret (res_ccc Try.results12 (by rfl) (by rfl) (by rfl) (FR.out.load 2 rfl rfl Try.underlying29 (by kernel_rfl)) (FR.out.load 3 rfl rfl Try.underlying31 (by kernel_rfl)) (FR.out.load 4 rfl rfl Try.underlying38 (by kernel_rfl))) rfl ?_
      rw [HE.out]
      exact ⟨rfl, FR.out.out⟩
    · have c0 : (o4 == 0) = false := by simp [h0]
      by_cases h1 : o4 = -1048576
      · have c1 : (o4 == -1048576) = true := by simp [h1]
        have HE := Lib.hid (HO.trans (if_pos (Or.inr h1)))
        clear HO h0 h1
        go_enter Try.func12, Try.ntmps12
        obtain ⟨ac00, ac01, ac02, ac03, ac04, ac05, ac06, ac07, ac08, ac09, ac010⟩ := row11 (b := q) (FR.out.at 0 rfl rfl)
        obtain ⟨ac10, ac11, ac12, ac13, ac14, ac15, ac16, ac17, ac18, ac19⟩ := row10 (b := q + 1) (FR.out.at 1 rfl rfl)
        go_wp2_with fail
        refine (fault16_any _ _ _ _ _ _ _ _ _ _ _ _ _ _ _ _).mono ?_
        rintro e w7 ⟨rfl, hb⟩
        clear ac00 ac01 ac02 ac03 ac04 ac05 ac06 ac07 ac08 ac09 ac010 ac10 ac11 ac12 ac13 ac14 ac15 ac16 ac17 ac18 ac19
        replace FR := Lib.hid (FR.out.step hb)
        clear hb
        obtain ⟨mc20, mc21, mc22, mc23, mc24, mc25, mc26, mc27, mc28, mc29, mc210⟩ := row11 (b := q + 2) (FR.out.at 2 rfl rfl)
        obtain ⟨mf20, mf21, mf22, mf23, mf24, mf25, mf26, mf27, mf28, mf29, mf210⟩ := frz11 (b := q + 2) (FR.out.at 2 rfl rfl)
        obtain ⟨w6r, hw6r⟩ : ∃ W, (((((((((((w7.setCell ⟨q + 2, 0, none⟩ (.int .i64 kd)).setCell ⟨q + 2, 1, none⟩ (.int .i64 o0)).setCell ⟨q + 2, 2, none⟩ (.int .i64 o1)).setCell ⟨q + 2, 3, none⟩ (.int .i64 o2)).setCell ⟨q + 2, 4, none⟩ (.int .i64 o3)).setCell ⟨q + 2, 5, none⟩ (.int .i64 o4)).setCell ⟨q + 2, 6, none⟩ (.int .i64 o5)).setCell ⟨q + 2, 7, none⟩ (.int .u32 wa)).setCell ⟨q + 2, 8, none⟩ (.int .u32 to)).setCell ⟨q + 2, 9, none⟩ (.slice A n c)).setCell ⟨q + 2, 10, none⟩ (.slice B m d)) = W := ⟨_, rfl⟩
        replace FR := Lib.hid ((FR.out.all 2 (vs := [.int .i64 kd, .int .i64 o0, .int .i64 o1, .int .i64 o2, .int .i64 o3, .int .i64 o4, .int .i64 o5, .int .u32 wa, .int .u32 to, .slice A n c, .slice B m d]) rfl rfl rfl).eqw hw6r)
        obtain ⟨nc30, nc31, nc32, nc33, nc34, nc35, nc36, nc37, nc38, nc39⟩ := row10 (b := q + 3) (FR.out.at 3 rfl rfl)
        obtain ⟨nf30, nf31, nf32, nf33, nf34, nf35, nf36, nf37, nf38, nf39⟩ := frz10 (b := q + 3) (FR.out.at 3 rfl rfl)
        obtain ⟨w7r, hw7r⟩ : ∃ W, ((((((((((w6r.setCell ⟨q + 3, 0, none⟩ (.int .i64 0)).setCell ⟨q + 3, 1, none⟩ (.int .i64 0)).setCell ⟨q + 3, 2, none⟩ (.int .i64 0)).setCell ⟨q + 3, 3, none⟩ (.int .i64 0)).setCell ⟨q + 3, 4, none⟩ (.int .i64 0)).setCell ⟨q + 3, 5, none⟩ (.int .i64 0)).setCell ⟨q + 3, 6, none⟩ (.bool false)).setCell ⟨q + 3, 7, none⟩ (.bool false)).setCell ⟨q + 3, 8, none⟩ (.int .i64 0)).setCell ⟨q + 3, 9, none⟩ (.bool false)) = W := ⟨_, rfl⟩
        replace FR := Lib.hid ((FR.out.all 3 (vs := [.int .i64 0, .int .i64 0, .int .i64 0, .int .i64 0, .int .i64 0, .int .i64 0, .bool false, .bool false, .int .i64 0, .bool false]) rfl rfl rfl).eqw hw7r)
        obtain ⟨oc40, oc41, oc42, oc43, oc44, oc45, oc46⟩ := row7 (b := q + 4) (FR.out.at 4 rfl rfl)
        obtain ⟨of40, of41, of42, of43, of44, of45, of46⟩ := frz7 (b := q + 4) (FR.out.at 4 rfl rfl)
        obtain ⟨w8r, hw8r⟩ : ∃ W, (((((((w7r.setCell ⟨q + 4, 0, none⟩ (.bool false)).setCell ⟨q + 4, 1, none⟩ (.bool false)).setCell ⟨q + 4, 2, none⟩ (.bool false)).setCell ⟨q + 4, 3, none⟩ (.int .i64 0)).setCell ⟨q + 4, 4, none⟩ (.int .i64 1)).setCell ⟨q + 4, 5, none⟩ (.int .u64 0)).setCell ⟨q + 4, 6, none⟩ (.slice none 0 0)) = W := ⟨_, rfl⟩
        replace FR := Lib.hid ((FR.out.all 4 (vs := [.bool false, .bool false, .bool false, .int .i64 0, .int .i64 1, .int .u64 0, .slice none 0 0]) rfl rfl rfl).eqw hw8r)
        go_wp2
        refine bodyPost_ret (res_ccc Try.results12 (by rfl) (by rfl) (by rfl) (FR.out.load 2 rfl rfl Try.underlying29 (by kernel_rfl)) (FR.out.load 3 rfl rfl Try.underlying31 (by kernel_rfl)) (FR.out.load 4 rfl rfl Try.underlying38 (by kernel_rfl))) rfl ?_
        rw [HE.out]
        exact ⟨rfl, FR.out.out⟩
      · have c1 : (o4 == -1048576) = false := by simp [h1]
        replace HO := HO.trans (if_neg (fun h => by rcases h with h | h; exact h0 h; exact h1 h))
        clear h0 h1
        by_cases hx0 : x < 0
        · have c2 : decide (x < 0) = true := decide_eq_true hx0
          have HE := Lib.hid (HO.trans (if_pos hx0))
          clear HO hx0
          go_enter Try.func12, Try.ntmps12
          obtain ⟨ac00, ac01, ac02, ac03, ac04, ac05, ac06, ac07, ac08, ac09, ac010⟩ := row11 (b := q) (FR.out.at 0 rfl rfl)
          have af05 : v5.frozen? ⟨q, 5, none⟩ = false := FR.out.frozen 0 5 rfl rfl
          obtain ⟨ac10, ac11, ac12, ac13, ac14, ac15, ac16, ac17, ac18, ac19⟩ := row10 (b := q + 1) (FR.out.at 1 rfl rfl)
          obtain ⟨w6p, hw6p⟩ : ∃ W, (v5.setCell ⟨q, 5, none⟩ (.int .i64 x)) = W := ⟨_, rfl⟩
          replace FR := Lib.hid (((FR.out.set 0 5 rfl rfl (.int .i64 x))).eqw hw6p)
          obtain ⟨bc00, bc01, bc02, bc03, bc04, bc05, bc06, bc07, bc08, bc09, bc010⟩ := row11 (b := q) (FR.out.at 0 rfl rfl)
          obtain ⟨bc10, bc11, bc12, bc13, bc14, bc15, bc16, bc17, bc18, bc19⟩ := row10 (b := q + 1) (FR.out.at 1 rfl rfl)
          have bf11 : w6p.frozen? ⟨q + 1, 1, none⟩ = false := FR.out.frozen 1 1 rfl rfl
          obtain ⟨w7p, hw7p⟩ : ∃ W, (w6p.setCell ⟨q + 1, 1, none⟩ (.int .i64 1)) = W := ⟨_, rfl⟩
          replace FR := Lib.hid (((FR.out.set 1 1 rfl rfl (.int .i64 1))).eqw hw7p)
          obtain ⟨cc00, cc01, cc02, cc03, cc04, cc05, cc06, cc07, cc08, cc09, cc010⟩ := row11 (b := q) (FR.out.at 0 rfl rfl)
          obtain ⟨cc10, cc11, cc12, cc13, cc14, cc15, cc16, cc17, cc18, cc19⟩ := row10 (b := q + 1) (FR.out.at 1 rfl rfl)
          go_wp2_with fail
          refine (on16_any _ _ _ _ _ _ _ _ _ _ _ _ _ _ _ _ _ _ _ _ _ _ _ _ _ _).mono ?_
          rintro e w7 ⟨rfl, hb⟩
          clear ac00 ac01 ac02 ac03 ac04 ac05 ac06 ac07 ac08 ac09 ac010 af05 ac10 ac11 ac12 ac13 ac14 ac15 ac16 ac17 ac18 ac19 bc00 bc01 bc02 bc03 bc04 bc05 bc06 bc07 bc08 bc09 bc010 bc10 bc11 bc12 bc13 bc14 bc15 bc16 bc17 bc18 bc19 bf11 cc00 cc01 cc02 cc03 cc04 cc05 cc06 cc07 cc08 cc09 cc010 cc10 cc11 cc12 cc13 cc14 cc15 cc16 cc17 cc18 cc19
          clear hw6p hw7p
          replace FR := Lib.hid (FR.out.step hb)
          clear hb
          obtain ⟨mc20, mc21, mc22, mc23, mc24, mc25, mc26, mc27, mc28, mc29, mc210⟩ := row11 (b := q + 2) (FR.out.at 2 rfl rfl)
          obtain ⟨mf20, mf21, mf22, mf23, mf24, mf25, mf26, mf27, mf28, mf29, mf210⟩ := frz11 (b := q + 2) (FR.out.at 2 rfl rfl)
          obtain ⟨w8r, hw8r⟩ : ∃ W, (((((((((((w7.setCell ⟨q + 2, 0, none⟩ (.int .i64 kd)).setCell ⟨q + 2, 1, none⟩ (.int .i64 o0)).setCell ⟨q + 2, 2, none⟩ (.int .i64 o1)).setCell ⟨q + 2, 3, none⟩ (.int .i64 o2)).setCell ⟨q + 2, 4, none⟩ (.int .i64 o3)).setCell ⟨q + 2, 5, none⟩ (.int .i64 x)).setCell ⟨q + 2, 6, none⟩ (.int .i64 o5)).setCell ⟨q + 2, 7, none⟩ (.int .u32 wa)).setCell ⟨q + 2, 8, none⟩ (.int .u32 to)).setCell ⟨q + 2, 9, none⟩ (.slice A n c)).setCell ⟨q + 2, 10, none⟩ (.slice B m d)) = W := ⟨_, rfl⟩
          replace FR := Lib.hid ((FR.out.all 2 (vs := [.int .i64 kd, .int .i64 o0, .int .i64 o1, .int .i64 o2, .int .i64 o3, .int .i64 x, .int .i64 o5, .int .u32 wa, .int .u32 to, .slice A n c, .slice B m d]) rfl rfl rfl).eqw hw8r)
          obtain ⟨nc30, nc31, nc32, nc33, nc34, nc35, nc36, nc37, nc38, nc39⟩ := row10 (b := q + 3) (FR.out.at 3 rfl rfl)
          obtain ⟨nf30, nf31, nf32, nf33, nf34, nf35, nf36, nf37, nf38, nf39⟩ := frz10 (b := q + 3) (FR.out.at 3 rfl rfl)
          obtain ⟨w9r, hw9r⟩ : ∃ W, ((((((((((w8r.setCell ⟨q + 3, 0, none⟩ (.int .i64 op)).setCell ⟨q + 3, 1, none⟩ (.int .i64 1)).setCell ⟨q + 3, 2, none⟩ (.int .i64 phase)).setCell ⟨q + 3, 3, none⟩ (.int .i64 old)).setCell ⟨q + 3, 4, none⟩ (.int .i64 since)).setCell ⟨q + 3, 5, none⟩ (.int .i64 left)).setCell ⟨q + 3, 6, none⟩ (.bool awoke)).setCell ⟨q + 3, 7, none⟩ (.bool starve)).setCell ⟨q + 3, 8, none⟩ (.int .i64 need)).setCell ⟨q + 3, 9, none⟩ (.bool front)) = W := ⟨_, rfl⟩
          replace FR := Lib.hid ((FR.out.all 3 (vs := [.int .i64 op, .int .i64 1, .int .i64 phase, .int .i64 old, .int .i64 since, .int .i64 left, .bool awoke, .bool starve, .int .i64 need, .bool front]) rfl rfl rfl).eqw hw9r)
          obtain ⟨oc40, oc41, oc42, oc43, oc44, oc45, oc46⟩ := row7 (b := q + 4) (FR.out.at 4 rfl rfl)
          obtain ⟨of40, of41, of42, of43, of44, of45, of46⟩ := frz7 (b := q + 4) (FR.out.at 4 rfl rfl)
          obtain ⟨w10r, hw10r⟩ : ∃ W, (((((((w9r.setCell ⟨q + 4, 0, none⟩ (.bool false)).setCell ⟨q + 4, 1, none⟩ (.bool false)).setCell ⟨q + 4, 2, none⟩ (.bool false)).setCell ⟨q + 4, 3, none⟩ (.int .i64 0)).setCell ⟨q + 4, 4, none⟩ (.int .i64 0)).setCell ⟨q + 4, 5, none⟩ (.int .u64 0)).setCell ⟨q + 4, 6, none⟩ (.slice none 0 0)) = W := ⟨_, rfl⟩
          replace FR := Lib.hid ((FR.out.all 4 (vs := [.bool false, .bool false, .bool false, .int .i64 0, .int .i64 0, .int .u64 0, .slice none 0 0]) rfl rfl rfl).eqw hw10r)
          go_wp2
          refine bodyPost_ret (res_ccc Try.results12 (by rfl) (by rfl) (by rfl) (FR.out.load 2 rfl rfl Try.underlying29 (by kernel_rfl)) (FR.out.load 3 rfl rfl Try.underlying31 (by kernel_rfl)) (FR.out.load 4 rfl rfl Try.underlying38 (by kernel_rfl))) rfl ?_
          rw [HE.out]
          exact ⟨rfl, FR.out.out⟩
        · have c2 : decide (x < 0) = false := decide_eq_false hx0
          have HE := Lib.hid (HO.trans (if_neg hx0))
          clear HO hx0
          go_enter Try.func12, Try.ntmps12
          obtain ⟨ac00, ac01, ac02, ac03, ac04, ac05, ac06, ac07, ac08, ac09, ac010⟩ := row11 (b := q) (FR.out.at 0 rfl rfl)
          have af05 : v5.frozen? ⟨q, 5, none⟩ = false := FR.out.frozen 0 5 rfl rfl
          obtain ⟨ac10, ac11, ac12, ac13, ac14, ac15, ac16, ac17, ac18, ac19⟩ := row10 (b := q + 1) (FR.out.at 1 rfl rfl)
          obtain ⟨w6p, hw6p⟩ : ∃ W, (v5.setCell ⟨q, 5, none⟩ (.int .i64 x)) = W := ⟨_, rfl⟩
          replace FR := Lib.hid (((FR.out.set 0 5 rfl rfl (.int .i64 x))).eqw hw6p)
          obtain ⟨bc00, bc01, bc02, bc03, bc04, bc05, bc06, bc07, bc08, bc09, bc010⟩ := row11 (b := q) (FR.out.at 0 rfl rfl)
          obtain ⟨bc10, bc11, bc12, bc13, bc14, bc15, bc16, bc17, bc18, bc19⟩ := row10 (b := q + 1) (FR.out.at 1 rfl rfl)
          go_wp2_with fail
          refine (over16_any _ _ _ _ _ _ _ _ _ _ _ _ _ _ _ _).mono ?_
          rintro e w7 ⟨rfl, hb⟩
          clear ac00 ac01 ac02 ac03 ac04 ac05 ac06 ac07 ac08 ac09 ac010 af05 ac10 ac11 ac12 ac13 ac14 ac15 ac16 ac17 ac18 ac19 bc00 bc01 bc02 bc03 bc04 bc05 bc06 bc07 bc08 bc09 bc010 bc10 bc11 bc12 bc13 bc14 bc15 bc16 bc17 bc18 bc19
          clear hw6p
          replace FR := Lib.hid (FR.out.step hb)
          clear hb
          obtain ⟨mc20, mc21, mc22, mc23, mc24, mc25, mc26, mc27, mc28, mc29, mc210⟩ := row11 (b := q + 2) (FR.out.at 2 rfl rfl)
          obtain ⟨mf20, mf21, mf22, mf23, mf24, mf25, mf26, mf27, mf28, mf29, mf210⟩ := frz11 (b := q + 2) (FR.out.at 2 rfl rfl)
          obtain ⟨w7r, hw7r⟩ : ∃ W, (((((((((((w7.setCell ⟨q + 2, 0, none⟩ (.int .i64 kd)).setCell ⟨q + 2, 1, none⟩ (.int .i64 o0)).setCell ⟨q + 2, 2, none⟩ (.int .i64 o1)).setCell ⟨q + 2, 3, none⟩ (.int .i64 o2)).setCell ⟨q + 2, 4, none⟩ (.int .i64 o3)).setCell ⟨q + 2, 5, none⟩ (.int .i64 x)).setCell ⟨q + 2, 6, none⟩ (.int .i64 o5)).setCell ⟨q + 2, 7, none⟩ (.int .u32 wa)).setCell ⟨q + 2, 8, none⟩ (.int .u32 to)).setCell ⟨q + 2, 9, none⟩ (.slice A n c)).setCell ⟨q + 2, 10, none⟩ (.slice B m d)) = W := ⟨_, rfl⟩
          replace FR := Lib.hid ((FR.out.all 2 (vs := [.int .i64 kd, .int .i64 o0, .int .i64 o1, .int .i64 o2, .int .i64 o3, .int .i64 x, .int .i64 o5, .int .u32 wa, .int .u32 to, .slice A n c, .slice B m d]) rfl rfl rfl).eqw hw7r)
          obtain ⟨nc30, nc31, nc32, nc33, nc34, nc35, nc36, nc37, nc38, nc39⟩ := row10 (b := q + 3) (FR.out.at 3 rfl rfl)
          obtain ⟨nf30, nf31, nf32, nf33, nf34, nf35, nf36, nf37, nf38, nf39⟩ := frz10 (b := q + 3) (FR.out.at 3 rfl rfl)
          obtain ⟨w8r, hw8r⟩ : ∃ W, ((((((((((w7r.setCell ⟨q + 3, 0, none⟩ (.int .i64 0)).setCell ⟨q + 3, 1, none⟩ (.int .i64 0)).setCell ⟨q + 3, 2, none⟩ (.int .i64 0)).setCell ⟨q + 3, 3, none⟩ (.int .i64 0)).setCell ⟨q + 3, 4, none⟩ (.int .i64 0)).setCell ⟨q + 3, 5, none⟩ (.int .i64 0)).setCell ⟨q + 3, 6, none⟩ (.bool false)).setCell ⟨q + 3, 7, none⟩ (.bool false)).setCell ⟨q + 3, 8, none⟩ (.int .i64 0)).setCell ⟨q + 3, 9, none⟩ (.bool false)) = W := ⟨_, rfl⟩
          replace FR := Lib.hid ((FR.out.all 3 (vs := [.int .i64 0, .int .i64 0, .int .i64 0, .int .i64 0, .int .i64 0, .int .i64 0, .bool false, .bool false, .int .i64 0, .bool false]) rfl rfl rfl).eqw hw8r)
          obtain ⟨oc40, oc41, oc42, oc43, oc44, oc45, oc46⟩ := row7 (b := q + 4) (FR.out.at 4 rfl rfl)
          obtain ⟨of40, of41, of42, of43, of44, of45, of46⟩ := frz7 (b := q + 4) (FR.out.at 4 rfl rfl)
          obtain ⟨w9r, hw9r⟩ : ∃ W, (((((((w8r.setCell ⟨q + 4, 0, none⟩ (.bool true)).setCell ⟨q + 4, 1, none⟩ (.bool false)).setCell ⟨q + 4, 2, none⟩ (.bool false)).setCell ⟨q + 4, 3, none⟩ (.int .i64 0)).setCell ⟨q + 4, 4, none⟩ (.int .i64 0)).setCell ⟨q + 4, 5, none⟩ (.int .u64 0)).setCell ⟨q + 4, 6, none⟩ (.slice none 0 0)) = W := ⟨_, rfl⟩
          replace FR := Lib.hid ((FR.out.all 4 (vs := [.bool true, .bool false, .bool false, .int .i64 0, .int .i64 0, .int .u64 0, .slice none 0 0]) rfl rfl rfl).eqw hw9r)
          go_wp2
          refine bodyPost_ret (res_ccc Try.results12 (by rfl) (by rfl) (by rfl) (FR.out.load 2 rfl rfl Try.underlying29 (by kernel_rfl)) (FR.out.load 3 rfl rfl Try.underlying31 (by kernel_rfl)) (FR.out.load 4 rfl rfl Try.underlying38 (by kernel_rfl))) rfl ?_
          rw [HE.out]
          exact ⟨rfl, FR.out.out⟩
  have n0 : (stage == 0) = false := by simp [s0]
  by_cases s1 : stage = 1
  · subst s1
    obtain ⟨x, hx⟩ : ∃ x, IntKind.i64.wrap (o5 - 1) = x := ⟨_, rfl⟩
    have HO : runlockW o0 o4 o5 ⟨op, 1, phase, old, since, left, awoke, starve, need, front⟩ = (if x = 0 then ((o0, o4, x), ⟨op, 2, phase, old, since, left, awoke, starve, need, front⟩, noA) else ((o0, o4, x), noF, doneA)) := by
      unfold runlockW
      rw [if_neg (show ¬ ((1 : Int) = 0) by decide), if_pos rfl, hx]
    clear s0 n0
    by_cases hx0 : x = 0
    · have c0 : (x == 0) = true := by simp [hx0]
      have HE := Lib.hid (HO.trans (if_pos hx0))
      clear HO hx0
      go_enter Try.func12, Try.ntmps12
      obtain ⟨ac00, ac01, ac02, ac03, ac04, ac05, ac06, ac07, ac08, ac09, ac010⟩ := row11 (b := q) (FR.out.at 0 rfl rfl)
      have af06 : v5.frozen? ⟨q, 6, none⟩ = false := FR.out.frozen 0 6 rfl rfl
      obtain ⟨ac10, ac11, ac12, ac13, ac14, ac15, ac16, ac17, ac18, ac19⟩ := row10 (b := q + 1) (FR.out.at 1 rfl rfl)
      obtain ⟨w6p, hw6p⟩ : ∃ W, (v5.setCell ⟨q, 6, none⟩ (.int .i64 x)) = W := ⟨_, rfl⟩
      replace FR := Lib.hid (((FR.out.set 0 6 rfl rfl (.int .i64 x))).eqw hw6p)
      obtain ⟨bc00, bc01, bc02, bc03, bc04, bc05, bc06, bc07, bc08, bc09, bc010⟩ := row11 (b := q) (FR.out.at 0 rfl rfl)
      obtain ⟨bc10, bc11, bc12, bc13, bc14, bc15, bc16, bc17, bc18, bc19⟩ := row10 (b := q + 1) (FR.out.at 1 rfl rfl)
      have bf11 : w6p.frozen? ⟨q + 1, 1, none⟩ = false := FR.out.frozen 1 1 rfl rfl
      obtain ⟨w7p, hw7p⟩ : ∃ W, (w6p.setCell ⟨q + 1, 1, none⟩ (.int .i64 2)) = W := ⟨_, rfl⟩
      replace FR := Lib.hid (((FR.out.set 1 1 rfl rfl (.int .i64 2))).eqw hw7p)
      obtain ⟨cc00, cc01, cc02, cc03, cc04, cc05, cc06, cc07, cc08, cc09, cc010⟩ := row11 (b := q) (FR.out.at 0 rfl rfl)
      obtain ⟨cc10, cc11, cc12, cc13, cc14, cc15, cc16, cc17, cc18, cc19⟩ := row10 (b := q + 1) (FR.out.at 1 rfl rfl)
      go_wp2_with fail
      refine (on16_any _ _ _ _ _ _ _ _ _ _ _ _ _ _ _ _ _ _ _ _ _ _ _ _ _ _).mono ?_
      rintro e w7 ⟨rfl, hb⟩
      clear ac00 ac01 ac02 ac03 ac04 ac05 ac06 ac07 ac08 ac09 ac010 af06 ac10 ac11 ac12 ac13 ac14 ac15 ac16 ac17 ac18 ac19 bc00 bc01 bc02 bc03 bc04 bc05 bc06 bc07 bc08 bc09 bc010 bc10 bc11 bc12 bc13 bc14 bc15 bc16 bc17 bc18 bc19 bf11 cc00 cc01 cc02 cc03 cc04 cc05 cc06 cc07 cc08 cc09 cc010 cc10 cc11 cc12 cc13 cc14 cc15 cc16 cc17 cc18 cc19
      clear hw6p hw7p
      replace FR := Lib.hid (FR.out.step hb)
      clear hb
      obtain ⟨mc20, mc21, mc22, mc23, mc24, mc25, mc26, mc27, mc28, mc29, mc210⟩ := row11 (b := q + 2) (FR.out.at 2 rfl rfl)
      obtain ⟨mf20, mf21, mf22, mf23, mf24, mf25, mf26, mf27, mf28, mf29, mf210⟩ := frz11 (b := q + 2) (FR.out.at 2 rfl rfl)
      obtain ⟨w8r, hw8r⟩ : ∃ W, (((((((((((w7.setCell ⟨q + 2, 0, none⟩ (.int .i64 kd)).setCell ⟨q + 2, 1, none⟩ (.int .i64 o0)).setCell ⟨q + 2, 2, none⟩ (.int .i64 o1)).setCell ⟨q + 2, 3, none⟩ (.int .i64 o2)).setCell ⟨q + 2, 4, none⟩ (.int .i64 o3)).setCell ⟨q + 2, 5, none⟩ (.int .i64 o4)).setCell ⟨q + 2, 6, none⟩ (.int .i64 x)).setCell ⟨q + 2, 7, none⟩ (.int .u32 wa)).setCell ⟨q + 2, 8, none⟩ (.int .u32 to)).setCell ⟨q + 2, 9, none⟩ (.slice A n c)).setCell ⟨q + 2, 10, none⟩ (.slice B m d)) = W := ⟨_, rfl⟩
      replace FR := Lib.hid ((FR.out.all 2 (vs := [.int .i64 kd, .int .i64 o0, .int .i64 o1, .int .i64 o2, .int .i64 o3, .int .i64 o4, .int .i64 x, .int .u32 wa, .int .u32 to, .slice A n c, .slice B m d]) rfl rfl rfl).eqw hw8r)
      obtain ⟨nc30, nc31, nc32, nc33, nc34, nc35, nc36, nc37, nc38, nc39⟩ := row10 (b := q + 3) (FR.out.at 3 rfl rfl)
      obtain ⟨nf30, nf31, nf32, nf33, nf34, nf35, nf36, nf37, nf38, nf39⟩ := frz10 (b := q + 3) (FR.out.at 3 rfl rfl)
      obtain ⟨w9r, hw9r⟩ : ∃ W, ((((((((((w8r.setCell ⟨q + 3, 0, none⟩ (.int .i64 op)).setCell ⟨q + 3, 1, none⟩ (.int .i64 2)).setCell ⟨q + 3, 2, none⟩ (.int .i64 phase)).setCell ⟨q + 3, 3, none⟩ (.int .i64 old)).setCell ⟨q + 3, 4, none⟩ (.int .i64 since)).setCell ⟨q + 3, 5, none⟩ (.int .i64 left)).setCell ⟨q + 3, 6, none⟩ (.bool awoke)).setCell ⟨q + 3, 7, none⟩ (.bool starve)).setCell ⟨q + 3, 8, none⟩ (.int .i64 need)).setCell ⟨q + 3, 9, none⟩ (.bool front)) = W := ⟨_, rfl⟩
      replace FR := Lib.hid ((FR.out.all 3 (vs := [.int .i64 op, .int .i64 2, .int .i64 phase, .int .i64 old, .int .i64 since, .int .i64 left, .bool awoke, .bool starve, .int .i64 need, .bool front]) rfl rfl rfl).eqw hw9r)
      obtain ⟨oc40, oc41, oc42, oc43, oc44, oc45, oc46⟩ := row7 (b := q + 4) (FR.out.at 4 rfl rfl)
      obtain ⟨of40, of41, of42, of43, of44, of45, of46⟩ := frz7 (b := q + 4) (FR.out.at 4 rfl rfl)
      obtain ⟨w10r, hw10r⟩ : ∃ W, (((((((w9r.setCell ⟨q + 4, 0, none⟩ (.bool false)).setCell ⟨q + 4, 1, none⟩ (.bool false)).setCell ⟨q + 4, 2, none⟩ (.bool false)).setCell ⟨q + 4, 3, none⟩ (.int .i64 0)).setCell ⟨q + 4, 4, none⟩ (.int .i64 0)).setCell ⟨q + 4, 5, none⟩ (.int .u64 0)).setCell ⟨q + 4, 6, none⟩ (.slice none 0 0)) = W := ⟨_, rfl⟩
      replace FR := Lib.hid ((FR.out.all 4 (vs := [.bool false, .bool false, .bool false, .int .i64 0, .int .i64 0, .int .u64 0, .slice none 0 0]) rfl rfl rfl).eqw hw10r)
      go_wp2
      refine bodyPost_ret (res_ccc Try.results12 (by rfl) (by rfl) (by rfl) (FR.out.load 2 rfl rfl Try.underlying29 (by kernel_rfl)) (FR.out.load 3 rfl rfl Try.underlying31 (by kernel_rfl)) (FR.out.load 4 rfl rfl Try.underlying38 (by kernel_rfl))) rfl ?_
      rw [HE.out]
      exact ⟨rfl, FR.out.out⟩
    · have c0 : (x == 0) = false := by simp [hx0]
      have HE := Lib.hid (HO.trans (if_neg hx0))
      clear HO hx0
      go_enter Try.func12, Try.ntmps12
      obtain ⟨ac00, ac01, ac02, ac03, ac04, ac05, ac06, ac07, ac08, ac09, ac010⟩ := row11 (b := q) (FR.out.at 0 rfl rfl)
      have af06 : v5.frozen? ⟨q, 6, none⟩ = false := FR.out.frozen 0 6 rfl rfl
      obtain ⟨ac10, ac11, ac12, ac13, ac14, ac15, ac16, ac17, ac18, ac19⟩ := row10 (b := q + 1) (FR.out.at 1 rfl rfl)
      obtain ⟨w6p, hw6p⟩ : ∃ W, (v5.setCell ⟨q, 6, none⟩ (.int .i64 x)) = W := ⟨_, rfl⟩
      replace FR := Lib.hid (((FR.out.set 0 6 rfl rfl (.int .i64 x))).eqw hw6p)
      obtain ⟨bc00, bc01, bc02, bc03, bc04, bc05, bc06, bc07, bc08, bc09, bc010⟩ := row11 (b := q) (FR.out.at 0 rfl rfl)
      obtain ⟨bc10, bc11, bc12, bc13, bc14, bc15, bc16, bc17, bc18, bc19⟩ := row10 (b := q + 1) (FR.out.at 1 rfl rfl)
      go_wp2_with fail
      refine (over16_any _ _ _ _ _ _ _ _ _ _ _ _ _ _ _ _).mono ?_
      rintro e w7 ⟨rfl, hb⟩
      clear ac00 ac01 ac02 ac03 ac04 ac05 ac06 ac07 ac08 ac09 ac010 af06 ac10 ac11 ac12 ac13 ac14 ac15 ac16 ac17 ac18 ac19 bc00 bc01 bc02 bc03 bc04 bc05 bc06 bc07 bc08 bc09 bc010 bc10 bc11 bc12 bc13 bc14 bc15 bc16 bc17 bc18 bc19
      clear hw6p
      replace FR := Lib.hid (FR.out.step hb)
      clear hb
      obtain ⟨mc20, mc21, mc22, mc23, mc24, mc25, mc26, mc27, mc28, mc29, mc210⟩ := row11 (b := q + 2) (FR.out.at 2 rfl rfl)
      obtain ⟨mf20, mf21, mf22, mf23, mf24, mf25, mf26, mf27, mf28, mf29, mf210⟩ := frz11 (b := q + 2) (FR.out.at 2 rfl rfl)
      obtain ⟨w7r, hw7r⟩ : ∃ W, (((((((((((w7.setCell ⟨q + 2, 0, none⟩ (.int .i64 kd)).setCell ⟨q + 2, 1, none⟩ (.int .i64 o0)).setCell ⟨q + 2, 2, none⟩ (.int .i64 o1)).setCell ⟨q + 2, 3, none⟩ (.int .i64 o2)).setCell ⟨q + 2, 4, none⟩ (.int .i64 o3)).setCell ⟨q + 2, 5, none⟩ (.int .i64 o4)).setCell ⟨q + 2, 6, none⟩ (.int .i64 x)).setCell ⟨q + 2, 7, none⟩ (.int .u32 wa)).setCell ⟨q + 2, 8, none⟩ (.int .u32 to)).setCell ⟨q + 2, 9, none⟩ (.slice A n c)).setCell ⟨q + 2, 10, none⟩ (.slice B m d)) = W := ⟨_, rfl⟩
      replace FR := Lib.hid ((FR.out.all 2 (vs := [.int .i64 kd, .int .i64 o0, .int .i64 o1, .int .i64 o2, .int .i64 o3, .int .i64 o4, .int .i64 x, .int .u32 wa, .int .u32 to, .slice A n c, .slice B m d]) rfl rfl rfl).eqw hw7r)
      obtain ⟨nc30, nc31, nc32, nc33, nc34, nc35, nc36, nc37, nc38, nc39⟩ := row10 (b := q + 3) (FR.out.at 3 rfl rfl)
      obtain ⟨nf30, nf31, nf32, nf33, nf34, nf35, nf36, nf37, nf38, nf39⟩ := frz10 (b := q + 3) (FR.out.at 3 rfl rfl)
      obtain ⟨w8r, hw8r⟩ : ∃ W, ((((((((((w7r.setCell ⟨q + 3, 0, none⟩ (.int .i64 0)).setCell ⟨q + 3, 1, none⟩ (.int .i64 0)).setCell ⟨q + 3, 2, none⟩ (.int .i64 0)).setCell ⟨q + 3, 3, none⟩ (.int .i64 0)).setCell ⟨q + 3, 4, none⟩ (.int .i64 0)).setCell ⟨q + 3, 5, none⟩ (.int .i64 0)).setCell ⟨q + 3, 6, none⟩ (.bool false)).setCell ⟨q + 3, 7, none⟩ (.bool false)).setCell ⟨q + 3, 8, none⟩ (.int .i64 0)).setCell ⟨q + 3, 9, none⟩ (.bool false)) = W := ⟨_, rfl⟩
      replace FR := Lib.hid ((FR.out.all 3 (vs := [.int .i64 0, .int .i64 0, .int .i64 0, .int .i64 0, .int .i64 0, .int .i64 0, .bool false, .bool false, .int .i64 0, .bool false]) rfl rfl rfl).eqw hw8r)
      obtain ⟨oc40, oc41, oc42, oc43, oc44, oc45, oc46⟩ := row7 (b := q + 4) (FR.out.at 4 rfl rfl)
      obtain ⟨of40, of41, of42, of43, of44, of45, of46⟩ := frz7 (b := q + 4) (FR.out.at 4 rfl rfl)
      obtain ⟨w9r, hw9r⟩ : ∃ W, (((((((w8r.setCell ⟨q + 4, 0, none⟩ (.bool true)).setCell ⟨q + 4, 1, none⟩ (.bool false)).setCell ⟨q + 4, 2, none⟩ (.bool false)).setCell ⟨q + 4, 3, none⟩ (.int .i64 0)).setCell ⟨q + 4, 4, none⟩ (.int .i64 0)).setCell ⟨q + 4, 5, none⟩ (.int .u64 0)).setCell ⟨q + 4, 6, none⟩ (.slice none 0 0)) = W := ⟨_, rfl⟩
      replace FR := Lib.hid ((FR.out.all 4 (vs := [.bool true, .bool false, .bool false, .int .i64 0, .int .i64 0, .int .u64 0, .slice none 0 0]) rfl rfl rfl).eqw hw9r)
      go_wp2
      refine bodyPost_ret (res_ccc Try.results12 (by rfl) (by rfl) (by rfl) (FR.out.load 2 rfl rfl Try.underlying29 (by kernel_rfl)) (FR.out.load 3 rfl rfl Try.underlying31 (by kernel_rfl)) (FR.out.load 4 rfl rfl Try.underlying38 (by kernel_rfl))) rfl ?_
      rw [HE.out]
      exact ⟨rfl, FR.out.out⟩
  have n1 : (stage == 1) = false := by simp [s1]
  by_cases s2 : stage = 2
  · subst s2
    have HE := Lib.hid (show runlockW o0 o4 o5 ⟨op, 2, phase, old, since, left, awoke, starve, need, front⟩ = ((o0, o4, o5), noF, ⟨true, 3, false, 0⟩) from by
      unfold runlockW
      rw [if_neg (show ¬ ((2 : Int) = 0) by decide), if_neg (show ¬ ((2 : Int) = 1) by decide), if_pos rfl])
    clear s0 s1 n0 n1
    go_enter Try.func12, Try.ntmps12
    obtain ⟨ac00, ac01, ac02, ac03, ac04, ac05, ac06, ac07, ac08, ac09, ac010⟩ := row11 (b := q) (FR.out.at 0 rfl rfl)
    obtain ⟨ac10, ac11, ac12, ac13, ac14, ac15, ac16, ac17, ac18, ac19⟩ := row10 (b := q + 1) (FR.out.at 1 rfl rfl)
    obtain ⟨mc20, mc21, mc22, mc23, mc24, mc25, mc26, mc27, mc28, mc29, mc210⟩ := row11 (b := q + 2) (FR.out.at 2 rfl rfl)
    obtain ⟨mf20, mf21, mf22, mf23, mf24, mf25, mf26, mf27, mf28, mf29, mf210⟩ := frz11 (b := q + 2) (FR.out.at 2 rfl rfl)
    obtain ⟨w6r, hw6r⟩ : ∃ W, (((((((((((v5.setCell ⟨q + 2, 0, none⟩ (.int .i64 kd)).setCell ⟨q + 2, 1, none⟩ (.int .i64 o0)).setCell ⟨q + 2, 2, none⟩ (.int .i64 o1)).setCell ⟨q + 2, 3, none⟩ (.int .i64 o2)).setCell ⟨q + 2, 4, none⟩ (.int .i64 o3)).setCell ⟨q + 2, 5, none⟩ (.int .i64 o4)).setCell ⟨q + 2, 6, none⟩ (.int .i64 o5)).setCell ⟨q + 2, 7, none⟩ (.int .u32 wa)).setCell ⟨q + 2, 8, none⟩ (.int .u32 to)).setCell ⟨q + 2, 9, none⟩ (.slice A n c)).setCell ⟨q + 2, 10, none⟩ (.slice B m d)) = W := ⟨_, rfl⟩
    replace FR := Lib.hid ((FR.out.all 2 (vs := [.int .i64 kd, .int .i64 o0, .int .i64 o1, .int .i64 o2, .int .i64 o3, .int .i64 o4, .int .i64 o5, .int .u32 wa, .int .u32 to, .slice A n c, .slice B m d]) rfl rfl rfl).eqw hw6r)
    obtain ⟨nc30, nc31, nc32, nc33, nc34, nc35, nc36, nc37, nc38, nc39⟩ := row10 (b := q + 3) (FR.out.at 3 rfl rfl)
    obtain ⟨nf30, nf31, nf32, nf33, nf34, nf35, nf36, nf37, nf38, nf39⟩ := frz10 (b := q + 3) (FR.out.at 3 rfl rfl)
    obtain ⟨w7r, hw7r⟩ : ∃ W, ((((((((((w6r.setCell ⟨q + 3, 0, none⟩ (.int .i64 0)).setCell ⟨q + 3, 1, none⟩ (.int .i64 0)).setCell ⟨q + 3, 2, none⟩ (.int .i64 0)).setCell ⟨q + 3, 3, none⟩ (.int .i64 0)).setCell ⟨q + 3, 4, none⟩ (.int .i64 0)).setCell ⟨q + 3, 5, none⟩ (.int .i64 0)).setCell ⟨q + 3, 6, none⟩ (.bool false)).setCell ⟨q + 3, 7, none⟩ (.bool false)).setCell ⟨q + 3, 8, none⟩ (.int .i64 0)).setCell ⟨q + 3, 9, none⟩ (.bool false)) = W := ⟨_, rfl⟩
    replace FR := Lib.hid ((FR.out.all 3 (vs := [.int .i64 0, .int .i64 0, .int .i64 0, .int .i64 0, .int .i64 0, .int .i64 0, .bool false, .bool false, .int .i64 0, .bool false]) rfl rfl rfl).eqw hw7r)
    obtain ⟨oc40, oc41, oc42, oc43, oc44, oc45, oc46⟩ := row7 (b := q + 4) (FR.out.at 4 rfl rfl)
    obtain ⟨of40, of41, of42, of43, of44, of45, of46⟩ := frz7 (b := q + 4) (FR.out.at 4 rfl rfl)
    obtain ⟨w8r, hw8r⟩ : ∃ W, (((((((w7r.setCell ⟨q + 4, 0, none⟩ (.bool true)).setCell ⟨q + 4, 1, none⟩ (.bool false)).setCell ⟨q + 4, 2, none⟩ (.bool false)).setCell ⟨q + 4, 3, none⟩ (.int .i64 3)).setCell ⟨q + 4, 4, none⟩ (.int .i64 0)).setCell ⟨q + 4, 5, none⟩ (.int .u64 0)).setCell ⟨q + 4, 6, none⟩ (.slice none 0 0)) = W := ⟨_, rfl⟩
    replace FR := Lib.hid ((FR.out.all 4 (vs := [.bool true, .bool false, .bool false, .int .i64 3, .int .i64 0, .int .u64 0, .slice none 0 0]) rfl rfl rfl).eqw hw8r)
    go_wp2
    refine bodyPost_ret (res_ccc Try.results12 (by rfl) (by rfl) (by rfl) (FR.out.load 2 rfl rfl Try.underlying29 (by kernel_rfl)) (FR.out.load 3 rfl rfl Try.underlying31 (by kernel_rfl)) (FR.out.load 4 rfl rfl Try.underlying38 (by kernel_rfl))) rfl ?_
    rw [HE.out]
    exact ⟨rfl, FR.out.out⟩
  have n2 : (stage == 2) = false := by simp [s2]
  have HE := Lib.hid (show runlockW o0 o4 o5 ⟨op, stage, phase, old, since, left, awoke, starve, need, front⟩ = ((o0, o4, o5), ⟨op, stage, phase, old, since, left, awoke, starve, need, front⟩, noA) from by
    unfold runlockW
    rw [if_neg s0, if_neg s1, if_neg s2])
  clear s0 s1 s2
  go_enter Try.func12, Try.ntmps12
  obtain ⟨ac00, ac01, ac02, ac03, ac04, ac05, ac06, ac07, ac08, ac09, ac010⟩ := row11 (b := q) (FR.out.at 0 rfl rfl)
  obtain ⟨ac10, ac11, ac12, ac13, ac14, ac15, ac16, ac17, ac18, ac19⟩ := row10 (b := q + 1) (FR.out.at 1 rfl rfl)
  go_wp2_with fail
  refine (on16_any _ _ _ _ _ _ _ _ _ _ _ _ _ _ _ _ _ _ _ _ _ _ _ _ _ _).mono ?_
  rintro e w7 ⟨rfl, hb⟩
  clear ac00 ac01 ac02 ac03 ac04 ac05 ac06 ac07 ac08 ac09 ac010 ac10 ac11 ac12 ac13 ac14 ac15 ac16 ac17 ac18 ac19
  replace FR := Lib.hid (FR.out.step hb)
  clear hb
  obtain ⟨mc20, mc21, mc22, mc23, mc24, mc25, mc26, mc27, mc28, mc29, mc210⟩ := row11 (b := q + 2) (FR.out.at 2 rfl rfl)
  obtain ⟨mf20, mf21, mf22, mf23, mf24, mf25, mf26, mf27, mf28, mf29, mf210⟩ := frz11 (b := q + 2) (FR.out.at 2 rfl rfl)
  obtain ⟨w6r, hw6r⟩ : ∃ W, (((((((((((w7.setCell ⟨q + 2, 0, none⟩ (.int .i64 kd)).setCell ⟨q + 2, 1, none⟩ (.int .i64 o0)).setCell ⟨q + 2, 2, none⟩ (.int .i64 o1)).setCell ⟨q + 2, 3, none⟩ (.int .i64 o2)).setCell ⟨q + 2, 4, none⟩ (.int .i64 o3)).setCell ⟨q + 2, 5, none⟩ (.int .i64 o4)).setCell ⟨q + 2, 6, none⟩ (.int .i64 o5)).setCell ⟨q + 2, 7, none⟩ (.int .u32 wa)).setCell ⟨q + 2, 8, none⟩ (.int .u32 to)).setCell ⟨q + 2, 9, none⟩ (.slice A n c)).setCell ⟨q + 2, 10, none⟩ (.slice B m d)) = W := ⟨_, rfl⟩
  replace FR := Lib.hid ((FR.out.all 2 (vs := [.int .i64 kd, .int .i64 o0, .int .i64 o1, .int .i64 o2, .int .i64 o3, .int .i64 o4, .int .i64 o5, .int .u32 wa, .int .u32 to, .slice A n c, .slice B m d]) rfl rfl rfl).eqw hw6r)
  obtain ⟨nc30, nc31, nc32, nc33, nc34, nc35, nc36, nc37, nc38, nc39⟩ := row10 (b := q + 3) (FR.out.at 3 rfl rfl)
  obtain ⟨nf30, nf31, nf32, nf33, nf34, nf35, nf36, nf37, nf38, nf39⟩ := frz10 (b := q + 3) (FR.out.at 3 rfl rfl)
  obtain ⟨w7r, hw7r⟩ : ∃ W, ((((((((((w6r.setCell ⟨q + 3, 0, none⟩ (.int .i64 op)).setCell ⟨q + 3, 1, none⟩ (.int .i64 stage)).setCell ⟨q + 3, 2, none⟩ (.int .i64 phase)).setCell ⟨q + 3, 3, none⟩ (.int .i64 old)).setCell ⟨q + 3, 4, none⟩ (.int .i64 since)).setCell ⟨q + 3, 5, none⟩ (.int .i64 left)).setCell ⟨q + 3, 6, none⟩ (.bool awoke)).setCell ⟨q + 3, 7, none⟩ (.bool starve)).setCell ⟨q + 3, 8, none⟩ (.int .i64 need)).setCell ⟨q + 3, 9, none⟩ (.bool front)) = W := ⟨_, rfl⟩
  replace FR := Lib.hid ((FR.out.all 3 (vs := [.int .i64 op, .int .i64 stage, .int .i64 phase, .int .i64 old, .int .i64 since, .int .i64 left, .bool awoke, .bool starve, .int .i64 need, .bool front]) rfl rfl rfl).eqw hw7r)
  obtain ⟨oc40, oc41, oc42, oc43, oc44, oc45, oc46⟩ := row7 (b := q + 4) (FR.out.at 4 rfl rfl)
  obtain ⟨of40, of41, of42, of43, of44, of45, of46⟩ := frz7 (b := q + 4) (FR.out.at 4 rfl rfl)
  obtain ⟨w8r, hw8r⟩ : ∃ W, (((((((w7r.setCell ⟨q + 4, 0, none⟩ (.bool false)).setCell ⟨q + 4, 1, none⟩ (.bool false)).setCell ⟨q + 4, 2, none⟩ (.bool false)).setCell ⟨q + 4, 3, none⟩ (.int .i64 0)).setCell ⟨q + 4, 4, none⟩ (.int .i64 0)).setCell ⟨q + 4, 5, none⟩ (.int .u64 0)).setCell ⟨q + 4, 6, none⟩ (.slice none 0 0)) = W := ⟨_, rfl⟩
  replace FR := Lib.hid ((FR.out.all 4 (vs := [.bool false, .bool false, .bool false, .int .i64 0, .int .i64 0, .int .u64 0, .slice none 0 0]) rfl rfl rfl).eqw hw8r)
  go_wp2
  refine bodyPost_ret (res_ccc Try.results12 (by rfl) (by rfl) (by rfl) (FR.out.load 2 rfl rfl Try.underlying29 (by kernel_rfl)) (FR.out.load 3 rfl rfl Try.underlying31 (by kernel_rfl)) (FR.out.load 4 rfl rfl Try.underlying38 (by kernel_rfl))) rfl ?_
  rw [HE.out]
  exact ⟨rfl, FR.out.out⟩
end Go.Proofs.Ytakojjljnnooaaa
