/- Layer 16: what the landed step.Done, step.Fault and rw's own small functions answer; no condition but a stage. -/
import Derived.Test.YtakojjljnnooaaaRwB
import Derived.Test.YtakojjljnnooaaaSyn
namespace Go.Proofs.Ytakojjljnnooaaa
set_option linter.unusedVariables false
set_option linter.unusedSimpArgs false
open Go.RowKit
set_option maxRecDepth 100000 in
set_option maxHeartbeats 16000000 in
theorem stDone_any (kd o0 o1 o2 o3 o4 o5 wa to : Int) (A : Option Addr) (n c : Nat) (B : Option Addr) (m d : Nat) (w : World) : Calls Try.prog 23 #[.agg #[.int .i64 kd, .int .i64 o0, .int .i64 o1, .int .i64 o2, .int .i64 o3, .int .i64 o4, .int .i64 o5, .int .u32 wa, .int .u32 to, .slice A n c, .slice B m d]] w (fun e w' => e = .returned (.tuple #[.agg #[.int .i64 kd, .int .i64 o0, .int .i64 o1, .int .i64 o2, .int .i64 o3, .int .i64 o4, .int .i64 o5, .int .u32 wa, .int .u32 to, .slice A n c, .slice B m d], .agg #[.int .i64 0, .int .i64 0, .int .i64 0, .int .i64 0, .int .i64 0, .int .i64 0, .bool false, .bool false, .int .i64 0, .bool false], .agg #[.bool true, .bool false, .bool false, .int .i64 0, .int .i64 0, .int .u64 0, .slice none 0 0]]) ∧ Below w.heap.size w w') := by
  obtain ⟨v1, hv1⟩ : ∃ W, w.alloc (.cells #[.int .i64 kd, .int .i64 o0, .int .i64 o1, .int .i64 o2, .int .i64 o3, .int .i64 o4, .int .i64 o5, .int .u32 wa, .int .u32 to, .slice A n c, .slice B m d] 29) = W := ⟨_, rfl⟩
  have fr1 : Fr w v1 w.heap.size [.cells #[.int .i64 kd, .int .i64 o0, .int .i64 o1, .int .i64 o2, .int .i64 o3, .int .i64 o4, .int .i64 o5, .int .u32 wa, .int .u32 to, .slice A n c, .slice B m d] 29] := hv1 ▸ Fr.first w _
  have z1 : v1.heap.size = w.heap.size + 1 := by rw [← hv1, Fr.size1]
  obtain ⟨v2, hv2⟩ : ∃ W, v1.alloc (.cells #[.int .i64 0, .int .i64 0, .int .i64 0, .int .i64 0, .int .i64 0, .int .i64 0, .int .i64 0, .int .u32 0, .int .u32 0, .slice none 0 0, .slice none 0 0] 29) = W := ⟨_, rfl⟩
  have fr2 : Fr w v2 w.heap.size [.cells #[.int .i64 kd, .int .i64 o0, .int .i64 o1, .int .i64 o2, .int .i64 o3, .int .i64 o4, .int .i64 o5, .int .u32 wa, .int .u32 to, .slice A n c, .slice B m d] 29, .cells #[.int .i64 0, .int .i64 0, .int .i64 0, .int .i64 0, .int .i64 0, .int .i64 0, .int .i64 0, .int .u32 0, .int .u32 0, .slice none 0 0, .slice none 0 0] 29] := hv2 ▸ fr1.more z1 _
  have z2 : v2.heap.size = w.heap.size + 2 := by rw [← hv2, Fr.size1, z1]
  obtain ⟨v3, hv3⟩ : ∃ W, v2.alloc (.cells #[.int .i64 0, .int .i64 0, .int .i64 0, .int .i64 0, .int .i64 0, .int .i64 0, .bool false, .bool false, .int .i64 0, .bool false] 31) = W := ⟨_, rfl⟩
  have fr3 : Fr w v3 w.heap.size [.cells #[.int .i64 kd, .int .i64 o0, .int .i64 o1, .int .i64 o2, .int .i64 o3, .int .i64 o4, .int .i64 o5, .int .u32 wa, .int .u32 to, .slice A n c, .slice B m d] 29, .cells #[.int .i64 0, .int .i64 0, .int .i64 0, .int .i64 0, .int .i64 0, .int .i64 0, .int .i64 0, .int .u32 0, .int .u32 0, .slice none 0 0, .slice none 0 0] 29, .cells #[.int .i64 0, .int .i64 0, .int .i64 0, .int .i64 0, .int .i64 0, .int .i64 0, .bool false, .bool false, .int .i64 0, .bool false] 31] := hv3 ▸ fr2.more z2 _
  have z3 : v3.heap.size = w.heap.size + 3 := by rw [← hv3, Fr.size1, z2]
  obtain ⟨v4, hv4⟩ : ∃ W, v3.alloc (.cells #[.bool false, .bool false, .bool false, .int .i64 0, .int .i64 0, .int .u64 0, .slice none 0 0] 38) = W := ⟨_, rfl⟩
  have fr4 : Fr w v4 w.heap.size [.cells #[.int .i64 kd, .int .i64 o0, .int .i64 o1, .int .i64 o2, .int .i64 o3, .int .i64 o4, .int .i64 o5, .int .u32 wa, .int .u32 to, .slice A n c, .slice B m d] 29, .cells #[.int .i64 0, .int .i64 0, .int .i64 0, .int .i64 0, .int .i64 0, .int .i64 0, .int .i64 0, .int .u32 0, .int .u32 0, .slice none 0 0, .slice none 0 0] 29, .cells #[.int .i64 0, .int .i64 0, .int .i64 0, .int .i64 0, .int .i64 0, .int .i64 0, .bool false, .bool false, .int .i64 0, .bool false] 31, .cells #[.bool false, .bool false, .bool false, .int .i64 0, .int .i64 0, .int .u64 0, .slice none 0 0] 38] := hv4 ▸ fr3.more z3 _
  have z4 : v4.heap.size = w.heap.size + 4 := by rw [← hv4, Fr.size1, z3]
  generalize hq : w.heap.size = q at *
  have FR := Lib.hid fr4
  clear fr1 fr2 fr3 fr4
  go_enter Try.func23, Try.ntmps23
  obtain ⟨ac00, ac01, ac02, ac03, ac04, ac05, ac06, ac07, ac08, ac09, ac010⟩ := row11 (b := q) (FR.out.at 0 rfl rfl)
  obtain ⟨mc10, mc11, mc12, mc13, mc14, mc15, mc16, mc17, mc18, mc19, mc110⟩ := row11 (b := q + 1) (FR.out.at 1 rfl rfl)
  obtain ⟨mf10, mf11, mf12, mf13, mf14, mf15, mf16, mf17, mf18, mf19, mf110⟩ := frz11 (b := q + 1) (FR.out.at 1 rfl rfl)
  obtain ⟨w5r, hw5r⟩ : ∃ W, (((((((((((v4.setCell ⟨q + 1, 0, none⟩ (.int .i64 kd)).setCell ⟨q + 1, 1, none⟩ (.int .i64 o0)).setCell ⟨q + 1, 2, none⟩ (.int .i64 o1)).setCell ⟨q + 1, 3, none⟩ (.int .i64 o2)).setCell ⟨q + 1, 4, none⟩ (.int .i64 o3)).setCell ⟨q + 1, 5, none⟩ (.int .i64 o4)).setCell ⟨q + 1, 6, none⟩ (.int .i64 o5)).setCell ⟨q + 1, 7, none⟩ (.int .u32 wa)).setCell ⟨q + 1, 8, none⟩ (.int .u32 to)).setCell ⟨q + 1, 9, none⟩ (.slice A n c)).setCell ⟨q + 1, 10, none⟩ (.slice B m d)) = W := ⟨_, rfl⟩
  replace FR := Lib.hid ((FR.out.all 1 (vs := [.int .i64 kd, .int .i64 o0, .int .i64 o1, .int .i64 o2, .int .i64 o3, .int .i64 o4, .int .i64 o5, .int .u32 wa, .int .u32 to, .slice A n c, .slice B m d]) rfl rfl rfl).eqw hw5r)
  obtain ⟨nc20, nc21, nc22, nc23, nc24, nc25, nc26, nc27, nc28, nc29⟩ := row10 (b := q + 2) (FR.out.at 2 rfl rfl)
  obtain ⟨nf20, nf21, nf22, nf23, nf24, nf25, nf26, nf27, nf28, nf29⟩ := frz10 (b := q + 2) (FR.out.at 2 rfl rfl)
  obtain ⟨w6r, hw6r⟩ : ∃ W, ((((((((((w5r.setCell ⟨q + 2, 0, none⟩ (.int .i64 0)).setCell ⟨q + 2, 1, none⟩ (.int .i64 0)).setCell ⟨q + 2, 2, none⟩ (.int .i64 0)).setCell ⟨q + 2, 3, none⟩ (.int .i64 0)).setCell ⟨q + 2, 4, none⟩ (.int .i64 0)).setCell ⟨q + 2, 5, none⟩ (.int .i64 0)).setCell ⟨q + 2, 6, none⟩ (.bool false)).setCell ⟨q + 2, 7, none⟩ (.bool false)).setCell ⟨q + 2, 8, none⟩ (.int .i64 0)).setCell ⟨q + 2, 9, none⟩ (.bool false)) = W := ⟨_, rfl⟩
  replace FR := Lib.hid ((FR.out.all 2 (vs := [.int .i64 0, .int .i64 0, .int .i64 0, .int .i64 0, .int .i64 0, .int .i64 0, .bool false, .bool false, .int .i64 0, .bool false]) rfl rfl rfl).eqw hw6r)
  obtain ⟨oc30, oc31, oc32, oc33, oc34, oc35, oc36⟩ := row7 (b := q + 3) (FR.out.at 3 rfl rfl)
  obtain ⟨of30, of31, of32, of33, of34, of35, of36⟩ := frz7 (b := q + 3) (FR.out.at 3 rfl rfl)
  obtain ⟨w7r, hw7r⟩ : ∃ W, (((((((w6r.setCell ⟨q + 3, 0, none⟩ (.bool true)).setCell ⟨q + 3, 1, none⟩ (.bool false)).setCell ⟨q + 3, 2, none⟩ (.bool false)).setCell ⟨q + 3, 3, none⟩ (.int .i64 0)).setCell ⟨q + 3, 4, none⟩ (.int .i64 0)).setCell ⟨q + 3, 5, none⟩ (.int .u64 0)).setCell ⟨q + 3, 6, none⟩ (.slice none 0 0)) = W := ⟨_, rfl⟩
  replace FR := Lib.hid ((FR.out.all 3 (vs := [.bool true, .bool false, .bool false, .int .i64 0, .int .i64 0, .int .u64 0, .slice none 0 0]) rfl rfl rfl).eqw hw7r)
  go_wp2
  refine bodyPost_ret (res_ccc Try.results23 (by rfl) (by rfl) (by rfl) (FR.out.load 1 rfl rfl Try.underlying29 (by kernel_rfl)) (FR.out.load 2 rfl rfl Try.underlying31 (by kernel_rfl)) (FR.out.load 3 rfl rfl Try.underlying38 (by kernel_rfl))) rfl ?_
  exact ⟨rfl, FR.out.bel⟩
set_option maxRecDepth 100000 in
set_option maxHeartbeats 16000000 in
theorem stFault_any (kd o0 o1 o2 o3 o4 o5 wa to : Int) (A : Option Addr) (n c : Nat) (B : Option Addr) (m d : Nat) (x : Int) (w : World) : Calls Try.prog 42 #[.agg #[.int .i64 kd, .int .i64 o0, .int .i64 o1, .int .i64 o2, .int .i64 o3, .int .i64 o4, .int .i64 o5, .int .u32 wa, .int .u32 to, .slice A n c, .slice B m d], .int .i64 x] w (fun e w' => e = .returned (.tuple #[.agg #[.int .i64 kd, .int .i64 o0, .int .i64 o1, .int .i64 o2, .int .i64 o3, .int .i64 o4, .int .i64 o5, .int .u32 wa, .int .u32 to, .slice A n c, .slice B m d], .agg #[.int .i64 0, .int .i64 0, .int .i64 0, .int .i64 0, .int .i64 0, .int .i64 0, .bool false, .bool false, .int .i64 0, .bool false], .agg #[.bool false, .bool false, .bool false, .int .i64 0, .int .i64 x, .int .u64 0, .slice none 0 0]]) ∧ Below w.heap.size w w') := by
  obtain ⟨v1, hv1⟩ : ∃ W, w.alloc (.cells #[.int .i64 kd, .int .i64 o0, .int .i64 o1, .int .i64 o2, .int .i64 o3, .int .i64 o4, .int .i64 o5, .int .u32 wa, .int .u32 to, .slice A n c, .slice B m d] 29) = W := ⟨_, rfl⟩
  have fr1 : Fr w v1 w.heap.size [.cells #[.int .i64 kd, .int .i64 o0, .int .i64 o1, .int .i64 o2, .int .i64 o3, .int .i64 o4, .int .i64 o5, .int .u32 wa, .int .u32 to, .slice A n c, .slice B m d] 29] := hv1 ▸ Fr.first w _
  have z1 : v1.heap.size = w.heap.size + 1 := by rw [← hv1, Fr.size1]
  obtain ⟨v2, hv2⟩ : ∃ W, v1.alloc (.cells #[.int .i64 0, .int .i64 0, .int .i64 0, .int .i64 0, .int .i64 0, .int .i64 0, .int .i64 0, .int .u32 0, .int .u32 0, .slice none 0 0, .slice none 0 0] 29) = W := ⟨_, rfl⟩
  have fr2 : Fr w v2 w.heap.size [.cells #[.int .i64 kd, .int .i64 o0, .int .i64 o1, .int .i64 o2, .int .i64 o3, .int .i64 o4, .int .i64 o5, .int .u32 wa, .int .u32 to, .slice A n c, .slice B m d] 29, .cells #[.int .i64 0, .int .i64 0, .int .i64 0, .int .i64 0, .int .i64 0, .int .i64 0, .int .i64 0, .int .u32 0, .int .u32 0, .slice none 0 0, .slice none 0 0] 29] := hv2 ▸ fr1.more z1 _
  have z2 : v2.heap.size = w.heap.size + 2 := by rw [← hv2, Fr.size1, z1]
  obtain ⟨v3, hv3⟩ : ∃ W, v2.alloc (.cells #[.int .i64 0, .int .i64 0, .int .i64 0, .int .i64 0, .int .i64 0, .int .i64 0, .bool false, .bool false, .int .i64 0, .bool false] 31) = W := ⟨_, rfl⟩
  have fr3 : Fr w v3 w.heap.size [.cells #[.int .i64 kd, .int .i64 o0, .int .i64 o1, .int .i64 o2, .int .i64 o3, .int .i64 o4, .int .i64 o5, .int .u32 wa, .int .u32 to, .slice A n c, .slice B m d] 29, .cells #[.int .i64 0, .int .i64 0, .int .i64 0, .int .i64 0, .int .i64 0, .int .i64 0, .int .i64 0, .int .u32 0, .int .u32 0, .slice none 0 0, .slice none 0 0] 29, .cells #[.int .i64 0, .int .i64 0, .int .i64 0, .int .i64 0, .int .i64 0, .int .i64 0, .bool false, .bool false, .int .i64 0, .bool false] 31] := hv3 ▸ fr2.more z2 _
  have z3 : v3.heap.size = w.heap.size + 3 := by rw [← hv3, Fr.size1, z2]
  obtain ⟨v4, hv4⟩ : ∃ W, v3.alloc (.cells #[.bool false, .bool false, .bool false, .int .i64 0, .int .i64 0, .int .u64 0, .slice none 0 0] 38) = W := ⟨_, rfl⟩
  have fr4 : Fr w v4 w.heap.size [.cells #[.int .i64 kd, .int .i64 o0, .int .i64 o1, .int .i64 o2, .int .i64 o3, .int .i64 o4, .int .i64 o5, .int .u32 wa, .int .u32 to, .slice A n c, .slice B m d] 29, .cells #[.int .i64 0, .int .i64 0, .int .i64 0, .int .i64 0, .int .i64 0, .int .i64 0, .int .i64 0, .int .u32 0, .int .u32 0, .slice none 0 0, .slice none 0 0] 29, .cells #[.int .i64 0, .int .i64 0, .int .i64 0, .int .i64 0, .int .i64 0, .int .i64 0, .bool false, .bool false, .int .i64 0, .bool false] 31, .cells #[.bool false, .bool false, .bool false, .int .i64 0, .int .i64 0, .int .u64 0, .slice none 0 0] 38] := hv4 ▸ fr3.more z3 _
  have z4 : v4.heap.size = w.heap.size + 4 := by rw [← hv4, Fr.size1, z3]
  generalize hq : w.heap.size = q at *
  have FR := Lib.hid fr4
  clear fr1 fr2 fr3 fr4
  go_enter Try.func42, Try.ntmps42
  obtain ⟨ac00, ac01, ac02, ac03, ac04, ac05, ac06, ac07, ac08, ac09, ac010⟩ := row11 (b := q) (FR.out.at 0 rfl rfl)
  obtain ⟨mc10, mc11, mc12, mc13, mc14, mc15, mc16, mc17, mc18, mc19, mc110⟩ := row11 (b := q + 1) (FR.out.at 1 rfl rfl)
  obtain ⟨mf10, mf11, mf12, mf13, mf14, mf15, mf16, mf17, mf18, mf19, mf110⟩ := frz11 (b := q + 1) (FR.out.at 1 rfl rfl)
  obtain ⟨w5r, hw5r⟩ : ∃ W, (((((((((((v4.setCell ⟨q + 1, 0, none⟩ (.int .i64 kd)).setCell ⟨q + 1, 1, none⟩ (.int .i64 o0)).setCell ⟨q + 1, 2, none⟩ (.int .i64 o1)).setCell ⟨q + 1, 3, none⟩ (.int .i64 o2)).setCell ⟨q + 1, 4, none⟩ (.int .i64 o3)).setCell ⟨q + 1, 5, none⟩ (.int .i64 o4)).setCell ⟨q + 1, 6, none⟩ (.int .i64 o5)).setCell ⟨q + 1, 7, none⟩ (.int .u32 wa)).setCell ⟨q + 1, 8, none⟩ (.int .u32 to)).setCell ⟨q + 1, 9, none⟩ (.slice A n c)).setCell ⟨q + 1, 10, none⟩ (.slice B m d)) = W := ⟨_, rfl⟩
  replace FR := Lib.hid ((FR.out.all 1 (vs := [.int .i64 kd, .int .i64 o0, .int .i64 o1, .int .i64 o2, .int .i64 o3, .int .i64 o4, .int .i64 o5, .int .u32 wa, .int .u32 to, .slice A n c, .slice B m d]) rfl rfl rfl).eqw hw5r)
  obtain ⟨nc20, nc21, nc22, nc23, nc24, nc25, nc26, nc27, nc28, nc29⟩ := row10 (b := q + 2) (FR.out.at 2 rfl rfl)
  obtain ⟨nf20, nf21, nf22, nf23, nf24, nf25, nf26, nf27, nf28, nf29⟩ := frz10 (b := q + 2) (FR.out.at 2 rfl rfl)
  obtain ⟨w6r, hw6r⟩ : ∃ W, ((((((((((w5r.setCell ⟨q + 2, 0, none⟩ (.int .i64 0)).setCell ⟨q + 2, 1, none⟩ (.int .i64 0)).setCell ⟨q + 2, 2, none⟩ (.int .i64 0)).setCell ⟨q + 2, 3, none⟩ (.int .i64 0)).setCell ⟨q + 2, 4, none⟩ (.int .i64 0)).setCell ⟨q + 2, 5, none⟩ (.int .i64 0)).setCell ⟨q + 2, 6, none⟩ (.bool false)).setCell ⟨q + 2, 7, none⟩ (.bool false)).setCell ⟨q + 2, 8, none⟩ (.int .i64 0)).setCell ⟨q + 2, 9, none⟩ (.bool false)) = W := ⟨_, rfl⟩
  replace FR := Lib.hid ((FR.out.all 2 (vs := [.int .i64 0, .int .i64 0, .int .i64 0, .int .i64 0, .int .i64 0, .int .i64 0, .bool false, .bool false, .int .i64 0, .bool false]) rfl rfl rfl).eqw hw6r)
  obtain ⟨oc30, oc31, oc32, oc33, oc34, oc35, oc36⟩ := row7 (b := q + 3) (FR.out.at 3 rfl rfl)
  obtain ⟨of30, of31, of32, of33, of34, of35, of36⟩ := frz7 (b := q + 3) (FR.out.at 3 rfl rfl)
  obtain ⟨w7r, hw7r⟩ : ∃ W, (((((((w6r.setCell ⟨q + 3, 0, none⟩ (.bool false)).setCell ⟨q + 3, 1, none⟩ (.bool false)).setCell ⟨q + 3, 2, none⟩ (.bool false)).setCell ⟨q + 3, 3, none⟩ (.int .i64 0)).setCell ⟨q + 3, 4, none⟩ (.int .i64 x)).setCell ⟨q + 3, 5, none⟩ (.int .u64 0)).setCell ⟨q + 3, 6, none⟩ (.slice none 0 0)) = W := ⟨_, rfl⟩
  replace FR := Lib.hid ((FR.out.all 3 (vs := [.bool false, .bool false, .bool false, .int .i64 0, .int .i64 x, .int .u64 0, .slice none 0 0]) rfl rfl rfl).eqw hw7r)
  go_wp2
  refine bodyPost_ret (res_ccc Try.results42 (by rfl) (by rfl) (by rfl) (FR.out.load 1 rfl rfl Try.underlying29 (by kernel_rfl)) (FR.out.load 2 rfl rfl Try.underlying31 (by kernel_rfl)) (FR.out.load 3 rfl rfl Try.underlying38 (by kernel_rfl))) rfl ?_
  exact ⟨rfl, FR.out.bel⟩
set_option maxRecDepth 100000 in
set_option maxHeartbeats 16000000 in
theorem rwCome_any (kd o0 o1 o2 o3 o4 o5 wa to : Int) (A : Option Addr) (n c : Nat) (B : Option Addr) (m d : Nat) (f : MFr) (hs : f.stage = 0) (w : World) : Calls Try.prog 22 #[obV kd o0 o1 o2 o3 o4 o5 wa to A n c B m d, frV f] w (StepR w kd o1 o2 o3 wa to A n c B m d (rlockW o0 o4 o5 f)) := by
  obtain ⟨op, stage, phase, old, since, left, awoke, starve, need, front⟩ := f
  have hs2 : stage = 0 := hs
  subst hs2
  clear hs
  unfold obV frV frC
  simp only
  obtain ⟨v1, hv1⟩ : ∃ W, w.alloc (.cells #[.int .i64 kd, .int .i64 o0, .int .i64 o1, .int .i64 o2, .int .i64 o3, .int .i64 o4, .int .i64 o5, .int .u32 wa, .int .u32 to, .slice A n c, .slice B m d] 29) = W := ⟨_, rfl⟩
  have fr1 : Fr w v1 w.heap.size [.cells #[.int .i64 kd, .int .i64 o0, .int .i64 o1, .int .i64 o2, .int .i64 o3, .int .i64 o4, .int .i64 o5, .int .u32 wa, .int .u32 to, .slice A n c, .slice B m d] 29] := hv1 ▸ Fr.first w _
  have z1 : v1.heap.size = w.heap.size + 1 := by rw [← hv1, Fr.size1]
  obtain ⟨v2, hv2⟩ : ∃ W, v1.alloc (.cells #[.int .i64 op, .int .i64 0, .int .i64 phase, .int .i64 old, .int .i64 since, .int .i64 left, .bool awoke, .bool starve, .int .i64 need, .bool front] 31) = W := ⟨_, rfl⟩
  have fr2 : Fr w v2 w.heap.size [.cells #[.int .i64 kd, .int .i64 o0, .int .i64 o1, .int .i64 o2, .int .i64 o3, .int .i64 o4, .int .i64 o5, .int .u32 wa, .int .u32 to, .slice A n c, .slice B m d] 29, .cells #[.int .i64 op, .int .i64 0, .int .i64 phase, .int .i64 old, .int .i64 since, .int .i64 left, .bool awoke, .bool starve, .int .i64 need, .bool front] 31] := hv2 ▸ fr1.more z1 _
  have z2 : v2.heap.size = w.heap.size + 2 := by rw [← hv2, Fr.size1, z1]
  obtain ⟨v3, hv3⟩ : ∃ W, v2.alloc (.cells #[.int .i64 0, .int .i64 0, .int .i64 0, .int .i64 0, .int .i64 0, .int .i64 0, .int .i64 0, .int .u32 0, .int .u32 0, .slice none 0 0, .slice none 0 0] 29) = W := ⟨_, rfl⟩
  have fr3 : Fr w v3 w.heap.size [.cells #[.int .i64 kd, .int .i64 o0, .int .i64 o1, .int .i64 o2, .int .i64 o3, .int .i64 o4, .int .i64 o5, .int .u32 wa, .int .u32 to, .slice A n c, .slice B m d] 29, .cells #[.int .i64 op, .int .i64 0, .int .i64 phase, .int .i64 old, .int .i64 since, .int .i64 left, .bool awoke, .bool starve, .int .i64 need, .bool front] 31, .cells #[.int .i64 0, .int .i64 0, .int .i64 0, .int .i64 0, .int .i64 0, .int .i64 0, .int .i64 0, .int .u32 0, .int .u32 0, .slice none 0 0, .slice none 0 0] 29] := hv3 ▸ fr2.more z2 _
  have z3 : v3.heap.size = w.heap.size + 3 := by rw [← hv3, Fr.size1, z2]
  obtain ⟨v4, hv4⟩ : ∃ W, v3.alloc (.cells #[.int .i64 0, .int .i64 0, .int .i64 0, .int .i64 0, .int .i64 0, .int .i64 0, .bool false, .bool false, .int .i64 0, .bool false] 31) = W := ⟨_, rfl⟩
  have fr4 : Fr w v4 w.heap.size [.cells #[.int .i64 kd, .int .i64 o0, .int .i64 o1, .int .i64 o2, .int .i64 o3, .int .i64 o4, .int .i64 o5, .int .u32 wa, .int .u32 to, .slice A n c, .slice B m d] 29, .cells #[.int .i64 op, .int .i64 0, .int .i64 phase, .int .i64 old, .int .i64 since, .int .i64 left, .bool awoke, .bool starve, .int .i64 need, .bool front] 31, .cells #[.int .i64 0, .int .i64 0, .int .i64 0, .int .i64 0, .int .i64 0, .int .i64 0, .int .i64 0, .int .u32 0, .int .u32 0, .slice none 0 0, .slice none 0 0] 29, .cells #[.int .i64 0, .int .i64 0, .int .i64 0, .int .i64 0, .int .i64 0, .int .i64 0, .bool false, .bool false, .int .i64 0, .bool false] 31] := hv4 ▸ fr3.more z3 _
  have z4 : v4.heap.size = w.heap.size + 4 := by rw [← hv4, Fr.size1, z3]
  obtain ⟨v5, hv5⟩ : ∃ W, v4.alloc (.cells #[.bool false, .bool false, .bool false, .int .i64 0, .int .i64 0, .int .u64 0, .slice none 0 0] 38) = W := ⟨_, rfl⟩
  have fr5 : Fr w v5 w.heap.size [.cells #[.int .i64 kd, .int .i64 o0, .int .i64 o1, .int .i64 o2, .int .i64 o3, .int .i64 o4, .int .i64 o5, .int .u32 wa, .int .u32 to, .slice A n c, .slice B m d] 29, .cells #[.int .i64 op, .int .i64 0, .int .i64 phase, .int .i64 old, .int .i64 since, .int .i64 left, .bool awoke, .bool starve, .int .i64 need, .bool front] 31, .cells #[.int .i64 0, .int .i64 0, .int .i64 0, .int .i64 0, .int .i64 0, .int .i64 0, .int .i64 0, .int .u32 0, .int .u32 0, .slice none 0 0, .slice none 0 0] 29, .cells #[.int .i64 0, .int .i64 0, .int .i64 0, .int .i64 0, .int .i64 0, .int .i64 0, .bool false, .bool false, .int .i64 0, .bool false] 31, .cells #[.bool false, .bool false, .bool false, .int .i64 0, .int .i64 0, .int .u64 0, .slice none 0 0] 38] := hv5 ▸ fr4.more z4 _
  have z5 : v5.heap.size = w.heap.size + 5 := by rw [← hv5, Fr.size1, z4]
  generalize hq : w.heap.size = q at *
  have FR := Lib.hid fr5
  clear fr1 fr2 fr3 fr4 fr5
  obtain ⟨x, hx⟩ : ∃ x, IntKind.i64.wrap (o4 + 1) = x := ⟨_, rfl⟩
  have HO : rlockW o0 o4 o5 ⟨op, 0, phase, old, since, left, awoke, starve, need, front⟩ = (if x < 0 then ((o0, x, o5), ⟨op, 1, phase, old, since, left, awoke, starve, 4, front⟩, noA) else ((o0, x, o5), noF, doneA)) := by
    unfold rlockW
    rw [if_neg (show ¬ ((0 : Int) = 1) by decide), if_neg (fun h => h rfl), hx]
  by_cases hx0 : x < 0
  · have c0 : decide (0 ≤ x) = false := decide_eq_false (Int.not_le.2 hx0)
    have HE := Lib.hid (HO.trans (if_pos hx0))
    clear HO hx0
    go_enter Try.func22, Try.ntmps22
    obtain ⟨ac00, ac01, ac02, ac03, ac04, ac05, ac06, ac07, ac08, ac09, ac010⟩ := row11 (b := q) (FR.out.at 0 rfl rfl)
    have af05 : v5.frozen? ⟨q, 5, none⟩ = false := FR.out.frozen 0 5 rfl rfl
    obtain ⟨ac10, ac11, ac12, ac13, ac14, ac15, ac16, ac17, ac18, ac19⟩ := row10 (b := q + 1) (FR.out.at 1 rfl rfl)
    obtain ⟨w6p, hw6p⟩ : ∃ W, (v5.setCell ⟨q, 5, none⟩ (.int .i64 x)) = W := ⟨_, rfl⟩
    replace FR := Lib.hid (((FR.out.set 0 5 rfl rfl (.int .i64 x))).eqw hw6p)
    obtain ⟨bc00, bc01, bc02, bc03, bc04, bc05, bc06, bc07, bc08, bc09, bc010⟩ := row11 (b := q) (FR.out.at 0 rfl rfl)
    obtain ⟨bc10, bc11, bc12, bc13, bc14, bc15, bc16, bc17, bc18, bc19⟩ := row10 (b := q + 1) (FR.out.at 1 rfl rfl)
    have bf11 : w6p.frozen? ⟨q + 1, 1, none⟩ = false := FR.out.frozen 1 1 rfl rfl
    have bf18 : w6p.frozen? ⟨q + 1, 8, none⟩ = false := FR.out.frozen 1 8 rfl rfl
    obtain ⟨w7p, hw7p⟩ : ∃ W, ((w6p.setCell ⟨q + 1, 8, none⟩ (.int .i64 4)).setCell ⟨q + 1, 1, none⟩ (.int .i64 1)) = W := ⟨_, rfl⟩
    replace FR := Lib.hid ((((FR.out.set 1 8 rfl rfl (.int .i64 4)).set 1 1 rfl rfl (.int .i64 1))).eqw hw7p)
    obtain ⟨cc00, cc01, cc02, cc03, cc04, cc05, cc06, cc07, cc08, cc09, cc010⟩ := row11 (b := q) (FR.out.at 0 rfl rfl)
    obtain ⟨cc10, cc11, cc12, cc13, cc14, cc15, cc16, cc17, cc18, cc19⟩ := row10 (b := q + 1) (FR.out.at 1 rfl rfl)
    go_wp2
    clear ac00 ac01 ac02 ac03 ac04 ac05 ac06 ac07 ac08 ac09 ac010 af05 ac10 ac11 ac12 ac13 ac14 ac15 ac16 ac17 ac18 ac19 bc00 bc01 bc02 bc03 bc04 bc05 bc06 bc07 bc08 bc09 bc010 bc10 bc11 bc12 bc13 bc14 bc15 bc16 bc17 bc18 bc19 bf11 bf18 cc00 cc01 cc02 cc03 cc04 cc05 cc06 cc07 cc08 cc09 cc010 cc10 cc11 cc12 cc13 cc14 cc15 cc16 cc17 cc18 cc19
    have HF0 := Lib.hid FR.out.drew
    obtain ⟨w8r, hw8r⟩ : ∃ W, w7p.drew.setCells (q + 2) 0 [.int .i64 kd, .int .i64 o0, .int .i64 o1, .int .i64 o2, .int .i64 o3, .int .i64 x, .int .i64 o5, .int .u32 wa, .int .u32 to, .slice A n c, .slice B m d] = W := ⟨_, rfl⟩
    have HF1 := Lib.hid ((HF0.out.all 2 rfl rfl (by rfl)).eqw hw8r)
    have hh1 := Lib.hid hw8r
    clear hw8r
    obtain ⟨w9r, hw9r⟩ : ∃ W, w8r.setCells (q + 3) 0 [.int .i64 op, .int .i64 1, .int .i64 phase, .int .i64 old, .int .i64 since, .int .i64 left, .bool awoke, .bool starve, .int .i64 4, .bool front] = W := ⟨_, rfl⟩
    have HF2 := Lib.hid ((HF1.out.all 3 rfl rfl (by rfl)).eqw hw9r)
    have hh2 := Lib.hid hw9r
    clear hw9r
    obtain ⟨w10r, hw10r⟩ : ∃ W, w9r.setCells (q + 4) 0 [.bool false, .bool false, .bool false, .int .i64 0, .int .i64 0, .int .u64 0, .slice none 0 0] = W := ⟨_, rfl⟩
    have HF3 := Lib.hid ((HF2.out.all 4 rfl rfl (by rfl)).eqw hw10r)
    have hh3 := Lib.hid hw10r
    clear hw10r
    refine wp_region_noPanic ?_
    refine wp_region_held_drew (S := (fun wv => Hid (wv.heap[q]? = some (.cells #[.int .i64 kd, .int .i64 o0, .int .i64 o1, .int .i64 o2, .int .i64 o3, .int .i64 x, .int .i64 o5, .int .u32 wa, .int .u32 to, .slice A n c, .slice B m d] 29) ∧ wv.heap[q + 1]? = some (.cells #[.int .i64 op, .int .i64 1, .int .i64 phase, .int .i64 old, .int .i64 since, .int .i64 left, .bool awoke, .bool starve, .int .i64 4, .bool front] 31)))) (by kernel_rfl) (Lib.hid (show w7p.drew.heap[q]? = some (.cells #[.int .i64 kd, .int .i64 o0, .int .i64 o1, .int .i64 o2, .int .i64 o3, .int .i64 x, .int .i64 o5, .int .u32 wa, .int .u32 to, .slice A n c, .slice B m d] 29) ∧ w7p.drew.heap[q + 1]? = some (.cells #[.int .i64 op, .int .i64 1, .int .i64 phase, .int .i64 old, .int .i64 since, .int .i64 left, .bool awoke, .bool starve, .int .i64 4, .bool front] 31) from ⟨HF0.out.blk 0 _ rfl, HF0.out.blk 1 _ rfl⟩)) (fun hS => ?_)
    refine wpAnyH_take (i := 0) (oi := ⟨some 24, .load 29 (.tmp 2), 29, "read.go:29", #[], none⟩) (v := .agg (([.int .i64 kd, .int .i64 o0, .int .i64 o1, .int .i64 o2, .int .i64 o3, .int .i64 x, .int .i64 o5, .int .u32 wa, .int .u32 to, .slice A n c, .slice B m d] : List Value)).toArray) rfl (by kernel_rfl) (by kernel_rfl) (by kernel_rfl) (fun _ _ _ h => h) (yieldsIf_load_mid (by rfl) _ _ (by rfl) (q) (0) (by rfl) (([.int .i64 kd, .int .i64 o0, .int .i64 o1, .int .i64 o2, .int .i64 o3, .int .i64 x, .int .i64 o5, .int .u32 wa, .int .u32 to, .slice A n c, .slice B m d] : List Value)) _ (fun wv hS => blk_rngl hS.out.1) Try.underlying29 (by rfl) (by kernel_rfl)) hS ?_
    try simp only [Act.put, List.setIfInBounds_toArray, List.set_cons_zero, List.set_cons_succ]
    refine wpAnyH_take (i := 1) (oi := ⟨some 25, .load 31 (.tmp 3), 31, "read.go:29", #[⟨3, .gcOnly .lateStores⟩], none⟩) (v := .agg (([.int .i64 op, .int .i64 1, .int .i64 phase, .int .i64 old, .int .i64 since, .int .i64 left, .bool awoke, .bool starve, .int .i64 4, .bool front] : List Value)).toArray) rfl (by kernel_rfl) (by kernel_rfl) (by kernel_rfl) (fun _ _ _ h => h) (yieldsIf_load_mid (by rfl) _ _ (by rfl) (q + 1) (0) (by rfl) (([.int .i64 op, .int .i64 1, .int .i64 phase, .int .i64 old, .int .i64 since, .int .i64 left, .bool awoke, .bool starve, .int .i64 4, .bool front] : List Value)) _ (fun wv hS => blk_rngl hS.out.2) Try.underlying31 (by rfl) (by kernel_rfl)) hS ?_
    try simp only [Act.put, List.setIfInBounds_toArray, List.set_cons_zero, List.set_cons_succ]
    refine wpAnyH_take (i := 2) (oi := ⟨some 26, .build 38 #[], 38, "read.go:29", #[⟨4, .gcOnly .lateStores⟩], none⟩) (v := ?_) rfl (by kernel_rfl) (by kernel_rfl) (by kernel_rfl) (fun _ _ _ h => h) (Or.inl ⟨by rfl, ?_⟩) hS ?_
    rotate_left
    · intro wv _; go_simp; try with_reducible rfl
    try simp only [Act.put, List.setIfInBounds_toArray, List.set_cons_zero, List.set_cons_succ]
    refine wpAnyH_ready (rs := [3]) (by kernel_rfl) (by simp) (AllReadyH.cons (o := ⟨none, .store 29 (.tmp 4) (.tmp 24), 0, "read.go:29", #[⟨0, .data⟩, ⟨0, .phase⟩, ⟨1, .textOnly .lateStores⟩, ⟨2, .textOnly .lateStores⟩], none⟩) rfl (fun K hK => ?_) AllReadyH.nil)
    refine op_storeS (by rfl) rfl rfl rfl (there_blk (HF0.out.blk 2 _ rfl) rfl) (by kernel_rfl) (by simp [Value.oneCell']) hh1.out ?_
    replace hS := Lib.hid (show w8r.heap[q]? = some (.cells #[.int .i64 kd, .int .i64 o0, .int .i64 o1, .int .i64 o2, .int .i64 o3, .int .i64 x, .int .i64 o5, .int .u32 wa, .int .u32 to, .slice A n c, .slice B m d] 29) ∧ w8r.heap[q + 1]? = some (.cells #[.int .i64 op, .int .i64 1, .int .i64 phase, .int .i64 old, .int .i64 since, .int .i64 left, .bool awoke, .bool starve, .int .i64 4, .bool front] 31) from ⟨HF1.out.blk 0 _ rfl, HF1.out.blk 1 _ rfl⟩)
    refine Shut.out hK _ _ hS (fun _ => ?_)
    clear hK K
    try simp only [Act.put, List.setIfInBounds_toArray, List.set_cons_zero, List.set_cons_succ]
    refine wpAnyH_ready (rs := [4]) (by kernel_rfl) (by simp) (AllReadyH.cons (o := ⟨none, .store 31 (.tmp 5) (.tmp 25), 0, "read.go:29", #[⟨1, .data⟩, ⟨3, .chain⟩, ⟨0, .phase⟩, ⟨1, .phase⟩, ⟨2, .textOnly .lateStores⟩, ⟨3, .phase⟩], none⟩) rfl (fun K hK => ?_) AllReadyH.nil)
    refine op_storeS (by rfl) rfl rfl rfl (there_blk (HF1.out.blk 3 _ rfl) rfl) (by kernel_rfl) (by simp [Value.oneCell']) hh2.out ?_
    replace hS := Lib.hid (show w9r.heap[q]? = some (.cells #[.int .i64 kd, .int .i64 o0, .int .i64 o1, .int .i64 o2, .int .i64 o3, .int .i64 x, .int .i64 o5, .int .u32 wa, .int .u32 to, .slice A n c, .slice B m d] 29) ∧ w9r.heap[q + 1]? = some (.cells #[.int .i64 op, .int .i64 1, .int .i64 phase, .int .i64 old, .int .i64 since, .int .i64 left, .bool awoke, .bool starve, .int .i64 4, .bool front] 31) from ⟨HF2.out.blk 0 _ rfl, HF2.out.blk 1 _ rfl⟩)
    refine Shut.out hK _ _ hS (fun _ => ?_)
    clear hK K
    try simp only [Act.put, List.setIfInBounds_toArray, List.set_cons_zero, List.set_cons_succ]
    refine wpAnyH_ready (rs := [5]) (by kernel_rfl) (by simp) (AllReadyH.cons (o := ⟨none, .store 38 (.tmp 6) (.tmp 26), 0, "read.go:29", #[⟨2, .data⟩, ⟨4, .chain⟩, ⟨0, .phase⟩, ⟨1, .phase⟩, ⟨2, .phase⟩, ⟨3, .phase⟩, ⟨4, .phase⟩], none⟩) rfl (fun K hK => ?_) AllReadyH.nil)
    refine op_storeS (by rfl) rfl rfl rfl (there_blk (HF2.out.blk 4 _ rfl) rfl) (by kernel_rfl) (by simp [Value.oneCell']) hh3.out ?_
    replace hS := Lib.hid (show w10r.heap[q]? = some (.cells #[.int .i64 kd, .int .i64 o0, .int .i64 o1, .int .i64 o2, .int .i64 o3, .int .i64 x, .int .i64 o5, .int .u32 wa, .int .u32 to, .slice A n c, .slice B m d] 29) ∧ w10r.heap[q + 1]? = some (.cells #[.int .i64 op, .int .i64 1, .int .i64 phase, .int .i64 old, .int .i64 since, .int .i64 left, .bool awoke, .bool starve, .int .i64 4, .bool front] 31) from ⟨HF3.out.blk 0 _ rfl, HF3.out.blk 1 _ rfl⟩)
    refine Shut.out hK _ _ hS (fun _ => ?_)
    clear hK K
    try simp only [Act.put, List.setIfInBounds_toArray, List.set_cons_zero, List.set_cons_succ]
    refine wpAnyH_done (by kernel_rfl) ?_ _
    refine NoPanic.normal ?_
    go_wp2
    refine bodyPost_ret (res_ccc Try.results22 (by rfl) (by rfl) (by rfl) (HF3.out.load 2 rfl rfl Try.underlying29 (by kernel_rfl)) (HF3.out.load 3 rfl rfl Try.underlying31 (by kernel_rfl)) (HF3.out.load 4 rfl rfl Try.underlying38 (by kernel_rfl))) rfl ?_
    replace FR := HF3
    rw [HE.out]
    exact ⟨rfl, FR.out.out⟩
  · have c0 : decide (0 ≤ x) = true := decide_eq_true (Int.not_lt.1 hx0)
    have HE := Lib.hid (HO.trans (if_neg hx0))
    clear HO hx0
    go_enter Try.func22, Try.ntmps22
    obtain ⟨ac00, ac01, ac02, ac03, ac04, ac05, ac06, ac07, ac08, ac09, ac010⟩ := row11 (b := q) (FR.out.at 0 rfl rfl)
    have af05 : v5.frozen? ⟨q, 5, none⟩ = false := FR.out.frozen 0 5 rfl rfl
    obtain ⟨ac10, ac11, ac12, ac13, ac14, ac15, ac16, ac17, ac18, ac19⟩ := row10 (b := q + 1) (FR.out.at 1 rfl rfl)
    obtain ⟨w6p, hw6p⟩ : ∃ W, (v5.setCell ⟨q, 5, none⟩ (.int .i64 x)) = W := ⟨_, rfl⟩
    replace FR := Lib.hid (((FR.out.set 0 5 rfl rfl (.int .i64 x))).eqw hw6p)
    obtain ⟨bc00, bc01, bc02, bc03, bc04, bc05, bc06, bc07, bc08, bc09, bc010⟩ := row11 (b := q) (FR.out.at 0 rfl rfl)
    obtain ⟨bc10, bc11, bc12, bc13, bc14, bc15, bc16, bc17, bc18, bc19⟩ := row10 (b := q + 1) (FR.out.at 1 rfl rfl)
    go_wp2_with fail
    refine (stDone_any _ _ _ _ _ _ _ _ _ _ _ _ _ _ _ _).mono ?_
    rintro e w7 ⟨rfl, hb⟩
    clear ac00 ac01 ac02 ac03 ac04 ac05 ac06 ac07 ac08 ac09 ac010 af05 ac10 ac11 ac12 ac13 ac14 ac15 ac16 ac17 ac18 ac19 bc00 bc01 bc02 bc03 bc04 bc05 bc06 bc07 bc08 bc09 bc010 bc10 bc11 bc12 bc13 bc14 bc15 bc16 bc17 bc18 bc19
    clear hw6p
    replace FR := Lib.hid (FR.out.step hb)
    clear hb
    obtain ⟨mc20, mc21, mc22, mc23, mc24, mc25, mc26, mc27, mc28, mc29, mc210⟩ := row11 (b := q + 2) (FR.out.at 2 rfl rfl)
    obtain ⟨mf20, mf21, mf22, mf23, mf24, mf25, mf26, mf27, mf28, mf29, mf210⟩ := frz11 (b := q + 2) (FR.out.at 2 rfl rfl)
    obtain ⟨w7r, hw7r⟩ : ∃ W, (((((((((((w7.setCell ⟨q + 2, 0, none⟩ (.int .i64 kd)).setCell ⟨q + 2, 1, none⟩ (.int .i64 o0)).setCell ⟨q + 2, 2, none⟩ (.int .i64 o1)).setCell ⟨q + 2, 3, none⟩ (.int .i64 o2)).setCell ⟨q + 2, 4, none⟩ (.int .i64 o3)).setCell ⟨q + 2, 5, none⟩ (.int .i64 x)).setCell ⟨q + 2, 6, none⟩ (.int .i64 o5)).setCell ⟨q + 2, 7, none⟩ (.int .u32 wa)).setCell ⟨q + 2, 8, none⟩ (.int .u32 to)).setCell ⟨q + 2, 9, none⟩ (.slice A n c)).setCell ⟨q + 2, 10, none⟩ (.slice B m d)) = W := ⟨_, rfl⟩
    replace FR := Lib.hid ((FR.out.all 2 (vs := [.int .i64 kd, .int .i64 o0, .int .i64 o1, .int .i64 o2, .int .i64 o3, .int .i64 x, .int .i64 o5, .int .u32 wa, .int .u32 to, .slice A n c, .slice B m d]) rfl rfl rfl).eqw hw7r)
    obtain ⟨nc30, nc31, nc32, nc33, nc34, nc35, nc36, nc37, nc38, nc39⟩ := row10 (b := q + 3) (FR.out.at 3 rfl rfl)
    obtain ⟨nf30, nf31, nf32, nf33, nf34, nf35, nf36, nf37, nf38, nf39⟩ := frz10 (b := q + 3) (FR.out.at 3 rfl rfl)
    obtain ⟨w8r, hw8r⟩ : ∃ W, ((((((((((w7r.setCell ⟨q + 3, 0, none⟩ (.int .i64 0)).setCell ⟨q + 3, 1, none⟩ (.int .i64 0)).setCell ⟨q + 3, 2, none⟩ (.int .i64 0)).setCell ⟨q + 3, 3, none⟩ (.int .i64 0)).setCell ⟨q + 3, 4, none⟩ (.int .i64 0)).setCell ⟨q + 3, 5, none⟩ (.int .i64 0)).setCell ⟨q + 3, 6, none⟩ (.bool false)).setCell ⟨q + 3, 7, none⟩ (.bool false)).setCell ⟨q + 3, 8, none⟩ (.int .i64 0)).setCell ⟨q + 3, 9, none⟩ (.bool false)) = W := ⟨_, rfl⟩
    replace FR := Lib.hid ((FR.out.all 3 (vs := [.int .i64 0, .int .i64 0, .int .i64 0, .int .i64 0, .int .i64 0, .int .i64 0, .bool false, .bool false, .int .i64 0, .bool false]) rfl rfl rfl).eqw hw8r)
    obtain ⟨oc40, oc41, oc42, oc43, oc44, oc45, oc46⟩ := row7 (b := q + 4) (FR.out.at 4 rfl rfl)
    obtain ⟨of40, of41, of42, of43, of44, of45, of46⟩ := frz7 (b := q + 4) (FR.out.at 4 rfl rfl)
    obtain ⟨w9r, hw9r⟩ : ∃ W, (((((((w8r.setCell ⟨q + 4, 0, none⟩ (.bool true)).setCell ⟨q + 4, 1, none⟩ (.bool false)).setCell ⟨q + 4, 2, none⟩ (.bool false)).setCell ⟨q + 4, 3, none⟩ (.int .i64 0)).setCell ⟨q + 4, 4, none⟩ (.int .i64 0)).setCell ⟨q + 4, 5, none⟩ (.int .u64 0)).setCell ⟨q + 4, 6, none⟩ (.slice none 0 0)) = W := ⟨_, rfl⟩
    replace FR := Lib.hid ((FR.out.all 4 (vs := [.bool true, .bool false, .bool false, .int .i64 0, .int .i64 0, .int .u64 0, .slice none 0 0]) rfl rfl rfl).eqw hw9r)
    go_wp2
    refine bodyPost_ret (res_ccc Try.results22 (by rfl) (by rfl) (by rfl) (FR.out.load 2 rfl rfl Try.underlying29 (by kernel_rfl)) (FR.out.load 3 rfl rfl Try.underlying31 (by kernel_rfl)) (FR.out.load 4 rfl rfl Try.underlying38 (by kernel_rfl))) rfl ?_
    rw [HE.out]
    exact ⟨rfl, FR.out.out⟩
set_option maxRecDepth 100000 in
set_option maxHeartbeats 16000000 in
theorem rwLeave_any (kd o0 o1 o2 o3 o4 o5 wa to : Int) (A : Option Addr) (n c : Nat) (B : Option Addr) (m d : Nat) (f : MFr) (hs : f.stage = 0) (w : World) : Calls Try.prog 26 #[obV kd o0 o1 o2 o3 o4 o5 wa to A n c B m d, frV f] w (StepR w kd o1 o2 o3 wa to A n c B m d (runlockW o0 o4 o5 f)) := by
  obtain ⟨op, stage, phase, old, since, left, awoke, starve, need, front⟩ := f
  have hs2 : stage = 0 := hs
  subst hs2
  clear hs
  unfold obV frV frC
  simp only
  obtain ⟨v1, hv1⟩ : ∃ W, w.alloc (.cells #[.int .i64 kd, .int .i64 o0, .int .i64 o1, .int .i64 o2, .int .i64 o3, .int .i64 o4, .int .i64 o5, .int .u32 wa, .int .u32 to, .slice A n c, .slice B m d] 29) = W := ⟨_, rfl⟩
  have fr1 : Fr w v1 w.heap.size [.cells #[.int .i64 kd, .int .i64 o0, .int .i64 o1, .int .i64 o2, .int .i64 o3, .int .i64 o4, .int .i64 o5, .int .u32 wa, .int .u32 to, .slice A n c, .slice B m d] 29] := hv1 ▸ Fr.first w _
  have z1 : v1.heap.size = w.heap.size + 1 := by rw [← hv1, Fr.size1]
  obtain ⟨v2, hv2⟩ : ∃ W, v1.alloc (.cells #[.int .i64 op, .int .i64 0, .int .i64 phase, .int .i64 old, .int .i64 since, .int .i64 left, .bool awoke, .bool starve, .int .i64 need, .bool front] 31) = W := ⟨_, rfl⟩
  have fr2 : Fr w v2 w.heap.size [.cells #[.int .i64 kd, .int .i64 o0, .int .i64 o1, .int .i64 o2, .int .i64 o3, .int .i64 o4, .int .i64 o5, .int .u32 wa, .int .u32 to, .slice A n c, .slice B m d] 29, .cells #[.int .i64 op, .int .i64 0, .int .i64 phase, .int .i64 old, .int .i64 since, .int .i64 left, .bool awoke, .bool starve, .int .i64 need, .bool front] 31] := hv2 ▸ fr1.more z1 _
  have z2 : v2.heap.size = w.heap.size + 2 := by rw [← hv2, Fr.size1, z1]
  obtain ⟨v3, hv3⟩ : ∃ W, v2.alloc (.cells #[.int .i64 0, .int .i64 0, .int .i64 0, .int .i64 0, .int .i64 0, .int .i64 0, .int .i64 0, .int .u32 0, .int .u32 0, .slice none 0 0, .slice none 0 0] 29) = W := ⟨_, rfl⟩
  have fr3 : Fr w v3 w.heap.size [.cells #[.int .i64 kd, .int .i64 o0, .int .i64 o1, .int .i64 o2, .int .i64 o3, .int .i64 o4, .int .i64 o5, .int .u32 wa, .int .u32 to, .slice A n c, .slice B m d] 29, .cells #[.int .i64 op, .int .i64 0, .int .i64 phase, .int .i64 old, .int .i64 since, .int .i64 left, .bool awoke, .bool starve, .int .i64 need, .bool front] 31, .cells #[.int .i64 0, .int .i64 0, .int .i64 0, .int .i64 0, .int .i64 0, .int .i64 0, .int .i64 0, .int .u32 0, .int .u32 0, .slice none 0 0, .slice none 0 0] 29] := hv3 ▸ fr2.more z2 _
  have z3 : v3.heap.size = w.heap.size + 3 := by rw [← hv3, Fr.size1, z2]
  obtain ⟨v4, hv4⟩ : ∃ W, v3.alloc (.cells #[.int .i64 0, .int .i64 0, .int .i64 0, .int .i64 0, .int .i64 0, .int .i64 0, .bool false, .bool false, .int .i64 0, .bool false] 31) = W := ⟨_, rfl⟩
  have fr4 : Fr w v4 w.heap.size [.cells #[.int .i64 kd, .int .i64 o0, .int .i64 o1, .int .i64 o2, .int .i64 o3, .int .i64 o4, .int .i64 o5, .int .u32 wa, .int .u32 to, .slice A n c, .slice B m d] 29, .cells #[.int .i64 op, .int .i64 0, .int .i64 phase, .int .i64 old, .int .i64 since, .int .i64 left, .bool awoke, .bool starve, .int .i64 need, .bool front] 31, .cells #[.int .i64 0, .int .i64 0, .int .i64 0, .int .i64 0, .int .i64 0, .int .i64 0, .int .i64 0, .int .u32 0, .int .u32 0, .slice none 0 0, .slice none 0 0] 29, .cells #[.int .i64 0, .int .i64 0, .int .i64 0, .int .i64 0, .int .i64 0, .int .i64 0, .bool false, .bool false, .int .i64 0, .bool false] 31] := hv4 ▸ fr3.more z3 _
  have z4 : v4.heap.size = w.heap.size + 4 := by rw [← hv4, Fr.size1, z3]
  obtain ⟨v5, hv5⟩ : ∃ W, v4.alloc (.cells #[.bool false, .bool false, .bool false, .int .i64 0, .int .i64 0, .int .u64 0, .slice none 0 0] 38) = W := ⟨_, rfl⟩
  have fr5 : Fr w v5 w.heap.size [.cells #[.int .i64 kd, .int .i64 o0, .int .i64 o1, .int .i64 o2, .int .i64 o3, .int .i64 o4, .int .i64 o5, .int .u32 wa, .int .u32 to, .slice A n c, .slice B m d] 29, .cells #[.int .i64 op, .int .i64 0, .int .i64 phase, .int .i64 old, .int .i64 since, .int .i64 left, .bool awoke, .bool starve, .int .i64 need, .bool front] 31, .cells #[.int .i64 0, .int .i64 0, .int .i64 0, .int .i64 0, .int .i64 0, .int .i64 0, .int .i64 0, .int .u32 0, .int .u32 0, .slice none 0 0, .slice none 0 0] 29, .cells #[.int .i64 0, .int .i64 0, .int .i64 0, .int .i64 0, .int .i64 0, .int .i64 0, .bool false, .bool false, .int .i64 0, .bool false] 31, .cells #[.bool false, .bool false, .bool false, .int .i64 0, .int .i64 0, .int .u64 0, .slice none 0 0] 38] := hv5 ▸ fr4.more z4 _
  have z5 : v5.heap.size = w.heap.size + 5 := by rw [← hv5, Fr.size1, z4]
  generalize hq : w.heap.size = q at *
  have FR := Lib.hid fr5
  clear fr1 fr2 fr3 fr4 fr5
  obtain ⟨x, hx⟩ : ∃ x, IntKind.i64.wrap (o4 - 1) = x := ⟨_, rfl⟩
  have HO : runlockW o0 o4 o5 ⟨op, 0, phase, old, since, left, awoke, starve, need, front⟩ = (if o4 = 0 ∨ o4 = -1048576 then ((o0, o4, o5), noF, faultA) else if x < 0 then ((o0, x, o5), ⟨op, 1, phase, old, since, left, awoke, starve, need, front⟩, noA) else ((o0, x, o5), noF, doneA)) := by
    unfold runlockW
    rw [if_pos rfl, hx]
  by_cases h0 : o4 = 0
  · have c0 : (o4 == 0) = true := by simp [h0]
    have HE := Lib.hid (HO.trans (if_pos (Or.inl h0)))
    clear HO h0
    go_enter Try.func26, Try.ntmps26
    obtain ⟨ac00, ac01, ac02, ac03, ac04, ac05, ac06, ac07, ac08, ac09, ac010⟩ := row11 (b := q) (FR.out.at 0 rfl rfl)
    obtain ⟨ac10, ac11, ac12, ac13, ac14, ac15, ac16, ac17, ac18, ac19⟩ := row10 (b := q + 1) (FR.out.at 1 rfl rfl)
    go_wp2_with fail
    refine (stFault_any _ _ _ _ _ _ _ _ _ _ _ _ _ _ _ _ _).mono ?_
    rintro e w7 ⟨rfl, hb⟩
    clear ac00 ac01 ac02 ac03 ac04 ac05 ac06 ac07 ac08 ac09 ac010 ac10 ac11 ac12 ac13 ac14 ac15 ac16 ac17 ac18 ac19
    replace FR := Lib.hid (FR.out.step hb)
    clear hb
    obtain ⟨mc20, mc21, mc22, mc23, mc24, mc25, mc26, mc27, mc28, mc29, mc210⟩ := row11 (b := q + 2) (FR.out.at 2 rfl rfl)
    obtain ⟨mf20, mf21, mf22, mf23, mf24, mf25, mf26, mf27, mf28, mf29, mf210⟩ := frz11 (b := q + 2) (FR.out.at 2 rfl rfl)
    obtain ⟨w6r, hw6r⟩ : ∃ W, (((((((((((w7.setCell ⟨q + 2, 0, none⟩ (.int .i64 kd)).setCell ⟨q + 2, 1, none⟩ (.int .i64 o0)).setCell ⟨q + 2, 2, none⟩ (.int .i64 o1)).setCell ⟨q + 2, 3, none⟩ (.int .i64 o2)).setCell ⟨q + 2, 4, none⟩ (.int .i64 o3)).setCell ⟨q + 2, 5, none⟩ (.int .i64 o4)).setCell ⟨q + 2, 6, none⟩ (.int .i64 o5)).setCell ⟨q + 2, 7, none⟩ (.int .u32 wa)).setCell ⟨q + 2, 8, none⟩ (.int .u32 to)).setCell ⟨q + 2, 9, none⟩ (.slice A n c)).setCell ⟨q + 2, 10, none⟩ (.slice B m d)) = W := ⟨_, rfl⟩
    replace FR := Lib.hid ((FR.out.all 2 (vs := [.int .i64 kd, .int .i64 o0, .int .i64 o1, .int .i64 o2, .int .i64 o3, .int .i64 o4, .int .i64 o5, .int .u32 wa, .int .u32 to, .slice A n c, .slice B m d]) rfl rfl rfl).eqw hw6r)
    obtain ⟨nc30, nc31, nc32, nc33, nc34, nc35, nc36, nc37, nc38, nc39⟩ := row10 (b := q + 3) (FR.out.at 3 rfl rfl)
    obtain ⟨nf30, nf31, nf32, nf33, nf34, nf35, nf36, nf37, nf38, nf39⟩ := frz10 (b := q + 3) (FR.out.at 3 rfl rfl)
    obtain ⟨w7r, hw7r⟩ : ∃ W, ((((((((((w6r.setCell ⟨q + 3, 0, none⟩ (.int .i64 0)).setCell ⟨q + 3, 1, none⟩ (.int .i64 0)).setCell ⟨q + 3, 2, none⟩ (.int .i64 0)).setCell ⟨q + 3, 3, none⟩ (.int .i64 0)).setCell ⟨q + 3, 4, none⟩ (.int .i64 0)).setCell ⟨q + 3, 5, none⟩ (.int .i64 0)).setCell ⟨q + 3, 6, none⟩ (.bool false)).setCell ⟨q + 3, 7, none⟩ (.bool false)).setCell ⟨q + 3, 8, none⟩ (.int .i64 0)).setCell ⟨q + 3, 9, none⟩ (.bool false)) = W := ⟨_, rfl⟩
    replace FR := Lib.hid ((FR.out.all 3 (vs := [.int .i64 0, .int .i64 0, .int .i64 0, .int .i64 0, .int .i64 0, .int .i64 0, .bool false, .bool false, .int .i64 0, .bool false]) rfl rfl rfl).eqw hw7r)
    obtain ⟨oc40, oc41, oc42, oc43, oc44, oc45, oc46⟩ := row7 (b := q + 4) (FR.out.at 4 rfl rfl)
    obtain ⟨of40, of41, of42, of43, of44, of45, of46⟩ := frz7 (b := q + 4) (FR.out.at 4 rfl rfl)
    obtain ⟨w8r, hw8r⟩ : ∃ W, (((((((w7r.setCell ⟨q + 4, 0, none⟩ (.bool false)).setCell ⟨q + 4, 1, none⟩ (.bool false)).setCell ⟨q + 4, 2, none⟩ (.bool false)).setCell ⟨q + 4, 3, none⟩ (.int .i64 0)).setCell ⟨q + 4, 4, none⟩ (.int .i64 1)).setCell ⟨q + 4, 5, none⟩ (.int .u64 0)).setCell ⟨q + 4, 6, none⟩ (.slice none 0 0)) = W := ⟨_, rfl⟩
    replace FR := Lib.hid ((FR.out.all 4 (vs := [.bool false, .bool false, .bool false, .int .i64 0, .int .i64 1, .int .u64 0, .slice none 0 0]) rfl rfl rfl).eqw hw8r)
    go_wp2
    refine bodyPost_ret (res_ccc Try.results26 (by rfl) (by rfl) (by rfl) (FR.out.load 2 rfl rfl Try.underlying29 (by kernel_rfl)) (FR.out.load 3 rfl rfl Try.underlying31 (by kernel_rfl)) (FR.out.load 4 rfl rfl Try.underlying38 (by kernel_rfl))) rfl ?_
    rw [HE.out]
    exact ⟨rfl, FR.out.out⟩
  · have c0 : (o4 == 0) = false := by simp [h0]
    by_cases h1 : o4 = -1048576
    · have c1 : (o4 == -1048576) = true := by simp [h1]
      have HE := Lib.hid (HO.trans (if_pos (Or.inr h1)))
      clear HO h0 h1
      go_enter Try.func26, Try.ntmps26
      obtain ⟨ac00, ac01, ac02, ac03, ac04, ac05, ac06, ac07, ac08, ac09, ac010⟩ := row11 (b := q) (FR.out.at 0 rfl rfl)
      obtain ⟨ac10, ac11, ac12, ac13, ac14, ac15, ac16, ac17, ac18, ac19⟩ := row10 (b := q + 1) (FR.out.at 1 rfl rfl)
      go_wp2_with fail
      refine (stFault_any _ _ _ _ _ _ _ _ _ _ _ _ _ _ _ _ _).mono ?_
      rintro e w7 ⟨rfl, hb⟩
      clear ac00 ac01 ac02 ac03 ac04 ac05 ac06 ac07 ac08 ac09 ac010 ac10 ac11 ac12 ac13 ac14 ac15 ac16 ac17 ac18 ac19
      replace FR := Lib.hid (FR.out.step hb)
      clear hb
      obtain ⟨mc20, mc21, mc22, mc23, mc24, mc25, mc26, mc27, mc28, mc29, mc210⟩ := row11 (b := q + 2) (FR.out.at 2 rfl rfl)
      obtain ⟨mf20, mf21, mf22, mf23, mf24, mf25, mf26, mf27, mf28, mf29, mf210⟩ := frz11 (b := q + 2) (FR.out.at 2 rfl rfl)
      obtain ⟨w6r, hw6r⟩ : ∃ W, (((((((((((w7.setCell ⟨q + 2, 0, none⟩ (.int .i64 kd)).setCell ⟨q + 2, 1, none⟩ (.int .i64 o0)).setCell ⟨q + 2, 2, none⟩ (.int .i64 o1)).setCell ⟨q + 2, 3, none⟩ (.int .i64 o2)).setCell ⟨q + 2, 4, none⟩ (.int .i64 o3)).setCell ⟨q + 2, 5, none⟩ (.int .i64 o4)).setCell ⟨q + 2, 6, none⟩ (.int .i64 o5)).setCell ⟨q + 2, 7, none⟩ (.int .u32 wa)).setCell ⟨q + 2, 8, none⟩ (.int .u32 to)).setCell ⟨q + 2, 9, none⟩ (.slice A n c)).setCell ⟨q + 2, 10, none⟩ (.slice B m d)) = W := ⟨_, rfl⟩
      replace FR := Lib.hid ((FR.out.all 2 (vs := [.int .i64 kd, .int .i64 o0, .int .i64 o1, .int .i64 o2, .int .i64 o3, .int .i64 o4, .int .i64 o5, .int .u32 wa, .int .u32 to, .slice A n c, .slice B m d]) rfl rfl rfl).eqw hw6r)
      obtain ⟨nc30, nc31, nc32, nc33, nc34, nc35, nc36, nc37, nc38, nc39⟩ := row10 (b := q + 3) (FR.out.at 3 rfl rfl)
      obtain ⟨nf30, nf31, nf32, nf33, nf34, nf35, nf36, nf37, nf38, nf39⟩ := frz10 (b := q + 3) (FR.out.at 3 rfl rfl)
      obtain ⟨w7r, hw7r⟩ : ∃ W, ((((((((((w6r.setCell ⟨q + 3, 0, none⟩ (.int .i64 0)).setCell ⟨q + 3, 1, none⟩ (.int .i64 0)).setCell ⟨q + 3, 2, none⟩ (.int .i64 0)).setCell ⟨q + 3, 3, none⟩ (.int .i64 0)).setCell ⟨q + 3, 4, none⟩ (.int .i64 0)).setCell ⟨q + 3, 5, none⟩ (.int .i64 0)).setCell ⟨q + 3, 6, none⟩ (.bool false)).setCell ⟨q + 3, 7, none⟩ (.bool false)).setCell ⟨q + 3, 8, none⟩ (.int .i64 0)).setCell ⟨q + 3, 9, none⟩ (.bool false)) = W := ⟨_, rfl⟩
      replace FR := Lib.hid ((FR.out.all 3 (vs := [.int .i64 0, .int .i64 0, .int .i64 0, .int .i64 0, .int .i64 0, .int .i64 0, .bool false, .bool false, .int .i64 0, .bool false]) rfl rfl rfl).eqw hw7r)
      obtain ⟨oc40, oc41, oc42, oc43, oc44, oc45, oc46⟩ := row7 (b := q + 4) (FR.out.at 4 rfl rfl)
      obtain ⟨of40, of41, of42, of43, of44, of45, of46⟩ := frz7 (b := q + 4) (FR.out.at 4 rfl rfl)
      obtain ⟨w8r, hw8r⟩ : ∃ W, (((((((w7r.setCell ⟨q + 4, 0, none⟩ (.bool false)).setCell ⟨q + 4, 1, none⟩ (.bool false)).setCell ⟨q + 4, 2, none⟩ (.bool false)).setCell ⟨q + 4, 3, none⟩ (.int .i64 0)).setCell ⟨q + 4, 4, none⟩ (.int .i64 1)).setCell ⟨q + 4, 5, none⟩ (.int .u64 0)).setCell ⟨q + 4, 6, none⟩ (.slice none 0 0)) = W := ⟨_, rfl⟩
      replace FR := Lib.hid ((FR.out.all 4 (vs := [.bool false, .bool false, .bool false, .int .i64 0, .int .i64 1, .int .u64 0, .slice none 0 0]) rfl rfl rfl).eqw hw8r)
      go_wp2
      refine bodyPost_ret (res_ccc Try.results26 (by rfl) (by rfl) (by rfl) (FR.out.load 2 rfl rfl Try.underlying29 (by kernel_rfl)) (FR.out.load 3 rfl rfl Try.underlying31 (by kernel_rfl)) (FR.out.load 4 rfl rfl Try.underlying38 (by kernel_rfl))) rfl ?_
      rw [HE.out]
      exact ⟨rfl, FR.out.out⟩
    · have c1 : (o4 == -1048576) = false := by simp [h1]
      replace HO := HO.trans (if_neg (fun h => by rcases h with h | h; exact h0 h; exact h1 h))
      clear h0 h1
      by_cases hx0 : x < 0
      · have c2 : decide (0 ≤ x) = false := decide_eq_false (Int.not_le.2 hx0)
        have HE := Lib.hid (HO.trans (if_pos hx0))
        clear HO hx0
        go_enter Try.func26, Try.ntmps26
        obtain ⟨ac00, ac01, ac02, ac03, ac04, ac05, ac06, ac07, ac08, ac09, ac010⟩ := row11 (b := q) (FR.out.at 0 rfl rfl)
        have af05 : v5.frozen? ⟨q, 5, none⟩ = false := FR.out.frozen 0 5 rfl rfl
        obtain ⟨ac10, ac11, ac12, ac13, ac14, ac15, ac16, ac17, ac18, ac19⟩ := row10 (b := q + 1) (FR.out.at 1 rfl rfl)
        obtain ⟨w6p, hw6p⟩ : ∃ W, (v5.setCell ⟨q, 5, none⟩ (.int .i64 x)) = W := ⟨_, rfl⟩
        replace FR := Lib.hid (((FR.out.set 0 5 rfl rfl (.int .i64 x))).eqw hw6p)
        obtain ⟨bc00, bc01, bc02, bc03, bc04, bc05, bc06, bc07, bc08, bc09, bc010⟩ := row11 (b := q) (FR.out.at 0 rfl rfl)
        obtain ⟨bc10, bc11, bc12, bc13, bc14, bc15, bc16, bc17, bc18, bc19⟩ := row10 (b := q + 1) (FR.out.at 1 rfl rfl)
        have bf11 : w6p.frozen? ⟨q + 1, 1, none⟩ = false := FR.out.frozen 1 1 rfl rfl
        obtain ⟨w7p, hw7p⟩ : ∃ W, (w6p.setCell ⟨q + 1, 1, none⟩ (.int .i64 1)) = W := ⟨_, rfl⟩
        replace FR := Lib.hid (((FR.out.set 1 1 rfl rfl (.int .i64 1))).eqw hw7p)
        obtain ⟨cc00, cc01, cc02, cc03, cc04, cc05, cc06, cc07, cc08, cc09, cc010⟩ := row11 (b := q) (FR.out.at 0 rfl rfl)
        obtain ⟨cc10, cc11, cc12, cc13, cc14, cc15, cc16, cc17, cc18, cc19⟩ := row10 (b := q + 1) (FR.out.at 1 rfl rfl)
        go_wp2
        clear ac00 ac01 ac02 ac03 ac04 ac05 ac06 ac07 ac08 ac09 ac010 af05 ac10 ac11 ac12 ac13 ac14 ac15 ac16 ac17 ac18 ac19 bc00 bc01 bc02 bc03 bc04 bc05 bc06 bc07 bc08 bc09 bc010 bc10 bc11 bc12 bc13 bc14 bc15 bc16 bc17 bc18 bc19 bf11 cc00 cc01 cc02 cc03 cc04 cc05 cc06 cc07 cc08 cc09 cc010 cc10 cc11 cc12 cc13 cc14 cc15 cc16 cc17 cc18 cc19
        have HF0 := Lib.hid FR.out.drew
        obtain ⟨w8r, hw8r⟩ : ∃ W, w7p.drew.setCells (q + 2) 0 [.int .i64 kd, .int .i64 o0, .int .i64 o1, .int .i64 o2, .int .i64 o3, .int .i64 x, .int .i64 o5, .int .u32 wa, .int .u32 to, .slice A n c, .slice B m d] = W := ⟨_, rfl⟩
        have HF1 := Lib.hid ((HF0.out.all 2 rfl rfl (by rfl)).eqw hw8r)
        have hh1 := Lib.hid hw8r
        clear hw8r
        obtain ⟨w9r, hw9r⟩ : ∃ W, w8r.setCells (q + 3) 0 [.int .i64 op, .int .i64 1, .int .i64 phase, .int .i64 old, .int .i64 since, .int .i64 left, .bool awoke, .bool starve, .int .i64 need, .bool front] = W := ⟨_, rfl⟩
        have HF2 := Lib.hid ((HF1.out.all 3 rfl rfl (by rfl)).eqw hw9r)
        have hh2 := Lib.hid hw9r
        clear hw9r
        obtain ⟨w10r, hw10r⟩ : ∃ W, w9r.setCells (q + 4) 0 [.bool false, .bool false, .bool false, .int .i64 0, .int .i64 0, .int .u64 0, .slice none 0 0] = W := ⟨_, rfl⟩
        have HF3 := Lib.hid ((HF2.out.all 4 rfl rfl (by rfl)).eqw hw10r)
        have hh3 := Lib.hid hw10r
        clear hw10r
        refine wp_region_noPanic ?_
        refine wp_region_held_drew (S := (fun wv => Hid (wv.heap[q]? = some (.cells #[.int .i64 kd, .int .i64 o0, .int .i64 o1, .int .i64 o2, .int .i64 o3, .int .i64 x, .int .i64 o5, .int .u32 wa, .int .u32 to, .slice A n c, .slice B m d] 29) ∧ wv.heap[q + 1]? = some (.cells #[.int .i64 op, .int .i64 1, .int .i64 phase, .int .i64 old, .int .i64 since, .int .i64 left, .bool awoke, .bool starve, .int .i64 need, .bool front] 31)))) (by kernel_rfl) (Lib.hid (show w7p.drew.heap[q]? = some (.cells #[.int .i64 kd, .int .i64 o0, .int .i64 o1, .int .i64 o2, .int .i64 o3, .int .i64 x, .int .i64 o5, .int .u32 wa, .int .u32 to, .slice A n c, .slice B m d] 29) ∧ w7p.drew.heap[q + 1]? = some (.cells #[.int .i64 op, .int .i64 1, .int .i64 phase, .int .i64 old, .int .i64 since, .int .i64 left, .bool awoke, .bool starve, .int .i64 need, .bool front] 31) from ⟨HF0.out.blk 0 _ rfl, HF0.out.blk 1 _ rfl⟩)) (fun hS => ?_)
        refine wpAnyH_take (i := 0) (oi := ⟨some 38, .load 29 (.tmp 2), 29, "read.go:42", #[], none⟩) (v := .agg (([.int .i64 kd, .int .i64 o0, .int .i64 o1, .int .i64 o2, .int .i64 o3, .int .i64 x, .int .i64 o5, .int .u32 wa, .int .u32 to, .slice A n c, .slice B m d] : List Value)).toArray) rfl (by kernel_rfl) (by kernel_rfl) (by kernel_rfl) (fun _ _ _ h => h) (yieldsIf_load_mid (by rfl) _ _ (by rfl) (q) (0) (by rfl) (([.int .i64 kd, .int .i64 o0, .int .i64 o1, .int .i64 o2, .int .i64 o3, .int .i64 x, .int .i64 o5, .int .u32 wa, .int .u32 to, .slice A n c, .slice B m d] : List Value)) _ (fun wv hS => blk_rngl hS.out.1) Try.underlying29 (by rfl) (by kernel_rfl)) hS ?_
        try simp only [Act.put, List.setIfInBounds_toArray, List.set_cons_zero, List.set_cons_succ]
        refine wpAnyH_take (i := 1) (oi := ⟨some 39, .load 31 (.tmp 3), 31, "read.go:42", #[⟨3, .gcOnly .lateStores⟩], none⟩) (v := .agg (([.int .i64 op, .int .i64 1, .int .i64 phase, .int .i64 old, .int .i64 since, .int .i64 left, .bool awoke, .bool starve, .int .i64 need, .bool front] : List Value)).toArray) rfl (by kernel_rfl) (by kernel_rfl) (by kernel_rfl) (fun _ _ _ h => h) (yieldsIf_load_mid (by rfl) _ _ (by rfl) (q + 1) (0) (by rfl) (([.int .i64 op, .int .i64 1, .int .i64 phase, .int .i64 old, .int .i64 since, .int .i64 left, .bool awoke, .bool starve, .int .i64 need, .bool front] : List Value)) _ (fun wv hS => blk_rngl hS.out.2) Try.underlying31 (by rfl) (by kernel_rfl)) hS ?_
        try simp only [Act.put, List.setIfInBounds_toArray, List.set_cons_zero, List.set_cons_succ]
        refine wpAnyH_take (i := 2) (oi := ⟨some 40, .build 38 #[], 38, "read.go:42", #[⟨4, .gcOnly .lateStores⟩], none⟩) (v := ?_) rfl (by kernel_rfl) (by kernel_rfl) (by kernel_rfl) (fun _ _ _ h => h) (Or.inl ⟨by rfl, ?_⟩) hS ?_
        rotate_left
        · intro wv _; go_simp; try with_reducible rfl
        try simp only [Act.put, List.setIfInBounds_toArray, List.set_cons_zero, List.set_cons_succ]
        refine wpAnyH_ready (rs := [3]) (by kernel_rfl) (by simp) (AllReadyH.cons (o := ⟨none, .store 29 (.tmp 4) (.tmp 38), 0, "read.go:42", #[⟨0, .data⟩, ⟨0, .phase⟩, ⟨1, .textOnly .lateStores⟩, ⟨2, .textOnly .lateStores⟩], none⟩) rfl (fun K hK => ?_) AllReadyH.nil)
        refine op_storeS (by rfl) rfl rfl rfl (there_blk (HF0.out.blk 2 _ rfl) rfl) (by kernel_rfl) (by simp [Value.oneCell']) hh1.out ?_
        replace hS := Lib.hid (show w8r.heap[q]? = some (.cells #[.int .i64 kd, .int .i64 o0, .int .i64 o1, .int .i64 o2, .int .i64 o3, .int .i64 x, .int .i64 o5, .int .u32 wa, .int .u32 to, .slice A n c, .slice B m d] 29) ∧ w8r.heap[q + 1]? = some (.cells #[.int .i64 op, .int .i64 1, .int .i64 phase, .int .i64 old, .int .i64 since, .int .i64 left, .bool awoke, .bool starve, .int .i64 need, .bool front] 31) from ⟨HF1.out.blk 0 _ rfl, HF1.out.blk 1 _ rfl⟩)
        refine Shut.out hK _ _ hS (fun _ => ?_)
        clear hK K
        try simp only [Act.put, List.setIfInBounds_toArray, List.set_cons_zero, List.set_cons_succ]
        refine wpAnyH_ready (rs := [4]) (by kernel_rfl) (by simp) (AllReadyH.cons (o := ⟨none, .store 31 (.tmp 5) (.tmp 39), 0, "read.go:42", #[⟨1, .data⟩, ⟨3, .chain⟩, ⟨0, .phase⟩, ⟨1, .phase⟩, ⟨2, .textOnly .lateStores⟩, ⟨3, .phase⟩], none⟩) rfl (fun K hK => ?_) AllReadyH.nil)
        refine op_storeS (by rfl) rfl rfl rfl (there_blk (HF1.out.blk 3 _ rfl) rfl) (by kernel_rfl) (by simp [Value.oneCell']) hh2.out ?_
        replace hS := Lib.hid (show w9r.heap[q]? = some (.cells #[.int .i64 kd, .int .i64 o0, .int .i64 o1, .int .i64 o2, .int .i64 o3, .int .i64 x, .int .i64 o5, .int .u32 wa, .int .u32 to, .slice A n c, .slice B m d] 29) ∧ w9r.heap[q + 1]? = some (.cells #[.int .i64 op, .int .i64 1, .int .i64 phase, .int .i64 old, .int .i64 since, .int .i64 left, .bool awoke, .bool starve, .int .i64 need, .bool front] 31) from ⟨HF2.out.blk 0 _ rfl, HF2.out.blk 1 _ rfl⟩)
        refine Shut.out hK _ _ hS (fun _ => ?_)
        clear hK K
        try simp only [Act.put, List.setIfInBounds_toArray, List.set_cons_zero, List.set_cons_succ]
        refine wpAnyH_ready (rs := [5]) (by kernel_rfl) (by simp) (AllReadyH.cons (o := ⟨none, .store 38 (.tmp 6) (.tmp 40), 0, "read.go:42", #[⟨2, .data⟩, ⟨4, .chain⟩, ⟨0, .phase⟩, ⟨1, .phase⟩, ⟨2, .phase⟩, ⟨3, .phase⟩, ⟨4, .phase⟩], none⟩) rfl (fun K hK => ?_) AllReadyH.nil)
        refine op_storeS (by rfl) rfl rfl rfl (there_blk (HF2.out.blk 4 _ rfl) rfl) (by kernel_rfl) (by simp [Value.oneCell']) hh3.out ?_
        replace hS := Lib.hid (show w10r.heap[q]? = some (.cells #[.int .i64 kd, .int .i64 o0, .int .i64 o1, .int .i64 o2, .int .i64 o3, .int .i64 x, .int .i64 o5, .int .u32 wa, .int .u32 to, .slice A n c, .slice B m d] 29) ∧ w10r.heap[q + 1]? = some (.cells #[.int .i64 op, .int .i64 1, .int .i64 phase, .int .i64 old, .int .i64 since, .int .i64 left, .bool awoke, .bool starve, .int .i64 need, .bool front] 31) from ⟨HF3.out.blk 0 _ rfl, HF3.out.blk 1 _ rfl⟩)
        refine Shut.out hK _ _ hS (fun _ => ?_)
        clear hK K
        try simp only [Act.put, List.setIfInBounds_toArray, List.set_cons_zero, List.set_cons_succ]
        refine wpAnyH_done (by kernel_rfl) ?_ _
        refine NoPanic.normal ?_
        go_wp2
        refine bodyPost_ret (res_ccc Try.results26 (by rfl) (by rfl) (by rfl) (HF3.out.load 2 rfl rfl Try.underlying29 (by kernel_rfl)) (HF3.out.load 3 rfl rfl Try.underlying31 (by kernel_rfl)) (HF3.out.load 4 rfl rfl Try.underlying38 (by kernel_rfl))) rfl ?_
        replace FR := HF3
        rw [HE.out]
        exact ⟨rfl, FR.out.out⟩
      · have c2 : decide (0 ≤ x) = true := decide_eq_true (Int.not_lt.1 hx0)
        have HE := Lib.hid (HO.trans (if_neg hx0))
        clear HO hx0
        go_enter Try.func26, Try.ntmps26
        obtain ⟨ac00, ac01, ac02, ac03, ac04, ac05, ac06, ac07, ac08, ac09, ac010⟩ := row11 (b := q) (FR.out.at 0 rfl rfl)
        have af05 : v5.frozen? ⟨q, 5, none⟩ = false := FR.out.frozen 0 5 rfl rfl
        obtain ⟨ac10, ac11, ac12, ac13, ac14, ac15, ac16, ac17, ac18, ac19⟩ := row10 (b := q + 1) (FR.out.at 1 rfl rfl)
        obtain ⟨w6p, hw6p⟩ : ∃ W, (v5.setCell ⟨q, 5, none⟩ (.int .i64 x)) = W := ⟨_, rfl⟩
        replace FR := Lib.hid (((FR.out.set 0 5 rfl rfl (.int .i64 x))).eqw hw6p)
        obtain ⟨bc00, bc01, bc02, bc03, bc04, bc05, bc06, bc07, bc08, bc09, bc010⟩ := row11 (b := q) (FR.out.at 0 rfl rfl)
        obtain ⟨bc10, bc11, bc12, bc13, bc14, bc15, bc16, bc17, bc18, bc19⟩ := row10 (b := q + 1) (FR.out.at 1 rfl rfl)
        go_wp2_with fail
        refine (stDone_any _ _ _ _ _ _ _ _ _ _ _ _ _ _ _ _).mono ?_
        rintro e w7 ⟨rfl, hb⟩
        clear ac00 ac01 ac02 ac03 ac04 ac05 ac06 ac07 ac08 ac09 ac010 af05 ac10 ac11 ac12 ac13 ac14 ac15 ac16 ac17 ac18 ac19 bc00 bc01 bc02 bc03 bc04 bc05 bc06 bc07 bc08 bc09 bc010 bc10 bc11 bc12 bc13 bc14 bc15 bc16 bc17 bc18 bc19
        clear hw6p
        replace FR := Lib.hid (FR.out.step hb)
        clear hb
        obtain ⟨mc20, mc21, mc22, mc23, mc24, mc25, mc26, mc27, mc28, mc29, mc210⟩ := row11 (b := q + 2) (FR.out.at 2 rfl rfl)
        obtain ⟨mf20, mf21, mf22, mf23, mf24, mf25, mf26, mf27, mf28, mf29, mf210⟩ := frz11 (b := q + 2) (FR.out.at 2 rfl rfl)
        obtain ⟨w7r, hw7r⟩ : ∃ W, (((((((((((w7.setCell ⟨q + 2, 0, none⟩ (.int .i64 kd)).setCell ⟨q + 2, 1, none⟩ (.int .i64 o0)).setCell ⟨q + 2, 2, none⟩ (.int .i64 o1)).setCell ⟨q + 2, 3, none⟩ (.int .i64 o2)).setCell ⟨q + 2, 4, none⟩ (.int .i64 o3)).setCell ⟨q + 2, 5, none⟩ (.int .i64 x)).setCell ⟨q + 2, 6, none⟩ (.int .i64 o5)).setCell ⟨q + 2, 7, none⟩ (.int .u32 wa)).setCell ⟨q + 2, 8, none⟩ (.int .u32 to)).setCell ⟨q + 2, 9, none⟩ (.slice A n c)).setCell ⟨q + 2, 10, none⟩ (.slice B m d)) = W := ⟨_, rfl⟩
        replace FR := Lib.hid ((FR.out.all 2 (vs := [.int .i64 kd, .int .i64 o0, .int .i64 o1, .int .i64 o2, .int .i64 o3, .int .i64 x, .int .i64 o5, .int .u32 wa, .int .u32 to, .slice A n c, .slice B m d]) rfl rfl rfl).eqw hw7r)
        obtain ⟨nc30, nc31, nc32, nc33, nc34, nc35, nc36, nc37, nc38, nc39⟩ := row10 (b := q + 3) (FR.out.at 3 rfl rfl)
        obtain ⟨nf30, nf31, nf32, nf33, nf34, nf35, nf36, nf37, nf38, nf39⟩ := frz10 (b := q + 3) (FR.out.at 3 rfl rfl)
        obtain ⟨w8r, hw8r⟩ : ∃ W, ((((((((((w7r.setCell ⟨q + 3, 0, none⟩ (.int .i64 0)).setCell ⟨q + 3, 1, none⟩ (.int .i64 0)).setCell ⟨q + 3, 2, none⟩ (.int .i64 0)).setCell ⟨q + 3, 3, none⟩ (.int .i64 0)).setCell ⟨q + 3, 4, none⟩ (.int .i64 0)).setCell ⟨q + 3, 5, none⟩ (.int .i64 0)).setCell ⟨q + 3, 6, none⟩ (.bool false)).setCell ⟨q + 3, 7, none⟩ (.bool false)).setCell ⟨q + 3, 8, none⟩ (.int .i64 0)).setCell ⟨q + 3, 9, none⟩ (.bool false)) = W := ⟨_, rfl⟩
        replace FR := Lib.hid ((FR.out.all 3 (vs := [.int .i64 0, .int .i64 0, .int .i64 0, .int .i64 0, .int .i64 0, .int .i64 0, .bool false, .bool false, .int .i64 0, .bool false]) rfl rfl rfl).eqw hw8r)
        obtain ⟨oc40, oc41, oc42, oc43, oc44, oc45, oc46⟩ := row7 (b := q + 4) (FR.out.at 4 rfl rfl)
        obtain ⟨of40, of41, of42, of43, of44, of45, of46⟩ := frz7 (b := q + 4) (FR.out.at 4 rfl rfl)
        obtain ⟨w9r, hw9r⟩ : ∃ W, (((((((w8r.setCell ⟨q + 4, 0, none⟩ (.bool true)).setCell ⟨q + 4, 1, none⟩ (.bool false)).setCell ⟨q + 4, 2, none⟩ (.bool false)).setCell ⟨q + 4, 3, none⟩ (.int .i64 0)).setCell ⟨q + 4, 4, none⟩ (.int .i64 0)).setCell ⟨q + 4, 5, none⟩ (.int .u64 0)).setCell ⟨q + 4, 6, none⟩ (.slice none 0 0)) = W := ⟨_, rfl⟩
        replace FR := Lib.hid ((FR.out.all 4 (vs := [.bool true, .bool false, .bool false, .int .i64 0, .int .i64 0, .int .u64 0, .slice none 0 0]) rfl rfl rfl).eqw hw9r)
        go_wp2
        refine bodyPost_ret (res_ccc Try.results26 (by rfl) (by rfl) (by rfl) (FR.out.load 2 rfl rfl Try.underlying29 (by kernel_rfl)) (FR.out.load 3 rfl rfl Try.underlying31 (by kernel_rfl)) (FR.out.load 4 rfl rfl Try.underlying38 (by kernel_rfl))) rfl ?_
        rw [HE.out]
        exact ⟨rfl, FR.out.out⟩
set_option maxRecDepth 100000 in
set_option maxHeartbeats 16000000 in
theorem rwWaited_any (kd o0 o1 o2 o3 o4 o5 wa to : Int) (A : Option Addr) (n c : Nat) (B : Option Addr) (m d : Nat) (f : MFr) (hs : f.stage = 1) (w : World) : Calls Try.prog 27 #[obV kd o0 o1 o2 o3 o4 o5 wa to A n c B m d, frV f] w (StepR w kd o1 o2 o3 wa to A n c B m d (runlockW o0 o4 o5 f)) := by
  obtain ⟨op, stage, phase, old, since, left, awoke, starve, need, front⟩ := f
  have hs2 : stage = 1 := hs
  subst hs2
  clear hs
  unfold obV frV frC
  simp only
  obtain ⟨v1, hv1⟩ : ∃ W, w.alloc (.cells #[.int .i64 kd, .int .i64 o0, .int .i64 o1, .int .i64 o2, .int .i64 o3, .int .i64 o4, .int .i64 o5, .int .u32 wa, .int .u32 to, .slice A n c, .slice B m d] 29) = W := ⟨_, rfl⟩
  have fr1 : Fr w v1 w.heap.size [.cells #[.int .i64 kd, .int .i64 o0, .int .i64 o1, .int .i64 o2, .int .i64 o3, .int .i64 o4, .int .i64 o5, .int .u32 wa, .int .u32 to, .slice A n c, .slice B m d] 29] := hv1 ▸ Fr.first w _
  have z1 : v1.heap.size = w.heap.size + 1 := by rw [← hv1, Fr.size1]
  obtain ⟨v2, hv2⟩ : ∃ W, v1.alloc (.cells #[.int .i64 op, .int .i64 1, .int .i64 phase, .int .i64 old, .int .i64 since, .int .i64 left, .bool awoke, .bool starve, .int .i64 need, .bool front] 31) = W := ⟨_, rfl⟩
  have fr2 : Fr w v2 w.heap.size [.cells #[.int .i64 kd, .int .i64 o0, .int .i64 o1, .int .i64 o2, .int .i64 o3, .int .i64 o4, .int .i64 o5, .int .u32 wa, .int .u32 to, .slice A n c, .slice B m d] 29, .cells #[.int .i64 op, .int .i64 1, .int .i64 phase, .int .i64 old, .int .i64 since, .int .i64 left, .bool awoke, .bool starve, .int .i64 need, .bool front] 31] := hv2 ▸ fr1.more z1 _
  have z2 : v2.heap.size = w.heap.size + 2 := by rw [← hv2, Fr.size1, z1]
  obtain ⟨v3, hv3⟩ : ∃ W, v2.alloc (.cells #[.int .i64 0, .int .i64 0, .int .i64 0, .int .i64 0, .int .i64 0, .int .i64 0, .int .i64 0, .int .u32 0, .int .u32 0, .slice none 0 0, .slice none 0 0] 29) = W := ⟨_, rfl⟩
  have fr3 : Fr w v3 w.heap.size [.cells #[.int .i64 kd, .int .i64 o0, .int .i64 o1, .int .i64 o2, .int .i64 o3, .int .i64 o4, .int .i64 o5, .int .u32 wa, .int .u32 to, .slice A n c, .slice B m d] 29, .cells #[.int .i64 op, .int .i64 1, .int .i64 phase, .int .i64 old, .int .i64 since, .int .i64 left, .bool awoke, .bool starve, .int .i64 need, .bool front] 31, .cells #[.int .i64 0, .int .i64 0, .int .i64 0, .int .i64 0, .int .i64 0, .int .i64 0, .int .i64 0, .int .u32 0, .int .u32 0, .slice none 0 0, .slice none 0 0] 29] := hv3 ▸ fr2.more z2 _
  have z3 : v3.heap.size = w.heap.size + 3 := by rw [← hv3, Fr.size1, z2]
  obtain ⟨v4, hv4⟩ : ∃ W, v3.alloc (.cells #[.int .i64 0, .int .i64 0, .int .i64 0, .int .i64 0, .int .i64 0, .int .i64 0, .bool false, .bool false, .int .i64 0, .bool false] 31) = W := ⟨_, rfl⟩
  have fr4 : Fr w v4 w.heap.size [.cells #[.int .i64 kd, .int .i64 o0, .int .i64 o1, .int .i64 o2, .int .i64 o3, .int .i64 o4, .int .i64 o5, .int .u32 wa, .int .u32 to, .slice A n c, .slice B m d] 29, .cells #[.int .i64 op, .int .i64 1, .int .i64 phase, .int .i64 old, .int .i64 since, .int .i64 left, .bool awoke, .bool starve, .int .i64 need, .bool front] 31, .cells #[.int .i64 0, .int .i64 0, .int .i64 0, .int .i64 0, .int .i64 0, .int .i64 0, .int .i64 0, .int .u32 0, .int .u32 0, .slice none 0 0, .slice none 0 0] 29, .cells #[.int .i64 0, .int .i64 0, .int .i64 0, .int .i64 0, .int .i64 0, .int .i64 0, .bool false, .bool false, .int .i64 0, .bool false] 31] := hv4 ▸ fr3.more z3 _
  have z4 : v4.heap.size = w.heap.size + 4 := by rw [← hv4, Fr.size1, z3]
  obtain ⟨v5, hv5⟩ : ∃ W, v4.alloc (.cells #[.bool false, .bool false, .bool false, .int .i64 0, .int .i64 0, .int .u64 0, .slice none 0 0] 38) = W := ⟨_, rfl⟩
  have fr5 : Fr w v5 w.heap.size [.cells #[.int .i64 kd, .int .i64 o0, .int .i64 o1, .int .i64 o2, .int .i64 o3, .int .i64 o4, .int .i64 o5, .int .u32 wa, .int .u32 to, .slice A n c, .slice B m d] 29, .cells #[.int .i64 op, .int .i64 1, .int .i64 phase, .int .i64 old, .int .i64 since, .int .i64 left, .bool awoke, .bool starve, .int .i64 need, .bool front] 31, .cells #[.int .i64 0, .int .i64 0, .int .i64 0, .int .i64 0, .int .i64 0, .int .i64 0, .int .i64 0, .int .u32 0, .int .u32 0, .slice none 0 0, .slice none 0 0] 29, .cells #[.int .i64 0, .int .i64 0, .int .i64 0, .int .i64 0, .int .i64 0, .int .i64 0, .bool false, .bool false, .int .i64 0, .bool false] 31, .cells #[.bool false, .bool false, .bool false, .int .i64 0, .int .i64 0, .int .u64 0, .slice none 0 0] 38] := hv5 ▸ fr4.more z4 _
  have z5 : v5.heap.size = w.heap.size + 5 := by rw [← hv5, Fr.size1, z4]
  generalize hq : w.heap.size = q at *
  have FR := Lib.hid fr5
  clear fr1 fr2 fr3 fr4 fr5
  obtain ⟨x, hx⟩ : ∃ x, IntKind.i64.wrap (o5 - 1) = x := ⟨_, rfl⟩
  have HO : runlockW o0 o4 o5 ⟨op, 1, phase, old, since, left, awoke, starve, need, front⟩ = (if x = 0 then ((o0, o4, x), ⟨op, 2, phase, old, since, left, awoke, starve, need, front⟩, noA) else ((o0, o4, x), noF, doneA)) := by
    unfold runlockW
    rw [if_neg (show ¬ ((1 : Int) = 0) by decide), if_pos rfl, hx]
  by_cases hx0 : x = 0
  · have c0 : (x != 0) = false := by simp [hx0]
    have HE := Lib.hid (HO.trans (if_pos hx0))
    clear HO hx0
    go_enter Try.func27, Try.ntmps27
    obtain ⟨ac00, ac01, ac02, ac03, ac04, ac05, ac06, ac07, ac08, ac09, ac010⟩ := row11 (b := q) (FR.out.at 0 rfl rfl)
    have af06 : v5.frozen? ⟨q, 6, none⟩ = false := FR.out.frozen 0 6 rfl rfl
    obtain ⟨ac10, ac11, ac12, ac13, ac14, ac15, ac16, ac17, ac18, ac19⟩ := row10 (b := q + 1) (FR.out.at 1 rfl rfl)
    obtain ⟨w6p, hw6p⟩ : ∃ W, (v5.setCell ⟨q, 6, none⟩ (.int .i64 x)) = W := ⟨_, rfl⟩
    replace FR := Lib.hid (((FR.out.set 0 6 rfl rfl (.int .i64 x))).eqw hw6p)
    obtain ⟨bc00, bc01, bc02, bc03, bc04, bc05, bc06, bc07, bc08, bc09, bc010⟩ := row11 (b := q) (FR.out.at 0 rfl rfl)
    obtain ⟨bc10, bc11, bc12, bc13, bc14, bc15, bc16, bc17, bc18, bc19⟩ := row10 (b := q + 1) (FR.out.at 1 rfl rfl)
    have bf11 : w6p.frozen? ⟨q + 1, 1, none⟩ = false := FR.out.frozen 1 1 rfl rfl
    obtain ⟨w7p, hw7p⟩ : ∃ W, (w6p.setCell ⟨q + 1, 1, none⟩ (.int .i64 2)) = W := ⟨_, rfl⟩
    replace FR := Lib.hid (((FR.out.set 1 1 rfl rfl (.int .i64 2))).eqw hw7p)
    obtain ⟨cc00, cc01, cc02, cc03, cc04, cc05, cc06, cc07, cc08, cc09, cc010⟩ := row11 (b := q) (FR.out.at 0 rfl rfl)
    obtain ⟨cc10, cc11, cc12, cc13, cc14, cc15, cc16, cc17, cc18, cc19⟩ := row10 (b := q + 1) (FR.out.at 1 rfl rfl)
    go_wp2
    clear ac00 ac01 ac02 ac03 ac04 ac05 ac06 ac07 ac08 ac09 ac010 af06 ac10 ac11 ac12 ac13 ac14 ac15 ac16 ac17 ac18 ac19 bc00 bc01 bc02 bc03 bc04 bc05 bc06 bc07 bc08 bc09 bc010 bc10 bc11 bc12 bc13 bc14 bc15 bc16 bc17 bc18 bc19 bf11 cc00 cc01 cc02 cc03 cc04 cc05 cc06 cc07 cc08 cc09 cc010 cc10 cc11 cc12 cc13 cc14 cc15 cc16 cc17 cc18 cc19
    have HF0 := Lib.hid FR.out.drew
    obtain ⟨w8r, hw8r⟩ : ∃ W, w7p.drew.setCells (q + 2) 0 [.int .i64 kd, .int .i64 o0, .int .i64 o1, .int .i64 o2, .int .i64 o3, .int .i64 o4, .int .i64 x, .int .u32 wa, .int .u32 to, .slice A n c, .slice B m d] = W := ⟨_, rfl⟩
    have HF1 := Lib.hid ((HF0.out.all 2 rfl rfl (by rfl)).eqw hw8r)
    have hh1 := Lib.hid hw8r
    clear hw8r
    obtain ⟨w9r, hw9r⟩ : ∃ W, w8r.setCells (q + 3) 0 [.int .i64 op, .int .i64 2, .int .i64 phase, .int .i64 old, .int .i64 since, .int .i64 left, .bool awoke, .bool starve, .int .i64 need, .bool front] = W := ⟨_, rfl⟩
    have HF2 := Lib.hid ((HF1.out.all 3 rfl rfl (by rfl)).eqw hw9r)
    have hh2 := Lib.hid hw9r
    clear hw9r
    obtain ⟨w10r, hw10r⟩ : ∃ W, w9r.setCells (q + 4) 0 [.bool false, .bool false, .bool false, .int .i64 0, .int .i64 0, .int .u64 0, .slice none 0 0] = W := ⟨_, rfl⟩
    have HF3 := Lib.hid ((HF2.out.all 4 rfl rfl (by rfl)).eqw hw10r)
    have hh3 := Lib.hid hw10r
    clear hw10r
    refine wp_region_noPanic ?_
    refine wp_region_held_drew (S := (fun wv => Hid (wv.heap[q]? = some (.cells #[.int .i64 kd, .int .i64 o0, .int .i64 o1, .int .i64 o2, .int .i64 o3, .int .i64 o4, .int .i64 x, .int .u32 wa, .int .u32 to, .slice A n c, .slice B m d] 29) ∧ wv.heap[q + 1]? = some (.cells #[.int .i64 op, .int .i64 2, .int .i64 phase, .int .i64 old, .int .i64 since, .int .i64 left, .bool awoke, .bool starve, .int .i64 need, .bool front] 31)))) (by kernel_rfl) (Lib.hid (show w7p.drew.heap[q]? = some (.cells #[.int .i64 kd, .int .i64 o0, .int .i64 o1, .int .i64 o2, .int .i64 o3, .int .i64 o4, .int .i64 x, .int .u32 wa, .int .u32 to, .slice A n c, .slice B m d] 29) ∧ w7p.drew.heap[q + 1]? = some (.cells #[.int .i64 op, .int .i64 2, .int .i64 phase, .int .i64 old, .int .i64 since, .int .i64 left, .bool awoke, .bool starve, .int .i64 need, .bool front] 31) from ⟨HF0.out.blk 0 _ rfl, HF0.out.blk 1 _ rfl⟩)) (fun hS => ?_)
    refine wpAnyH_take (i := 0) (oi := ⟨some 23, .load 29 (.tmp 2), 29, "read.go:53", #[], none⟩) (v := .agg (([.int .i64 kd, .int .i64 o0, .int .i64 o1, .int .i64 o2, .int .i64 o3, .int .i64 o4, .int .i64 x, .int .u32 wa, .int .u32 to, .slice A n c, .slice B m d] : List Value)).toArray) rfl (by kernel_rfl) (by kernel_rfl) (by kernel_rfl) (fun _ _ _ h => h) (yieldsIf_load_mid (by rfl) _ _ (by rfl) (q) (0) (by rfl) (([.int .i64 kd, .int .i64 o0, .int .i64 o1, .int .i64 o2, .int .i64 o3, .int .i64 o4, .int .i64 x, .int .u32 wa, .int .u32 to, .slice A n c, .slice B m d] : List Value)) _ (fun wv hS => blk_rngl hS.out.1) Try.underlying29 (by rfl) (by kernel_rfl)) hS ?_
    try simp only [Act.put, List.setIfInBounds_toArray, List.set_cons_zero, List.set_cons_succ]
    refine wpAnyH_take (i := 1) (oi := ⟨some 24, .load 31 (.tmp 3), 31, "read.go:53", #[⟨3, .gcOnly .lateStores⟩], none⟩) (v := .agg (([.int .i64 op, .int .i64 2, .int .i64 phase, .int .i64 old, .int .i64 since, .int .i64 left, .bool awoke, .bool starve, .int .i64 need, .bool front] : List Value)).toArray) rfl (by kernel_rfl) (by kernel_rfl) (by kernel_rfl) (fun _ _ _ h => h) (yieldsIf_load_mid (by rfl) _ _ (by rfl) (q + 1) (0) (by rfl) (([.int .i64 op, .int .i64 2, .int .i64 phase, .int .i64 old, .int .i64 since, .int .i64 left, .bool awoke, .bool starve, .int .i64 need, .bool front] : List Value)) _ (fun wv hS => blk_rngl hS.out.2) Try.underlying31 (by rfl) (by kernel_rfl)) hS ?_
    try simp only [Act.put, List.setIfInBounds_toArray, List.set_cons_zero, List.set_cons_succ]
    refine wpAnyH_take (i := 2) (oi := ⟨some 25, .build 38 #[], 38, "read.go:53", #[⟨4, .gcOnly .lateStores⟩], none⟩) (v := ?_) rfl (by kernel_rfl) (by kernel_rfl) (by kernel_rfl) (fun _ _ _ h => h) (Or.inl ⟨by rfl, ?_⟩) hS ?_
    rotate_left
    · intro wv _; go_simp; try with_reducible rfl
    try simp only [Act.put, List.setIfInBounds_toArray, List.set_cons_zero, List.set_cons_succ]
    refine wpAnyH_ready (rs := [3]) (by kernel_rfl) (by simp) (AllReadyH.cons (o := ⟨none, .store 29 (.tmp 4) (.tmp 23), 0, "read.go:53", #[⟨0, .data⟩, ⟨0, .phase⟩, ⟨1, .textOnly .lateStores⟩, ⟨2, .textOnly .lateStores⟩], none⟩) rfl (fun K hK => ?_) AllReadyH.nil)
    refine op_storeS (by rfl) rfl rfl rfl (there_blk (HF0.out.blk 2 _ rfl) rfl) (by kernel_rfl) (by simp [Value.oneCell']) hh1.out ?_
    replace hS := Lib.hid (show w8r.heap[q]? = some (.cells #[.int .i64 kd, .int .i64 o0, .int .i64 o1, .int .i64 o2, .int .i64 o3, .int .i64 o4, .int .i64 x, .int .u32 wa, .int .u32 to, .slice A n c, .slice B m d] 29) ∧ w8r.heap[q + 1]? = some (.cells #[.int .i64 op, .int .i64 2, .int .i64 phase, .int .i64 old, .int .i64 since, .int .i64 left, .bool awoke, .bool starve, .int .i64 need, .bool front] 31) from ⟨HF1.out.blk 0 _ rfl, HF1.out.blk 1 _ rfl⟩)
    refine Shut.out hK _ _ hS (fun _ => ?_)
    clear hK K
    try simp only [Act.put, List.setIfInBounds_toArray, List.set_cons_zero, List.set_cons_succ]
    refine wpAnyH_ready (rs := [4]) (by kernel_rfl) (by simp) (AllReadyH.cons (o := ⟨none, .store 31 (.tmp 5) (.tmp 24), 0, "read.go:53", #[⟨1, .data⟩, ⟨3, .chain⟩, ⟨0, .phase⟩, ⟨1, .phase⟩, ⟨2, .textOnly .lateStores⟩, ⟨3, .phase⟩], none⟩) rfl (fun K hK => ?_) AllReadyH.nil)
    refine op_storeS (by rfl) rfl rfl rfl (there_blk (HF1.out.blk 3 _ rfl) rfl) (by kernel_rfl) (by simp [Value.oneCell']) hh2.out ?_
    replace hS := Lib.hid (show w9r.heap[q]? = some (.cells #[.int .i64 kd, .int .i64 o0, .int .i64 o1, .int .i64 o2, .int .i64 o3, .int .i64 o4, .int .i64 x, .int .u32 wa, .int .u32 to, .slice A n c, .slice B m d] 29) ∧ w9r.heap[q + 1]? = some (.cells #[.int .i64 op, .int .i64 2, .int .i64 phase, .int .i64 old, .int .i64 since, .int .i64 left, .bool awoke, .bool starve, .int .i64 need, .bool front] 31) from ⟨HF2.out.blk 0 _ rfl, HF2.out.blk 1 _ rfl⟩)
    refine Shut.out hK _ _ hS (fun _ => ?_)
    clear hK K
    try simp only [Act.put, List.setIfInBounds_toArray, List.set_cons_zero, List.set_cons_succ]
    refine wpAnyH_ready (rs := [5]) (by kernel_rfl) (by simp) (AllReadyH.cons (o := ⟨none, .store 38 (.tmp 6) (.tmp 25), 0, "read.go:53", #[⟨2, .data⟩, ⟨4, .chain⟩, ⟨0, .phase⟩, ⟨1, .phase⟩, ⟨2, .phase⟩, ⟨3, .phase⟩, ⟨4, .phase⟩], none⟩) rfl (fun K hK => ?_) AllReadyH.nil)
    refine op_storeS (by rfl) rfl rfl rfl (there_blk (HF2.out.blk 4 _ rfl) rfl) (by kernel_rfl) (by simp [Value.oneCell']) hh3.out ?_
    replace hS := Lib.hid (show w10r.heap[q]? = some (.cells #[.int .i64 kd, .int .i64 o0, .int .i64 o1, .int .i64 o2, .int .i64 o3, .int .i64 o4, .int .i64 x, .int .u32 wa, .int .u32 to, .slice A n c, .slice B m d] 29) ∧ w10r.heap[q + 1]? = some (.cells #[.int .i64 op, .int .i64 2, .int .i64 phase, .int .i64 old, .int .i64 since, .int .i64 left, .bool awoke, .bool starve, .int .i64 need, .bool front] 31) from ⟨HF3.out.blk 0 _ rfl, HF3.out.blk 1 _ rfl⟩)
    refine Shut.out hK _ _ hS (fun _ => ?_)
    clear hK K
    try simp only [Act.put, List.setIfInBounds_toArray, List.set_cons_zero, List.set_cons_succ]
    refine wpAnyH_done (by kernel_rfl) ?_ _
    refine NoPanic.normal ?_
    go_wp2
    refine bodyPost_ret (res_ccc Try.results27 (by rfl) (by rfl) (by rfl) (HF3.out.load 2 rfl rfl Try.underlying29 (by kernel_rfl)) (HF3.out.load 3 rfl rfl Try.underlying31 (by kernel_rfl)) (HF3.out.load 4 rfl rfl Try.underlying38 (by kernel_rfl))) rfl ?_
    replace FR := HF3
    rw [HE.out]
    exact ⟨rfl, FR.out.out⟩
  · have c0 : (x != 0) = true := by simp [hx0]
    have HE := Lib.hid (HO.trans (if_neg hx0))
    clear HO hx0
    go_enter Try.func27, Try.ntmps27
    obtain ⟨ac00, ac01, ac02, ac03, ac04, ac05, ac06, ac07, ac08, ac09, ac010⟩ := row11 (b := q) (FR.out.at 0 rfl rfl)
    have af06 : v5.frozen? ⟨q, 6, none⟩ = false := FR.out.frozen 0 6 rfl rfl
    obtain ⟨ac10, ac11, ac12, ac13, ac14, ac15, ac16, ac17, ac18, ac19⟩ := row10 (b := q + 1) (FR.out.at 1 rfl rfl)
    obtain ⟨w6p, hw6p⟩ : ∃ W, (v5.setCell ⟨q, 6, none⟩ (.int .i64 x)) = W := ⟨_, rfl⟩
    replace FR := Lib.hid (((FR.out.set 0 6 rfl rfl (.int .i64 x))).eqw hw6p)
    obtain ⟨bc00, bc01, bc02, bc03, bc04, bc05, bc06, bc07, bc08, bc09, bc010⟩ := row11 (b := q) (FR.out.at 0 rfl rfl)
    obtain ⟨bc10, bc11, bc12, bc13, bc14, bc15, bc16, bc17, bc18, bc19⟩ := row10 (b := q + 1) (FR.out.at 1 rfl rfl)
    go_wp2_with fail
    refine (stDone_any _ _ _ _ _ _ _ _ _ _ _ _ _ _ _ _).mono ?_
    rintro e w7 ⟨rfl, hb⟩
    clear ac00 ac01 ac02 ac03 ac04 ac05 ac06 ac07 ac08 ac09 ac010 af06 ac10 ac11 ac12 ac13 ac14 ac15 ac16 ac17 ac18 ac19 bc00 bc01 bc02 bc03 bc04 bc05 bc06 bc07 bc08 bc09 bc010 bc10 bc11 bc12 bc13 bc14 bc15 bc16 bc17 bc18 bc19
    clear hw6p
    replace FR := Lib.hid (FR.out.step hb)
    clear hb
    obtain ⟨mc20, mc21, mc22, mc23, mc24, mc25, mc26, mc27, mc28, mc29, mc210⟩ := row11 (b := q + 2) (FR.out.at 2 rfl rfl)
    obtain ⟨mf20, mf21, mf22, mf23, mf24, mf25, mf26, mf27, mf28, mf29, mf210⟩ := frz11 (b := q + 2) (FR.out.at 2 rfl rfl)
    obtain ⟨w7r, hw7r⟩ : ∃ W, (((((((((((w7.setCell ⟨q + 2, 0, none⟩ (.int .i64 kd)).setCell ⟨q + 2, 1, none⟩ (.int .i64 o0)).setCell ⟨q + 2, 2, none⟩ (.int .i64 o1)).setCell ⟨q + 2, 3, none⟩ (.int .i64 o2)).setCell ⟨q + 2, 4, none⟩ (.int .i64 o3)).setCell ⟨q + 2, 5, none⟩ (.int .i64 o4)).setCell ⟨q + 2, 6, none⟩ (.int .i64 x)).setCell ⟨q + 2, 7, none⟩ (.int .u32 wa)).setCell ⟨q + 2, 8, none⟩ (.int .u32 to)).setCell ⟨q + 2, 9, none⟩ (.slice A n c)).setCell ⟨q + 2, 10, none⟩ (.slice B m d)) = W := ⟨_, rfl⟩
    replace FR := Lib.hid ((FR.out.all 2 (vs := [.int .i64 kd, .int .i64 o0, .int .i64 o1, .int .i64 o2, .int .i64 o3, .int .i64 o4, .int .i64 x, .int .u32 wa, .int .u32 to, .slice A n c, .slice B m d]) rfl rfl rfl).eqw hw7r)
    obtain ⟨nc30, nc31, nc32, nc33, nc34, nc35, nc36, nc37, nc38, nc39⟩ := row10 (b := q + 3) (FR.out.at 3 rfl rfl)
    obtain ⟨nf30, nf31, nf32, nf33, nf34, nf35, nf36, nf37, nf38, nf39⟩ := frz10 (b := q + 3) (FR.out.at 3 rfl rfl)
    obtain ⟨w8r, hw8r⟩ : ∃ W, ((((((((((w7r.setCell ⟨q + 3, 0, none⟩ (.int .i64 0)).setCell ⟨q + 3, 1, none⟩ (.int .i64 0)).setCell ⟨q + 3, 2, none⟩ (.int .i64 0)).setCell ⟨q + 3, 3, none⟩ (.int .i64 0)).setCell ⟨q + 3, 4, none⟩ (.int .i64 0)).setCell ⟨q + 3, 5, none⟩ (.int .i64 0)).setCell ⟨q + 3, 6, none⟩ (.bool false)).setCell ⟨q + 3, 7, none⟩ (.bool false)).setCell ⟨q + 3, 8, none⟩ (.int .i64 0)).setCell ⟨q + 3, 9, none⟩ (.bool false)) = W := ⟨_, rfl⟩
    replace FR := Lib.hid ((FR.out.all 3 (vs := [.int .i64 0, .int .i64 0, .int .i64 0, .int .i64 0, .int .i64 0, .int .i64 0, .bool false, .bool false, .int .i64 0, .bool false]) rfl rfl rfl).eqw hw8r)
    obtain ⟨oc40, oc41, oc42, oc43, oc44, oc45, oc46⟩ := row7 (b := q + 4) (FR.out.at 4 rfl rfl)
    obtain ⟨of40, of41, of42, of43, of44, of45, of46⟩ := frz7 (b := q + 4) (FR.out.at 4 rfl rfl)
    obtain ⟨w9r, hw9r⟩ : ∃ W, (((((((w8r.setCell ⟨q + 4, 0, none⟩ (.bool true)).setCell ⟨q + 4, 1, none⟩ (.bool false)).setCell ⟨q + 4, 2, none⟩ (.bool false)).setCell ⟨q + 4, 3, none⟩ (.int .i64 0)).setCell ⟨q + 4, 4, none⟩ (.int .i64 0)).setCell ⟨q + 4, 5, none⟩ (.int .u64 0)).setCell ⟨q + 4, 6, none⟩ (.slice none 0 0)) = W := ⟨_, rfl⟩
    replace FR := Lib.hid ((FR.out.all 4 (vs := [.bool true, .bool false, .bool false, .int .i64 0, .int .i64 0, .int .u64 0, .slice none 0 0]) rfl rfl rfl).eqw hw9r)
    go_wp2
    refine bodyPost_ret (res_ccc Try.results27 (by rfl) (by rfl) (by rfl) (FR.out.load 2 rfl rfl Try.underlying29 (by kernel_rfl)) (FR.out.load 3 rfl rfl Try.underlying31 (by kernel_rfl)) (FR.out.load 4 rfl rfl Try.underlying38 (by kernel_rfl))) rfl ?_
    rw [HE.out]
    exact ⟨rfl, FR.out.out⟩
set_option maxRecDepth 100000 in
set_option maxHeartbeats 16000000 in
theorem rwToWrite_any (kd o0 o1 o2 o3 o4 o5 wa to : Int) (A : Option Addr) (n c : Nat) (B : Option Addr) (m d : Nat) (f : MFr) (hs : f.stage = 1) (now pat : Int) (w : World) : Calls Try.prog 32 #[obV kd o0 o1 o2 o3 o4 o5 wa to A n c B m d, frV f] w (StepR w kd o1 o2 o3 wa to A n c B m d (wlockW o0 o4 o5 f now pat)) := by
  obtain ⟨op, stage, phase, old, since, left, awoke, starve, need, front⟩ := f
  have hs2 : stage = 1 := hs
  subst hs2
  clear hs
  unfold obV frV frC
  simp only
  obtain ⟨v1, hv1⟩ : ∃ W, w.alloc (.cells #[.int .i64 kd, .int .i64 o0, .int .i64 o1, .int .i64 o2, .int .i64 o3, .int .i64 o4, .int .i64 o5, .int .u32 wa, .int .u32 to, .slice A n c, .slice B m d] 29) = W := ⟨_, rfl⟩
  have fr1 : Fr w v1 w.heap.size [.cells #[.int .i64 kd, .int .i64 o0, .int .i64 o1, .int .i64 o2, .int .i64 o3, .int .i64 o4, .int .i64 o5, .int .u32 wa, .int .u32 to, .slice A n c, .slice B m d] 29] := hv1 ▸ Fr.first w _
  have z1 : v1.heap.size = w.heap.size + 1 := by rw [← hv1, Fr.size1]
  obtain ⟨v2, hv2⟩ : ∃ W, v1.alloc (.cells #[.int .i64 op, .int .i64 1, .int .i64 phase, .int .i64 old, .int .i64 since, .int .i64 left, .bool awoke, .bool starve, .int .i64 need, .bool front] 31) = W := ⟨_, rfl⟩
  have fr2 : Fr w v2 w.heap.size [.cells #[.int .i64 kd, .int .i64 o0, .int .i64 o1, .int .i64 o2, .int .i64 o3, .int .i64 o4, .int .i64 o5, .int .u32 wa, .int .u32 to, .slice A n c, .slice B m d] 29, .cells #[.int .i64 op, .int .i64 1, .int .i64 phase, .int .i64 old, .int .i64 since, .int .i64 left, .bool awoke, .bool starve, .int .i64 need, .bool front] 31] := hv2 ▸ fr1.more z1 _
  have z2 : v2.heap.size = w.heap.size + 2 := by rw [← hv2, Fr.size1, z1]
  obtain ⟨v3, hv3⟩ : ∃ W, v2.alloc (.cells #[.int .i64 0, .int .i64 0, .int .i64 0, .int .i64 0, .int .i64 0, .int .i64 0, .int .i64 0, .int .u32 0, .int .u32 0, .slice none 0 0, .slice none 0 0] 29) = W := ⟨_, rfl⟩
  have fr3 : Fr w v3 w.heap.size [.cells #[.int .i64 kd, .int .i64 o0, .int .i64 o1, .int .i64 o2, .int .i64 o3, .int .i64 o4, .int .i64 o5, .int .u32 wa, .int .u32 to, .slice A n c, .slice B m d] 29, .cells #[.int .i64 op, .int .i64 1, .int .i64 phase, .int .i64 old, .int .i64 since, .int .i64 left, .bool awoke, .bool starve, .int .i64 need, .bool front] 31, .cells #[.int .i64 0, .int .i64 0, .int .i64 0, .int .i64 0, .int .i64 0, .int .i64 0, .int .i64 0, .int .u32 0, .int .u32 0, .slice none 0 0, .slice none 0 0] 29] := hv3 ▸ fr2.more z2 _
  have z3 : v3.heap.size = w.heap.size + 3 := by rw [← hv3, Fr.size1, z2]
  obtain ⟨v4, hv4⟩ : ∃ W, v3.alloc (.cells #[.int .i64 0, .int .i64 0, .int .i64 0, .int .i64 0, .int .i64 0, .int .i64 0, .bool false, .bool false, .int .i64 0, .bool false] 31) = W := ⟨_, rfl⟩
  have fr4 : Fr w v4 w.heap.size [.cells #[.int .i64 kd, .int .i64 o0, .int .i64 o1, .int .i64 o2, .int .i64 o3, .int .i64 o4, .int .i64 o5, .int .u32 wa, .int .u32 to, .slice A n c, .slice B m d] 29, .cells #[.int .i64 op, .int .i64 1, .int .i64 phase, .int .i64 old, .int .i64 since, .int .i64 left, .bool awoke, .bool starve, .int .i64 need, .bool front] 31, .cells #[.int .i64 0, .int .i64 0, .int .i64 0, .int .i64 0, .int .i64 0, .int .i64 0, .int .i64 0, .int .u32 0, .int .u32 0, .slice none 0 0, .slice none 0 0] 29, .cells #[.int .i64 0, .int .i64 0, .int .i64 0, .int .i64 0, .int .i64 0, .int .i64 0, .bool false, .bool false, .int .i64 0, .bool false] 31] := hv4 ▸ fr3.more z3 _
  have z4 : v4.heap.size = w.heap.size + 4 := by rw [← hv4, Fr.size1, z3]
  obtain ⟨v5, hv5⟩ : ∃ W, v4.alloc (.cells #[.bool false, .bool false, .bool false, .int .i64 0, .int .i64 0, .int .u64 0, .slice none 0 0] 38) = W := ⟨_, rfl⟩
  have fr5 : Fr w v5 w.heap.size [.cells #[.int .i64 kd, .int .i64 o0, .int .i64 o1, .int .i64 o2, .int .i64 o3, .int .i64 o4, .int .i64 o5, .int .u32 wa, .int .u32 to, .slice A n c, .slice B m d] 29, .cells #[.int .i64 op, .int .i64 1, .int .i64 phase, .int .i64 old, .int .i64 since, .int .i64 left, .bool awoke, .bool starve, .int .i64 need, .bool front] 31, .cells #[.int .i64 0, .int .i64 0, .int .i64 0, .int .i64 0, .int .i64 0, .int .i64 0, .int .i64 0, .int .u32 0, .int .u32 0, .slice none 0 0, .slice none 0 0] 29, .cells #[.int .i64 0, .int .i64 0, .int .i64 0, .int .i64 0, .int .i64 0, .int .i64 0, .bool false, .bool false, .int .i64 0, .bool false] 31, .cells #[.bool false, .bool false, .bool false, .int .i64 0, .int .i64 0, .int .u64 0, .slice none 0 0] 38] := hv5 ▸ fr4.more z4 _
  have z5 : v5.heap.size = w.heap.size + 5 := by rw [← hv5, Fr.size1, z4]
  generalize hq : w.heap.size = q at *
  have FR := Lib.hid fr5
  clear fr1 fr2 fr3 fr4 fr5
  obtain ⟨x, hx⟩ : ∃ x, IntKind.i64.wrap (o4 - 1048576) = x := ⟨_, rfl⟩
  have HO : wlockW o0 o4 o5 ⟨op, 1, phase, old, since, left, awoke, starve, need, front⟩ now pat = (if o4 = 0 then ((o0, x, o5), noF, doneA) else ((o0, x, o5), ⟨op, 2, phase, old, since, o4, awoke, starve, need, front⟩, noA)) := by
    unfold wlockW
    rw [if_neg (show ¬ ((1 : Int) = 0) by decide), if_pos rfl, hx]
  by_cases h0 : o4 = 0
  · have c0 : (o4 == 0) = true := by simp [h0]
    have HE := Lib.hid (HO.trans (if_pos h0))
    clear HO h0
    go_enter Try.func32, Try.ntmps32
    obtain ⟨ac00, ac01, ac02, ac03, ac04, ac05, ac06, ac07, ac08, ac09, ac010⟩ := row11 (b := q) (FR.out.at 0 rfl rfl)
    obtain ⟨ac10, ac11, ac12, ac13, ac14, ac15, ac16, ac17, ac18, ac19⟩ := row10 (b := q + 1) (FR.out.at 1 rfl rfl)
    have af15 : v5.frozen? ⟨q + 1, 5, none⟩ = false := FR.out.frozen 1 5 rfl rfl
    obtain ⟨w6p, hw6p⟩ : ∃ W, (v5.setCell ⟨q + 1, 5, none⟩ (.int .i64 o4)) = W := ⟨_, rfl⟩
    replace FR := Lib.hid (((FR.out.set 1 5 rfl rfl (.int .i64 o4))).eqw hw6p)
    obtain ⟨bc00, bc01, bc02, bc03, bc04, bc05, bc06, bc07, bc08, bc09, bc010⟩ := row11 (b := q) (FR.out.at 0 rfl rfl)
    have bf05 : w6p.frozen? ⟨q, 5, none⟩ = false := FR.out.frozen 0 5 rfl rfl
    obtain ⟨bc10, bc11, bc12, bc13, bc14, bc15, bc16, bc17, bc18, bc19⟩ := row10 (b := q + 1) (FR.out.at 1 rfl rfl)
    obtain ⟨w7p, hw7p⟩ : ∃ W, (w6p.setCell ⟨q, 5, none⟩ (.int .i64 x)) = W := ⟨_, rfl⟩
    replace FR := Lib.hid (((FR.out.set 0 5 rfl rfl (.int .i64 x))).eqw hw7p)
    obtain ⟨cc00, cc01, cc02, cc03, cc04, cc05, cc06, cc07, cc08, cc09, cc010⟩ := row11 (b := q) (FR.out.at 0 rfl rfl)
    obtain ⟨cc10, cc11, cc12, cc13, cc14, cc15, cc16, cc17, cc18, cc19⟩ := row10 (b := q + 1) (FR.out.at 1 rfl rfl)
    go_wp2_with fail
    refine (stDone_any _ _ _ _ _ _ _ _ _ _ _ _ _ _ _ _).mono ?_
    rintro e w7 ⟨rfl, hb⟩
    clear ac00 ac01 ac02 ac03 ac04 ac05 ac06 ac07 ac08 ac09 ac010 ac10 ac11 ac12 ac13 ac14 ac15 ac16 ac17 ac18 ac19 af15 bc00 bc01 bc02 bc03 bc04 bc05 bc06 bc07 bc08 bc09 bc010 bf05 bc10 bc11 bc12 bc13 bc14 bc15 bc16 bc17 bc18 bc19 cc00 cc01 cc02 cc03 cc04 cc05 cc06 cc07 cc08 cc09 cc010 cc10 cc11 cc12 cc13 cc14 cc15 cc16 cc17 cc18 cc19
    clear hw6p hw7p
    replace FR := Lib.hid (FR.out.step hb)
    clear hb
    obtain ⟨mc20, mc21, mc22, mc23, mc24, mc25, mc26, mc27, mc28, mc29, mc210⟩ := row11 (b := q + 2) (FR.out.at 2 rfl rfl)
    obtain ⟨mf20, mf21, mf22, mf23, mf24, mf25, mf26, mf27, mf28, mf29, mf210⟩ := frz11 (b := q + 2) (FR.out.at 2 rfl rfl)
    obtain ⟨w8r, hw8r⟩ : ∃ W, (((((((((((w7.setCell ⟨q + 2, 0, none⟩ (.int .i64 kd)).setCell ⟨q + 2, 1, none⟩ (.int .i64 o0)).setCell ⟨q + 2, 2, none⟩ (.int .i64 o1)).setCell ⟨q + 2, 3, none⟩ (.int .i64 o2)).setCell ⟨q + 2, 4, none⟩ (.int .i64 o3)).setCell ⟨q + 2, 5, none⟩ (.int .i64 x)).setCell ⟨q + 2, 6, none⟩ (.int .i64 o5)).setCell ⟨q + 2, 7, none⟩ (.int .u32 wa)).setCell ⟨q + 2, 8, none⟩ (.int .u32 to)).setCell ⟨q + 2, 9, none⟩ (.slice A n c)).setCell ⟨q + 2, 10, none⟩ (.slice B m d)) = W := ⟨_, rfl⟩
    replace FR := Lib.hid ((FR.out.all 2 (vs := [.int .i64 kd, .int .i64 o0, .int .i64 o1, .int .i64 o2, .int .i64 o3, .int .i64 x, .int .i64 o5, .int .u32 wa, .int .u32 to, .slice A n c, .slice B m d]) rfl rfl rfl).eqw hw8r)
    obtain ⟨nc30, nc31, nc32, nc33, nc34, nc35, nc36, nc37, nc38, nc39⟩ := row10 (b := q + 3) (FR.out.at 3 rfl rfl)
    obtain ⟨nf30, nf31, nf32, nf33, nf34, nf35, nf36, nf37, nf38, nf39⟩ := frz10 (b := q + 3) (FR.out.at 3 rfl rfl)
    obtain ⟨w9r, hw9r⟩ : ∃ W, ((((((((((w8r.setCell ⟨q + 3, 0, none⟩ (.int .i64 0)).setCell ⟨q + 3, 1, none⟩ (.int .i64 0)).setCell ⟨q + 3, 2, none⟩ (.int .i64 0)).setCell ⟨q + 3, 3, none⟩ (.int .i64 0)).setCell ⟨q + 3, 4, none⟩ (.int .i64 0)).setCell ⟨q + 3, 5, none⟩ (.int .i64 0)).setCell ⟨q + 3, 6, none⟩ (.bool false)).setCell ⟨q + 3, 7, none⟩ (.bool false)).setCell ⟨q + 3, 8, none⟩ (.int .i64 0)).setCell ⟨q + 3, 9, none⟩ (.bool false)) = W := ⟨_, rfl⟩
    replace FR := Lib.hid ((FR.out.all 3 (vs := [.int .i64 0, .int .i64 0, .int .i64 0, .int .i64 0, .int .i64 0, .int .i64 0, .bool false, .bool false, .int .i64 0, .bool false]) rfl rfl rfl).eqw hw9r)
    obtain ⟨oc40, oc41, oc42, oc43, oc44, oc45, oc46⟩ := row7 (b := q + 4) (FR.out.at 4 rfl rfl)
    obtain ⟨of40, of41, of42, of43, of44, of45, of46⟩ := frz7 (b := q + 4) (FR.out.at 4 rfl rfl)
    obtain ⟨w10r, hw10r⟩ : ∃ W, (((((((w9r.setCell ⟨q + 4, 0, none⟩ (.bool true)).setCell ⟨q + 4, 1, none⟩ (.bool false)).setCell ⟨q + 4, 2, none⟩ (.bool false)).setCell ⟨q + 4, 3, none⟩ (.int .i64 0)).setCell ⟨q + 4, 4, none⟩ (.int .i64 0)).setCell ⟨q + 4, 5, none⟩ (.int .u64 0)).setCell ⟨q + 4, 6, none⟩ (.slice none 0 0)) = W := ⟨_, rfl⟩
    replace FR := Lib.hid ((FR.out.all 4 (vs := [.bool true, .bool false, .bool false, .int .i64 0, .int .i64 0, .int .u64 0, .slice none 0 0]) rfl rfl rfl).eqw hw10r)
    go_wp2
    refine bodyPost_ret (res_ccc Try.results32 (by rfl) (by rfl) (by rfl) (FR.out.load 2 rfl rfl Try.underlying29 (by kernel_rfl)) (FR.out.load 3 rfl rfl Try.underlying31 (by kernel_rfl)) (FR.out.load 4 rfl rfl Try.underlying38 (by kernel_rfl))) rfl ?_
    rw [HE.out]
    exact ⟨rfl, FR.out.out⟩
  · have c0 : (o4 == 0) = false := by simp [h0]
    have HE := Lib.hid (HO.trans (if_neg h0))
    clear HO h0
    go_enter Try.func32, Try.ntmps32
    obtain ⟨ac00, ac01, ac02, ac03, ac04, ac05, ac06, ac07, ac08, ac09, ac010⟩ := row11 (b := q) (FR.out.at 0 rfl rfl)
    obtain ⟨ac10, ac11, ac12, ac13, ac14, ac15, ac16, ac17, ac18, ac19⟩ := row10 (b := q + 1) (FR.out.at 1 rfl rfl)
    have af15 : v5.frozen? ⟨q + 1, 5, none⟩ = false := FR.out.frozen 1 5 rfl rfl
    obtain ⟨w6p, hw6p⟩ : ∃ W, (v5.setCell ⟨q + 1, 5, none⟩ (.int .i64 o4)) = W := ⟨_, rfl⟩
    replace FR := Lib.hid (((FR.out.set 1 5 rfl rfl (.int .i64 o4))).eqw hw6p)
    obtain ⟨bc00, bc01, bc02, bc03, bc04, bc05, bc06, bc07, bc08, bc09, bc010⟩ := row11 (b := q) (FR.out.at 0 rfl rfl)
    have bf05 : w6p.frozen? ⟨q, 5, none⟩ = false := FR.out.frozen 0 5 rfl rfl
    obtain ⟨bc10, bc11, bc12, bc13, bc14, bc15, bc16, bc17, bc18, bc19⟩ := row10 (b := q + 1) (FR.out.at 1 rfl rfl)
    obtain ⟨w7p, hw7p⟩ : ∃ W, (w6p.setCell ⟨q, 5, none⟩ (.int .i64 x)) = W := ⟨_, rfl⟩
    replace FR := Lib.hid (((FR.out.set 0 5 rfl rfl (.int .i64 x))).eqw hw7p)
    obtain ⟨cc00, cc01, cc02, cc03, cc04, cc05, cc06, cc07, cc08, cc09, cc010⟩ := row11 (b := q) (FR.out.at 0 rfl rfl)
    obtain ⟨cc10, cc11, cc12, cc13, cc14, cc15, cc16, cc17, cc18, cc19⟩ := row10 (b := q + 1) (FR.out.at 1 rfl rfl)
    have cf11 : w7p.frozen? ⟨q + 1, 1, none⟩ = false := FR.out.frozen 1 1 rfl rfl
    obtain ⟨w8p, hw8p⟩ : ∃ W, (w7p.setCell ⟨q + 1, 1, none⟩ (.int .i64 2)) = W := ⟨_, rfl⟩
    replace FR := Lib.hid (((FR.out.set 1 1 rfl rfl (.int .i64 2))).eqw hw8p)
    obtain ⟨dc00, dc01, dc02, dc03, dc04, dc05, dc06, dc07, dc08, dc09, dc010⟩ := row11 (b := q) (FR.out.at 0 rfl rfl)
    obtain ⟨dc10, dc11, dc12, dc13, dc14, dc15, dc16, dc17, dc18, dc19⟩ := row10 (b := q + 1) (FR.out.at 1 rfl rfl)
    go_wp2
    clear ac00 ac01 ac02 ac03 ac04 ac05 ac06 ac07 ac08 ac09 ac010 ac10 ac11 ac12 ac13 ac14 ac15 ac16 ac17 ac18 ac19 af15 bc00 bc01 bc02 bc03 bc04 bc05 bc06 bc07 bc08 bc09 bc010 bf05 bc10 bc11 bc12 bc13 bc14 bc15 bc16 bc17 bc18 bc19 cc00 cc01 cc02 cc03 cc04 cc05 cc06 cc07 cc08 cc09 cc010 cc10 cc11 cc12 cc13 cc14 cc15 cc16 cc17 cc18 cc19 cf11 dc00 dc01 dc02 dc03 dc04 dc05 dc06 dc07 dc08 dc09 dc010 dc10 dc11 dc12 dc13 dc14 dc15 dc16 dc17 dc18 dc19
    have HF0 := Lib.hid FR.out.drew
    obtain ⟨w9r, hw9r⟩ : ∃ W, w8p.drew.setCells (q + 2) 0 [.int .i64 kd, .int .i64 o0, .int .i64 o1, .int .i64 o2, .int .i64 o3, .int .i64 x, .int .i64 o5, .int .u32 wa, .int .u32 to, .slice A n c, .slice B m d] = W := ⟨_, rfl⟩
    have HF1 := Lib.hid ((HF0.out.all 2 rfl rfl (by rfl)).eqw hw9r)
    have hh1 := Lib.hid hw9r
    clear hw9r
    obtain ⟨w10r, hw10r⟩ : ∃ W, w9r.setCells (q + 3) 0 [.int .i64 op, .int .i64 2, .int .i64 phase, .int .i64 old, .int .i64 since, .int .i64 o4, .bool awoke, .bool starve, .int .i64 need, .bool front] = W := ⟨_, rfl⟩
    have HF2 := Lib.hid ((HF1.out.all 3 rfl rfl (by rfl)).eqw hw10r)
    have hh2 := Lib.hid hw10r
    clear hw10r
    obtain ⟨w11r, hw11r⟩ : ∃ W, w10r.setCells (q + 4) 0 [.bool false, .bool false, .bool false, .int .i64 0, .int .i64 0, .int .u64 0, .slice none 0 0] = W := ⟨_, rfl⟩
    have HF3 := Lib.hid ((HF2.out.all 4 rfl rfl (by rfl)).eqw hw11r)
    have hh3 := Lib.hid hw11r
    clear hw11r
    refine wp_region_noPanic ?_
    refine wp_region_held_drew (S := (fun wv => Hid (wv.heap[q]? = some (.cells #[.int .i64 kd, .int .i64 o0, .int .i64 o1, .int .i64 o2, .int .i64 o3, .int .i64 x, .int .i64 o5, .int .u32 wa, .int .u32 to, .slice A n c, .slice B m d] 29) ∧ wv.heap[q + 1]? = some (.cells #[.int .i64 op, .int .i64 2, .int .i64 phase, .int .i64 old, .int .i64 since, .int .i64 o4, .bool awoke, .bool starve, .int .i64 need, .bool front] 31)))) (by kernel_rfl) (Lib.hid (show w8p.drew.heap[q]? = some (.cells #[.int .i64 kd, .int .i64 o0, .int .i64 o1, .int .i64 o2, .int .i64 o3, .int .i64 x, .int .i64 o5, .int .u32 wa, .int .u32 to, .slice A n c, .slice B m d] 29) ∧ w8p.drew.heap[q + 1]? = some (.cells #[.int .i64 op, .int .i64 2, .int .i64 phase, .int .i64 old, .int .i64 since, .int .i64 o4, .bool awoke, .bool starve, .int .i64 need, .bool front] 31) from ⟨HF0.out.blk 0 _ rfl, HF0.out.blk 1 _ rfl⟩)) (fun hS => ?_)
    refine wpAnyH_take (i := 0) (oi := ⟨some 26, .load 29 (.tmp 2), 29, "write.go:43", #[], none⟩) (v := .agg (([.int .i64 kd, .int .i64 o0, .int .i64 o1, .int .i64 o2, .int .i64 o3, .int .i64 x, .int .i64 o5, .int .u32 wa, .int .u32 to, .slice A n c, .slice B m d] : List Value)).toArray) rfl (by kernel_rfl) (by kernel_rfl) (by kernel_rfl) (fun _ _ _ h => h) (yieldsIf_load_mid (by rfl) _ _ (by rfl) (q) (0) (by rfl) (([.int .i64 kd, .int .i64 o0, .int .i64 o1, .int .i64 o2, .int .i64 o3, .int .i64 x, .int .i64 o5, .int .u32 wa, .int .u32 to, .slice A n c, .slice B m d] : List Value)) _ (fun wv hS => blk_rngl hS.out.1) Try.underlying29 (by rfl) (by kernel_rfl)) hS ?_
    try simp only [Act.put, List.setIfInBounds_toArray, List.set_cons_zero, List.set_cons_succ]
    refine wpAnyH_take (i := 1) (oi := ⟨some 27, .load 31 (.tmp 3), 31, "write.go:43", #[⟨3, .gcOnly .lateStores⟩], none⟩) (v := .agg (([.int .i64 op, .int .i64 2, .int .i64 phase, .int .i64 old, .int .i64 since, .int .i64 o4, .bool awoke, .bool starve, .int .i64 need, .bool front] : List Value)).toArray) rfl (by kernel_rfl) (by kernel_rfl) (by kernel_rfl) (fun _ _ _ h => h) (yieldsIf_load_mid (by rfl) _ _ (by rfl) (q + 1) (0) (by rfl) (([.int .i64 op, .int .i64 2, .int .i64 phase, .int .i64 old, .int .i64 since, .int .i64 o4, .bool awoke, .bool starve, .int .i64 need, .bool front] : List Value)) _ (fun wv hS => blk_rngl hS.out.2) Try.underlying31 (by rfl) (by kernel_rfl)) hS ?_
    try simp only [Act.put, List.setIfInBounds_toArray, List.set_cons_zero, List.set_cons_succ]
    refine wpAnyH_take (i := 2) (oi := ⟨some 28, .build 38 #[], 38, "write.go:43", #[⟨4, .gcOnly .lateStores⟩], none⟩) (v := ?_) rfl (by kernel_rfl) (by kernel_rfl) (by kernel_rfl) (fun _ _ _ h => h) (Or.inl ⟨by rfl, ?_⟩) hS ?_
    rotate_left
    · intro wv _; go_simp; try with_reducible rfl
    try simp only [Act.put, List.setIfInBounds_toArray, List.set_cons_zero, List.set_cons_succ]
    refine wpAnyH_ready (rs := [3]) (by kernel_rfl) (by simp) (AllReadyH.cons (o := ⟨none, .store 29 (.tmp 4) (.tmp 26), 0, "write.go:43", #[⟨0, .data⟩, ⟨0, .phase⟩, ⟨1, .textOnly .lateStores⟩, ⟨2, .textOnly .lateStores⟩], none⟩) rfl (fun K hK => ?_) AllReadyH.nil)
    refine op_storeS (by rfl) rfl rfl rfl (there_blk (HF0.out.blk 2 _ rfl) rfl) (by kernel_rfl) (by simp [Value.oneCell']) hh1.out ?_
    replace hS := Lib.hid (show w9r.heap[q]? = some (.cells #[.int .i64 kd, .int .i64 o0, .int .i64 o1, .int .i64 o2, .int .i64 o3, .int .i64 x, .int .i64 o5, .int .u32 wa, .int .u32 to, .slice A n c, .slice B m d] 29) ∧ w9r.heap[q + 1]? = some (.cells #[.int .i64 op, .int .i64 2, .int .i64 phase, .int .i64 old, .int .i64 since, .int .i64 o4, .bool awoke, .bool starve, .int .i64 need, .bool front] 31) from ⟨HF1.out.blk 0 _ rfl, HF1.out.blk 1 _ rfl⟩)
    refine Shut.out hK _ _ hS (fun _ => ?_)
    clear hK K
    try simp only [Act.put, List.setIfInBounds_toArray, List.set_cons_zero, List.set_cons_succ]
    refine wpAnyH_ready (rs := [4]) (by kernel_rfl) (by simp) (AllReadyH.cons (o := ⟨none, .store 31 (.tmp 5) (.tmp 27), 0, "write.go:43", #[⟨1, .data⟩, ⟨3, .chain⟩, ⟨0, .phase⟩, ⟨1, .phase⟩, ⟨2, .textOnly .lateStores⟩, ⟨3, .phase⟩], none⟩) rfl (fun K hK => ?_) AllReadyH.nil)
    refine op_storeS (by rfl) rfl rfl rfl (there_blk (HF1.out.blk 3 _ rfl) rfl) (by kernel_rfl) (by simp [Value.oneCell']) hh2.out ?_
    replace hS := Lib.hid (show w10r.heap[q]? = some (.cells #[.int .i64 kd, .int .i64 o0, .int .i64 o1, .int .i64 o2, .int .i64 o3, .int .i64 x, .int .i64 o5, .int .u32 wa, .int .u32 to, .slice A n c, .slice B m d] 29) ∧ w10r.heap[q + 1]? = some (.cells #[.int .i64 op, .int .i64 2, .int .i64 phase, .int .i64 old, .int .i64 since, .int .i64 o4, .bool awoke, .bool starve, .int .i64 need, .bool front] 31) from ⟨HF2.out.blk 0 _ rfl, HF2.out.blk 1 _ rfl⟩)
    refine Shut.out hK _ _ hS (fun _ => ?_)
    clear hK K
    try simp only [Act.put, List.setIfInBounds_toArray, List.set_cons_zero, List.set_cons_succ]
    refine wpAnyH_ready (rs := [5]) (by kernel_rfl) (by simp) (AllReadyH.cons (o := ⟨none, .store 38 (.tmp 6) (.tmp 28), 0, "write.go:43", #[⟨2, .data⟩, ⟨4, .chain⟩, ⟨0, .phase⟩, ⟨1, .phase⟩, ⟨2, .phase⟩, ⟨3, .phase⟩, ⟨4, .phase⟩], none⟩) rfl (fun K hK => ?_) AllReadyH.nil)
    refine op_storeS (by rfl) rfl rfl rfl (there_blk (HF2.out.blk 4 _ rfl) rfl) (by kernel_rfl) (by simp [Value.oneCell']) hh3.out ?_
    replace hS := Lib.hid (show w11r.heap[q]? = some (.cells #[.int .i64 kd, .int .i64 o0, .int .i64 o1, .int .i64 o2, .int .i64 o3, .int .i64 x, .int .i64 o5, .int .u32 wa, .int .u32 to, .slice A n c, .slice B m d] 29) ∧ w11r.heap[q + 1]? = some (.cells #[.int .i64 op, .int .i64 2, .int .i64 phase, .int .i64 old, .int .i64 since, .int .i64 o4, .bool awoke, .bool starve, .int .i64 need, .bool front] 31) from ⟨HF3.out.blk 0 _ rfl, HF3.out.blk 1 _ rfl⟩)
    refine Shut.out hK _ _ hS (fun _ => ?_)
    clear hK K
    try simp only [Act.put, List.setIfInBounds_toArray, List.set_cons_zero, List.set_cons_succ]
    refine wpAnyH_done (by kernel_rfl) ?_ _
    refine NoPanic.normal ?_
    go_wp2
    refine bodyPost_ret (res_ccc Try.results32 (by rfl) (by rfl) (by rfl) (HF3.out.load 2 rfl rfl Try.underlying29 (by kernel_rfl)) (HF3.out.load 3 rfl rfl Try.underlying31 (by kernel_rfl)) (HF3.out.load 4 rfl rfl Try.underlying38 (by kernel_rfl))) rfl ?_
    replace FR := HF3
    rw [HE.out]
    exact ⟨rfl, FR.out.out⟩
set_option maxRecDepth 100000 in
set_option maxHeartbeats 16000000 in
theorem rwWait_any (kd o0 o1 o2 o3 o4 o5 wa to : Int) (A : Option Addr) (n c : Nat) (B : Option Addr) (m d : Nat) (f : MFr) (hs : f.stage = 2) (now pat : Int) (w : World) : Calls Try.prog 33 #[obV kd o0 o1 o2 o3 o4 o5 wa to A n c B m d, frV f] w (StepR w kd o1 o2 o3 wa to A n c B m d (wlockW o0 o4 o5 f now pat)) := by
  obtain ⟨op, stage, phase, old, since, left, awoke, starve, need, front⟩ := f
  have hs2 : stage = 2 := hs
  subst hs2
  clear hs
  unfold obV frV frC
  simp only
  obtain ⟨v1, hv1⟩ : ∃ W, w.alloc (.cells #[.int .i64 kd, .int .i64 o0, .int .i64 o1, .int .i64 o2, .int .i64 o3, .int .i64 o4, .int .i64 o5, .int .u32 wa, .int .u32 to, .slice A n c, .slice B m d] 29) = W := ⟨_, rfl⟩
  have fr1 : Fr w v1 w.heap.size [.cells #[.int .i64 kd, .int .i64 o0, .int .i64 o1, .int .i64 o2, .int .i64 o3, .int .i64 o4, .int .i64 o5, .int .u32 wa, .int .u32 to, .slice A n c, .slice B m d] 29] := hv1 ▸ Fr.first w _
  have z1 : v1.heap.size = w.heap.size + 1 := by rw [← hv1, Fr.size1]
  obtain ⟨v2, hv2⟩ : ∃ W, v1.alloc (.cells #[.int .i64 op, .int .i64 2, .int .i64 phase, .int .i64 old, .int .i64 since, .int .i64 left, .bool awoke, .bool starve, .int .i64 need, .bool front] 31) = W := ⟨_, rfl⟩
  have fr2 : Fr w v2 w.heap.size [.cells #[.int .i64 kd, .int .i64 o0, .int .i64 o1, .int .i64 o2, .int .i64 o3, .int .i64 o4, .int .i64 o5, .int .u32 wa, .int .u32 to, .slice A n c, .slice B m d] 29, .cells #[.int .i64 op, .int .i64 2, .int .i64 phase, .int .i64 old, .int .i64 since, .int .i64 left, .bool awoke, .bool starve, .int .i64 need, .bool front] 31] := hv2 ▸ fr1.more z1 _
  have z2 : v2.heap.size = w.heap.size + 2 := by rw [← hv2, Fr.size1, z1]
  obtain ⟨v3, hv3⟩ : ∃ W, v2.alloc (.cells #[.int .i64 0, .int .i64 0, .int .i64 0, .int .i64 0, .int .i64 0, .int .i64 0, .int .i64 0, .int .u32 0, .int .u32 0, .slice none 0 0, .slice none 0 0] 29) = W := ⟨_, rfl⟩
  have fr3 : Fr w v3 w.heap.size [.cells #[.int .i64 kd, .int .i64 o0, .int .i64 o1, .int .i64 o2, .int .i64 o3, .int .i64 o4, .int .i64 o5, .int .u32 wa, .int .u32 to, .slice A n c, .slice B m d] 29, .cells #[.int .i64 op, .int .i64 2, .int .i64 phase, .int .i64 old, .int .i64 since, .int .i64 left, .bool awoke, .bool starve, .int .i64 need, .bool front] 31, .cells #[.int .i64 0, .int .i64 0, .int .i64 0, .int .i64 0, .int .i64 0, .int .i64 0, .int .i64 0, .int .u32 0, .int .u32 0, .slice none 0 0, .slice none 0 0] 29] := hv3 ▸ fr2.more z2 _
  have z3 : v3.heap.size = w.heap.size + 3 := by rw [← hv3, Fr.size1, z2]
  obtain ⟨v4, hv4⟩ : ∃ W, v3.alloc (.cells #[.int .i64 0, .int .i64 0, .int .i64 0, .int .i64 0, .int .i64 0, .int .i64 0, .bool false, .bool false, .int .i64 0, .bool false] 31) = W := ⟨_, rfl⟩
  have fr4 : Fr w v4 w.heap.size [.cells #[.int .i64 kd, .int .i64 o0, .int .i64 o1, .int .i64 o2, .int .i64 o3, .int .i64 o4, .int .i64 o5, .int .u32 wa, .int .u32 to, .slice A n c, .slice B m d] 29, .cells #[.int .i64 op, .int .i64 2, .int .i64 phase, .int .i64 old, .int .i64 since, .int .i64 left, .bool awoke, .bool starve, .int .i64 need, .bool front] 31, .cells #[.int .i64 0, .int .i64 0, .int .i64 0, .int .i64 0, .int .i64 0, .int .i64 0, .int .i64 0, .int .u32 0, .int .u32 0, .slice none 0 0, .slice none 0 0] 29, .cells #[.int .i64 0, .int .i64 0, .int .i64 0, .int .i64 0, .int .i64 0, .int .i64 0, .bool false, .bool false, .int .i64 0, .bool false] 31] := hv4 ▸ fr3.more z3 _
  have z4 : v4.heap.size = w.heap.size + 4 := by rw [← hv4, Fr.size1, z3]
  obtain ⟨v5, hv5⟩ : ∃ W, v4.alloc (.cells #[.bool false, .bool false, .bool false, .int .i64 0, .int .i64 0, .int .u64 0, .slice none 0 0] 38) = W := ⟨_, rfl⟩
  have fr5 : Fr w v5 w.heap.size [.cells #[.int .i64 kd, .int .i64 o0, .int .i64 o1, .int .i64 o2, .int .i64 o3, .int .i64 o4, .int .i64 o5, .int .u32 wa, .int .u32 to, .slice A n c, .slice B m d] 29, .cells #[.int .i64 op, .int .i64 2, .int .i64 phase, .int .i64 old, .int .i64 since, .int .i64 left, .bool awoke, .bool starve, .int .i64 need, .bool front] 31, .cells #[.int .i64 0, .int .i64 0, .int .i64 0, .int .i64 0, .int .i64 0, .int .i64 0, .int .i64 0, .int .u32 0, .int .u32 0, .slice none 0 0, .slice none 0 0] 29, .cells #[.int .i64 0, .int .i64 0, .int .i64 0, .int .i64 0, .int .i64 0, .int .i64 0, .bool false, .bool false, .int .i64 0, .bool false] 31, .cells #[.bool false, .bool false, .bool false, .int .i64 0, .int .i64 0, .int .u64 0, .slice none 0 0] 38] := hv5 ▸ fr4.more z4 _
  have z5 : v5.heap.size = w.heap.size + 5 := by rw [← hv5, Fr.size1, z4]
  generalize hq : w.heap.size = q at *
  have FR := Lib.hid fr5
  clear fr1 fr2 fr3 fr4 fr5
  obtain ⟨x, hx⟩ : ∃ x, IntKind.i64.wrap (o5 + left) = x := ⟨_, rfl⟩
  have HO : wlockW o0 o4 o5 ⟨op, 2, phase, old, since, left, awoke, starve, need, front⟩ now pat = (if x = 0 then ((o0, o4, x), noF, doneA) else ((o0, o4, x), ⟨op, 3, phase, old, since, left, awoke, starve, 3, front⟩, noA)) := by
    unfold wlockW
    rw [if_neg (show ¬ ((2 : Int) = 0) by decide), if_neg (show ¬ ((2 : Int) = 1) by decide), if_pos rfl, hx]
  by_cases h0 : x = 0
  · have c0 : (x == 0) = true := by simp [h0]
    have HE := Lib.hid (HO.trans (if_pos h0))
    clear HO h0
    go_enter Try.func33, Try.ntmps33
    obtain ⟨ac00, ac01, ac02, ac03, ac04, ac05, ac06, ac07, ac08, ac09, ac010⟩ := row11 (b := q) (FR.out.at 0 rfl rfl)
    have af06 : v5.frozen? ⟨q, 6, none⟩ = false := FR.out.frozen 0 6 rfl rfl
    obtain ⟨ac10, ac11, ac12, ac13, ac14, ac15, ac16, ac17, ac18, ac19⟩ := row10 (b := q + 1) (FR.out.at 1 rfl rfl)
    obtain ⟨w6p, hw6p⟩ : ∃ W, (v5.setCell ⟨q, 6, none⟩ (.int .i64 x)) = W := ⟨_, rfl⟩
    replace FR := Lib.hid (((FR.out.set 0 6 rfl rfl (.int .i64 x))).eqw hw6p)
    obtain ⟨bc00, bc01, bc02, bc03, bc04, bc05, bc06, bc07, bc08, bc09, bc010⟩ := row11 (b := q) (FR.out.at 0 rfl rfl)
    obtain ⟨bc10, bc11, bc12, bc13, bc14, bc15, bc16, bc17, bc18, bc19⟩ := row10 (b := q + 1) (FR.out.at 1 rfl rfl)
    go_wp2_with fail
    refine (stDone_any _ _ _ _ _ _ _ _ _ _ _ _ _ _ _ _).mono ?_
    rintro e w7 ⟨rfl, hb⟩
    clear ac00 ac01 ac02 ac03 ac04 ac05 ac06 ac07 ac08 ac09 ac010 af06 ac10 ac11 ac12 ac13 ac14 ac15 ac16 ac17 ac18 ac19 bc00 bc01 bc02 bc03 bc04 bc05 bc06 bc07 bc08 bc09 bc010 bc10 bc11 bc12 bc13 bc14 bc15 bc16 bc17 bc18 bc19
    clear hw6p
    replace FR := Lib.hid (FR.out.step hb)
    clear hb
    obtain ⟨mc20, mc21, mc22, mc23, mc24, mc25, mc26, mc27, mc28, mc29, mc210⟩ := row11 (b := q + 2) (FR.out.at 2 rfl rfl)
    obtain ⟨mf20, mf21, mf22, mf23, mf24, mf25, mf26, mf27, mf28, mf29, mf210⟩ := frz11 (b := q + 2) (FR.out.at 2 rfl rfl)
    obtain ⟨w7r, hw7r⟩ : ∃ W, (((((((((((w7.setCell ⟨q + 2, 0, none⟩ (.int .i64 kd)).setCell ⟨q + 2, 1, none⟩ (.int .i64 o0)).setCell ⟨q + 2, 2, none⟩ (.int .i64 o1)).setCell ⟨q + 2, 3, none⟩ (.int .i64 o2)).setCell ⟨q + 2, 4, none⟩ (.int .i64 o3)).setCell ⟨q + 2, 5, none⟩ (.int .i64 o4)).setCell ⟨q + 2, 6, none⟩ (.int .i64 x)).setCell ⟨q + 2, 7, none⟩ (.int .u32 wa)).setCell ⟨q + 2, 8, none⟩ (.int .u32 to)).setCell ⟨q + 2, 9, none⟩ (.slice A n c)).setCell ⟨q + 2, 10, none⟩ (.slice B m d)) = W := ⟨_, rfl⟩
    replace FR := Lib.hid ((FR.out.all 2 (vs := [.int .i64 kd, .int .i64 o0, .int .i64 o1, .int .i64 o2, .int .i64 o3, .int .i64 o4, .int .i64 x, .int .u32 wa, .int .u32 to, .slice A n c, .slice B m d]) rfl rfl rfl).eqw hw7r)
    obtain ⟨nc30, nc31, nc32, nc33, nc34, nc35, nc36, nc37, nc38, nc39⟩ := row10 (b := q + 3) (FR.out.at 3 rfl rfl)
    obtain ⟨nf30, nf31, nf32, nf33, nf34, nf35, nf36, nf37, nf38, nf39⟩ := frz10 (b := q + 3) (FR.out.at 3 rfl rfl)
    obtain ⟨w8r, hw8r⟩ : ∃ W, ((((((((((w7r.setCell ⟨q + 3, 0, none⟩ (.int .i64 0)).setCell ⟨q + 3, 1, none⟩ (.int .i64 0)).setCell ⟨q + 3, 2, none⟩ (.int .i64 0)).setCell ⟨q + 3, 3, none⟩ (.int .i64 0)).setCell ⟨q + 3, 4, none⟩ (.int .i64 0)).setCell ⟨q + 3, 5, none⟩ (.int .i64 0)).setCell ⟨q + 3, 6, none⟩ (.bool false)).setCell ⟨q + 3, 7, none⟩ (.bool false)).setCell ⟨q + 3, 8, none⟩ (.int .i64 0)).setCell ⟨q + 3, 9, none⟩ (.bool false)) = W := ⟨_, rfl⟩
    replace FR := Lib.hid ((FR.out.all 3 (vs := [.int .i64 0, .int .i64 0, .int .i64 0, .int .i64 0, .int .i64 0, .int .i64 0, .bool false, .bool false, .int .i64 0, .bool false]) rfl rfl rfl).eqw hw8r)
    obtain ⟨oc40, oc41, oc42, oc43, oc44, oc45, oc46⟩ := row7 (b := q + 4) (FR.out.at 4 rfl rfl)
    obtain ⟨of40, of41, of42, of43, of44, of45, of46⟩ := frz7 (b := q + 4) (FR.out.at 4 rfl rfl)
    obtain ⟨w9r, hw9r⟩ : ∃ W, (((((((w8r.setCell ⟨q + 4, 0, none⟩ (.bool true)).setCell ⟨q + 4, 1, none⟩ (.bool false)).setCell ⟨q + 4, 2, none⟩ (.bool false)).setCell ⟨q + 4, 3, none⟩ (.int .i64 0)).setCell ⟨q + 4, 4, none⟩ (.int .i64 0)).setCell ⟨q + 4, 5, none⟩ (.int .u64 0)).setCell ⟨q + 4, 6, none⟩ (.slice none 0 0)) = W := ⟨_, rfl⟩
    replace FR := Lib.hid ((FR.out.all 4 (vs := [.bool true, .bool false, .bool false, .int .i64 0, .int .i64 0, .int .u64 0, .slice none 0 0]) rfl rfl rfl).eqw hw9r)
    go_wp2
    refine bodyPost_ret (res_ccc Try.results33 (by rfl) (by rfl) (by rfl) (FR.out.load 2 rfl rfl Try.underlying29 (by kernel_rfl)) (FR.out.load 3 rfl rfl Try.underlying31 (by kernel_rfl)) (FR.out.load 4 rfl rfl Try.underlying38 (by kernel_rfl))) rfl ?_
    rw [HE.out]
    exact ⟨rfl, FR.out.out⟩
  · have c0 : (x == 0) = false := by simp [h0]
    have HE := Lib.hid (HO.trans (if_neg h0))
    clear HO h0
    go_enter Try.func33, Try.ntmps33
    obtain ⟨ac00, ac01, ac02, ac03, ac04, ac05, ac06, ac07, ac08, ac09, ac010⟩ := row11 (b := q) (FR.out.at 0 rfl rfl)
    have af06 : v5.frozen? ⟨q, 6, none⟩ = false := FR.out.frozen 0 6 rfl rfl
    obtain ⟨ac10, ac11, ac12, ac13, ac14, ac15, ac16, ac17, ac18, ac19⟩ := row10 (b := q + 1) (FR.out.at 1 rfl rfl)
    obtain ⟨w6p, hw6p⟩ : ∃ W, (v5.setCell ⟨q, 6, none⟩ (.int .i64 x)) = W := ⟨_, rfl⟩
    replace FR := Lib.hid (((FR.out.set 0 6 rfl rfl (.int .i64 x))).eqw hw6p)
    obtain ⟨bc00, bc01, bc02, bc03, bc04, bc05, bc06, bc07, bc08, bc09, bc010⟩ := row11 (b := q) (FR.out.at 0 rfl rfl)
    obtain ⟨bc10, bc11, bc12, bc13, bc14, bc15, bc16, bc17, bc18, bc19⟩ := row10 (b := q + 1) (FR.out.at 1 rfl rfl)
    have bf11 : w6p.frozen? ⟨q + 1, 1, none⟩ = false := FR.out.frozen 1 1 rfl rfl
    have bf18 : w6p.frozen? ⟨q + 1, 8, none⟩ = false := FR.out.frozen 1 8 rfl rfl
    obtain ⟨w7p, hw7p⟩ : ∃ W, ((w6p.setCell ⟨q + 1, 8, none⟩ (.int .i64 3)).setCell ⟨q + 1, 1, none⟩ (.int .i64 3)) = W := ⟨_, rfl⟩
    replace FR := Lib.hid ((((FR.out.set 1 8 rfl rfl (.int .i64 3)).set 1 1 rfl rfl (.int .i64 3))).eqw hw7p)
    obtain ⟨cc00, cc01, cc02, cc03, cc04, cc05, cc06, cc07, cc08, cc09, cc010⟩ := row11 (b := q) (FR.out.at 0 rfl rfl)
    obtain ⟨cc10, cc11, cc12, cc13, cc14, cc15, cc16, cc17, cc18, cc19⟩ := row10 (b := q + 1) (FR.out.at 1 rfl rfl)
    go_wp2
    clear ac00 ac01 ac02 ac03 ac04 ac05 ac06 ac07 ac08 ac09 ac010 af06 ac10 ac11 ac12 ac13 ac14 ac15 ac16 ac17 ac18 ac19 bc00 bc01 bc02 bc03 bc04 bc05 bc06 bc07 bc08 bc09 bc010 bc10 bc11 bc12 bc13 bc14 bc15 bc16 bc17 bc18 bc19 bf11 bf18 cc00 cc01 cc02 cc03 cc04 cc05 cc06 cc07 cc08 cc09 cc010 cc10 cc11 cc12 cc13 cc14 cc15 cc16 cc17 cc18 cc19
    have HF0 := Lib.hid FR.out.drew
    obtain ⟨w8r, hw8r⟩ : ∃ W, w7p.drew.setCells (q + 2) 0 [.int .i64 kd, .int .i64 o0, .int .i64 o1, .int .i64 o2, .int .i64 o3, .int .i64 o4, .int .i64 x, .int .u32 wa, .int .u32 to, .slice A n c, .slice B m d] = W := ⟨_, rfl⟩
    have HF1 := Lib.hid ((HF0.out.all 2 rfl rfl (by rfl)).eqw hw8r)
    have hh1 := Lib.hid hw8r
    clear hw8r
    obtain ⟨w9r, hw9r⟩ : ∃ W, w8r.setCells (q + 3) 0 [.int .i64 op, .int .i64 3, .int .i64 phase, .int .i64 old, .int .i64 since, .int .i64 left, .bool awoke, .bool starve, .int .i64 3, .bool front] = W := ⟨_, rfl⟩
    have HF2 := Lib.hid ((HF1.out.all 3 rfl rfl (by rfl)).eqw hw9r)
    have hh2 := Lib.hid hw9r
    clear hw9r
    obtain ⟨w10r, hw10r⟩ : ∃ W, w9r.setCells (q + 4) 0 [.bool false, .bool false, .bool false, .int .i64 0, .int .i64 0, .int .u64 0, .slice none 0 0] = W := ⟨_, rfl⟩
    have HF3 := Lib.hid ((HF2.out.all 4 rfl rfl (by rfl)).eqw hw10r)
    have hh3 := Lib.hid hw10r
    clear hw10r
    refine wp_region_noPanic ?_
    refine wp_region_held_drew (S := (fun wv => Hid (wv.heap[q]? = some (.cells #[.int .i64 kd, .int .i64 o0, .int .i64 o1, .int .i64 o2, .int .i64 o3, .int .i64 o4, .int .i64 x, .int .u32 wa, .int .u32 to, .slice A n c, .slice B m d] 29) ∧ wv.heap[q + 1]? = some (.cells #[.int .i64 op, .int .i64 3, .int .i64 phase, .int .i64 old, .int .i64 since, .int .i64 left, .bool awoke, .bool starve, .int .i64 3, .bool front] 31)))) (by kernel_rfl) (Lib.hid (show w7p.drew.heap[q]? = some (.cells #[.int .i64 kd, .int .i64 o0, .int .i64 o1, .int .i64 o2, .int .i64 o3, .int .i64 o4, .int .i64 x, .int .u32 wa, .int .u32 to, .slice A n c, .slice B m d] 29) ∧ w7p.drew.heap[q + 1]? = some (.cells #[.int .i64 op, .int .i64 3, .int .i64 phase, .int .i64 old, .int .i64 since, .int .i64 left, .bool awoke, .bool starve, .int .i64 3, .bool front] 31) from ⟨HF0.out.blk 0 _ rfl, HF0.out.blk 1 _ rfl⟩)) (fun hS => ?_)
    refine wpAnyH_take (i := 0) (oi := ⟨some 26, .load 29 (.tmp 2), 29, "write.go:54", #[], none⟩) (v := .agg (([.int .i64 kd, .int .i64 o0, .int .i64 o1, .int .i64 o2, .int .i64 o3, .int .i64 o4, .int .i64 x, .int .u32 wa, .int .u32 to, .slice A n c, .slice B m d] : List Value)).toArray) rfl (by kernel_rfl) (by kernel_rfl) (by kernel_rfl) (fun _ _ _ h => h) (yieldsIf_load_mid (by rfl) _ _ (by rfl) (q) (0) (by rfl) (([.int .i64 kd, .int .i64 o0, .int .i64 o1, .int .i64 o2, .int .i64 o3, .int .i64 o4, .int .i64 x, .int .u32 wa, .int .u32 to, .slice A n c, .slice B m d] : List Value)) _ (fun wv hS => blk_rngl hS.out.1) Try.underlying29 (by rfl) (by kernel_rfl)) hS ?_
    try simp only [Act.put, List.setIfInBounds_toArray, List.set_cons_zero, List.set_cons_succ]
    refine wpAnyH_take (i := 1) (oi := ⟨some 27, .load 31 (.tmp 3), 31, "write.go:54", #[⟨3, .gcOnly .lateStores⟩], none⟩) (v := .agg (([.int .i64 op, .int .i64 3, .int .i64 phase, .int .i64 old, .int .i64 since, .int .i64 left, .bool awoke, .bool starve, .int .i64 3, .bool front] : List Value)).toArray) rfl (by kernel_rfl) (by kernel_rfl) (by kernel_rfl) (fun _ _ _ h => h) (yieldsIf_load_mid (by rfl) _ _ (by rfl) (q + 1) (0) (by rfl) (([.int .i64 op, .int .i64 3, .int .i64 phase, .int .i64 old, .int .i64 since, .int .i64 left, .bool awoke, .bool starve, .int .i64 3, .bool front] : List Value)) _ (fun wv hS => blk_rngl hS.out.2) Try.underlying31 (by rfl) (by kernel_rfl)) hS ?_
    try simp only [Act.put, List.setIfInBounds_toArray, List.set_cons_zero, List.set_cons_succ]
    refine wpAnyH_take (i := 2) (oi := ⟨some 28, .build 38 #[], 38, "write.go:54", #[⟨4, .gcOnly .lateStores⟩], none⟩) (v := ?_) rfl (by kernel_rfl) (by kernel_rfl) (by kernel_rfl) (fun _ _ _ h => h) (Or.inl ⟨by rfl, ?_⟩) hS ?_
    rotate_left
    · intro wv _; go_simp; try with_reducible rfl
    try simp only [Act.put, List.setIfInBounds_toArray, List.set_cons_zero, List.set_cons_succ]
    refine wpAnyH_ready (rs := [3]) (by kernel_rfl) (by simp) (AllReadyH.cons (o := ⟨none, .store 29 (.tmp 4) (.tmp 26), 0, "write.go:54", #[⟨0, .data⟩, ⟨0, .phase⟩, ⟨1, .textOnly .lateStores⟩, ⟨2, .textOnly .lateStores⟩], none⟩) rfl (fun K hK => ?_) AllReadyH.nil)
    refine op_storeS (by rfl) rfl rfl rfl (there_blk (HF0.out.blk 2 _ rfl) rfl) (by kernel_rfl) (by simp [Value.oneCell']) hh1.out ?_
    replace hS := Lib.hid (show w8r.heap[q]? = some (.cells #[.int .i64 kd, .int .i64 o0, .int .i64 o1, .int .i64 o2, .int .i64 o3, .int .i64 o4, .int .i64 x, .int .u32 wa, .int .u32 to, .slice A n c, .slice B m d] 29) ∧ w8r.heap[q + 1]? = some (.cells #[.int .i64 op, .int .i64 3, .int .i64 phase, .int .i64 old, .int .i64 since, .int .i64 left, .bool awoke, .bool starve, .int .i64 3, .bool front] 31) from ⟨HF1.out.blk 0 _ rfl, HF1.out.blk 1 _ rfl⟩)
    refine Shut.out hK _ _ hS (fun _ => ?_)
    clear hK K
    try simp only [Act.put, List.setIfInBounds_toArray, List.set_cons_zero, List.set_cons_succ]
    refine wpAnyH_ready (rs := [4]) (by kernel_rfl) (by simp) (AllReadyH.cons (o := ⟨none, .store 31 (.tmp 5) (.tmp 27), 0, "write.go:54", #[⟨1, .data⟩, ⟨3, .chain⟩, ⟨0, .phase⟩, ⟨1, .phase⟩, ⟨2, .textOnly .lateStores⟩, ⟨3, .phase⟩], none⟩) rfl (fun K hK => ?_) AllReadyH.nil)
    refine op_storeS (by rfl) rfl rfl rfl (there_blk (HF1.out.blk 3 _ rfl) rfl) (by kernel_rfl) (by simp [Value.oneCell']) hh2.out ?_
    replace hS := Lib.hid (show w9r.heap[q]? = some (.cells #[.int .i64 kd, .int .i64 o0, .int .i64 o1, .int .i64 o2, .int .i64 o3, .int .i64 o4, .int .i64 x, .int .u32 wa, .int .u32 to, .slice A n c, .slice B m d] 29) ∧ w9r.heap[q + 1]? = some (.cells #[.int .i64 op, .int .i64 3, .int .i64 phase, .int .i64 old, .int .i64 since, .int .i64 left, .bool awoke, .bool starve, .int .i64 3, .bool front] 31) from ⟨HF2.out.blk 0 _ rfl, HF2.out.blk 1 _ rfl⟩)
    refine Shut.out hK _ _ hS (fun _ => ?_)
    clear hK K
    try simp only [Act.put, List.setIfInBounds_toArray, List.set_cons_zero, List.set_cons_succ]
    refine wpAnyH_ready (rs := [5]) (by kernel_rfl) (by simp) (AllReadyH.cons (o := ⟨none, .store 38 (.tmp 6) (.tmp 28), 0, "write.go:54", #[⟨2, .data⟩, ⟨4, .chain⟩, ⟨0, .phase⟩, ⟨1, .phase⟩, ⟨2, .phase⟩, ⟨3, .phase⟩, ⟨4, .phase⟩], none⟩) rfl (fun K hK => ?_) AllReadyH.nil)
    refine op_storeS (by rfl) rfl rfl rfl (there_blk (HF2.out.blk 4 _ rfl) rfl) (by kernel_rfl) (by simp [Value.oneCell']) hh3.out ?_
    replace hS := Lib.hid (show w10r.heap[q]? = some (.cells #[.int .i64 kd, .int .i64 o0, .int .i64 o1, .int .i64 o2, .int .i64 o3, .int .i64 o4, .int .i64 x, .int .u32 wa, .int .u32 to, .slice A n c, .slice B m d] 29) ∧ w10r.heap[q + 1]? = some (.cells #[.int .i64 op, .int .i64 3, .int .i64 phase, .int .i64 old, .int .i64 since, .int .i64 left, .bool awoke, .bool starve, .int .i64 3, .bool front] 31) from ⟨HF3.out.blk 0 _ rfl, HF3.out.blk 1 _ rfl⟩)
    refine Shut.out hK _ _ hS (fun _ => ?_)
    clear hK K
    try simp only [Act.put, List.setIfInBounds_toArray, List.set_cons_zero, List.set_cons_succ]
    refine wpAnyH_done (by kernel_rfl) ?_ _
    refine NoPanic.normal ?_
    go_wp2
    refine bodyPost_ret (res_ccc Try.results33 (by rfl) (by rfl) (by rfl) (HF3.out.load 2 rfl rfl Try.underlying29 (by kernel_rfl)) (HF3.out.load 3 rfl rfl Try.underlying31 (by kernel_rfl)) (HF3.out.load 4 rfl rfl Try.underlying38 (by kernel_rfl))) rfl ?_
    replace FR := HF3
    rw [HE.out]
    exact ⟨rfl, FR.out.out⟩
set_option maxRecDepth 100000 in
set_option maxHeartbeats 16000000 in
theorem rwEnd_any (kd o0 o1 o2 o3 o4 o5 wa to : Int) (A : Option Addr) (n c : Nat) (B : Option Addr) (m d : Nat) (f : MFr) (hs : f.stage = 0) (w : World) : Calls Try.prog 36 #[obV kd o0 o1 o2 o3 o4 o5 wa to A n c B m d, frV f] w (StepR w kd o1 o2 o3 wa to A n c B m d (wunlockW o0 o4 o5 f)) := by
  obtain ⟨op, stage, phase, old, since, left, awoke, starve, need, front⟩ := f
  have hs2 : stage = 0 := hs
  subst hs2
  clear hs
  unfold obV frV frC
  simp only
  obtain ⟨v1, hv1⟩ : ∃ W, w.alloc (.cells #[.int .i64 kd, .int .i64 o0, .int .i64 o1, .int .i64 o2, .int .i64 o3, .int .i64 o4, .int .i64 o5, .int .u32 wa, .int .u32 to, .slice A n c, .slice B m d] 29) = W := ⟨_, rfl⟩
  have fr1 : Fr w v1 w.heap.size [.cells #[.int .i64 kd, .int .i64 o0, .int .i64 o1, .int .i64 o2, .int .i64 o3, .int .i64 o4, .int .i64 o5, .int .u32 wa, .int .u32 to, .slice A n c, .slice B m d] 29] := hv1 ▸ Fr.first w _
  have z1 : v1.heap.size = w.heap.size + 1 := by rw [← hv1, Fr.size1]
  obtain ⟨v2, hv2⟩ : ∃ W, v1.alloc (.cells #[.int .i64 op, .int .i64 0, .int .i64 phase, .int .i64 old, .int .i64 since, .int .i64 left, .bool awoke, .bool starve, .int .i64 need, .bool front] 31) = W := ⟨_, rfl⟩
  have fr2 : Fr w v2 w.heap.size [.cells #[.int .i64 kd, .int .i64 o0, .int .i64 o1, .int .i64 o2, .int .i64 o3, .int .i64 o4, .int .i64 o5, .int .u32 wa, .int .u32 to, .slice A n c, .slice B m d] 29, .cells #[.int .i64 op, .int .i64 0, .int .i64 phase, .int .i64 old, .int .i64 since, .int .i64 left, .bool awoke, .bool starve, .int .i64 need, .bool front] 31] := hv2 ▸ fr1.more z1 _
  have z2 : v2.heap.size = w.heap.size + 2 := by rw [← hv2, Fr.size1, z1]
  obtain ⟨v3, hv3⟩ : ∃ W, v2.alloc (.cells #[.int .i64 0, .int .i64 0, .int .i64 0, .int .i64 0, .int .i64 0, .int .i64 0, .int .i64 0, .int .u32 0, .int .u32 0, .slice none 0 0, .slice none 0 0] 29) = W := ⟨_, rfl⟩
  have fr3 : Fr w v3 w.heap.size [.cells #[.int .i64 kd, .int .i64 o0, .int .i64 o1, .int .i64 o2, .int .i64 o3, .int .i64 o4, .int .i64 o5, .int .u32 wa, .int .u32 to, .slice A n c, .slice B m d] 29, .cells #[.int .i64 op, .int .i64 0, .int .i64 phase, .int .i64 old, .int .i64 since, .int .i64 left, .bool awoke, .bool starve, .int .i64 need, .bool front] 31, .cells #[.int .i64 0, .int .i64 0, .int .i64 0, .int .i64 0, .int .i64 0, .int .i64 0, .int .i64 0, .int .u32 0, .int .u32 0, .slice none 0 0, .slice none 0 0] 29] := hv3 ▸ fr2.more z2 _
  have z3 : v3.heap.size = w.heap.size + 3 := by rw [← hv3, Fr.size1, z2]
  obtain ⟨v4, hv4⟩ : ∃ W, v3.alloc (.cells #[.int .i64 0, .int .i64 0, .int .i64 0, .int .i64 0, .int .i64 0, .int .i64 0, .bool false, .bool false, .int .i64 0, .bool false] 31) = W := ⟨_, rfl⟩
  have fr4 : Fr w v4 w.heap.size [.cells #[.int .i64 kd, .int .i64 o0, .int .i64 o1, .int .i64 o2, .int .i64 o3, .int .i64 o4, .int .i64 o5, .int .u32 wa, .int .u32 to, .slice A n c, .slice B m d] 29, .cells #[.int .i64 op, .int .i64 0, .int .i64 phase, .int .i64 old, .int .i64 since, .int .i64 left, .bool awoke, .bool starve, .int .i64 need, .bool front] 31, .cells #[.int .i64 0, .int .i64 0, .int .i64 0, .int .i64 0, .int .i64 0, .int .i64 0, .int .i64 0, .int .u32 0, .int .u32 0, .slice none 0 0, .slice none 0 0] 29, .cells #[.int .i64 0, .int .i64 0, .int .i64 0, .int .i64 0, .int .i64 0, .int .i64 0, .bool false, .bool false, .int .i64 0, .bool false] 31] := hv4 ▸ fr3.more z3 _
  have z4 : v4.heap.size = w.heap.size + 4 := by rw [← hv4, Fr.size1, z3]
  obtain ⟨v5, hv5⟩ : ∃ W, v4.alloc (.cells #[.bool false, .bool false, .bool false, .int .i64 0, .int .i64 0, .int .u64 0, .slice none 0 0] 38) = W := ⟨_, rfl⟩
  have fr5 : Fr w v5 w.heap.size [.cells #[.int .i64 kd, .int .i64 o0, .int .i64 o1, .int .i64 o2, .int .i64 o3, .int .i64 o4, .int .i64 o5, .int .u32 wa, .int .u32 to, .slice A n c, .slice B m d] 29, .cells #[.int .i64 op, .int .i64 0, .int .i64 phase, .int .i64 old, .int .i64 since, .int .i64 left, .bool awoke, .bool starve, .int .i64 need, .bool front] 31, .cells #[.int .i64 0, .int .i64 0, .int .i64 0, .int .i64 0, .int .i64 0, .int .i64 0, .int .i64 0, .int .u32 0, .int .u32 0, .slice none 0 0, .slice none 0 0] 29, .cells #[.int .i64 0, .int .i64 0, .int .i64 0, .int .i64 0, .int .i64 0, .int .i64 0, .bool false, .bool false, .int .i64 0, .bool false] 31, .cells #[.bool false, .bool false, .bool false, .int .i64 0, .int .i64 0, .int .u64 0, .slice none 0 0] 38] := hv5 ▸ fr4.more z4 _
  have z5 : v5.heap.size = w.heap.size + 5 := by rw [← hv5, Fr.size1, z4]
  generalize hq : w.heap.size = q at *
  have FR := Lib.hid fr5
  clear fr1 fr2 fr3 fr4 fr5
  by_cases h0 : 0 ≤ o4
  · have c0 : decide (0 ≤ o4) = true := decide_eq_true h0
    have HE := Lib.hid (show wunlockW o0 o4 o5 ⟨op, 0, phase, old, since, left, awoke, starve, need, front⟩ = ((o0, o4, o5), noF, faultA) from by
      unfold wunlockW
      exact if_pos ⟨rfl, h0⟩)
    clear h0
    go_enter Try.func36, Try.ntmps36
    obtain ⟨ac00, ac01, ac02, ac03, ac04, ac05, ac06, ac07, ac08, ac09, ac010⟩ := row11 (b := q) (FR.out.at 0 rfl rfl)
    obtain ⟨ac10, ac11, ac12, ac13, ac14, ac15, ac16, ac17, ac18, ac19⟩ := row10 (b := q + 1) (FR.out.at 1 rfl rfl)
    go_wp2_with fail
    refine (stFault_any _ _ _ _ _ _ _ _ _ _ _ _ _ _ _ _ _).mono ?_
    rintro e w7 ⟨rfl, hb⟩
    clear ac00 ac01 ac02 ac03 ac04 ac05 ac06 ac07 ac08 ac09 ac010 ac10 ac11 ac12 ac13 ac14 ac15 ac16 ac17 ac18 ac19
    replace FR := Lib.hid (FR.out.step hb)
    clear hb
    obtain ⟨mc20, mc21, mc22, mc23, mc24, mc25, mc26, mc27, mc28, mc29, mc210⟩ := row11 (b := q + 2) (FR.out.at 2 rfl rfl)
    obtain ⟨mf20, mf21, mf22, mf23, mf24, mf25, mf26, mf27, mf28, mf29, mf210⟩ := frz11 (b := q + 2) (FR.out.at 2 rfl rfl)
    obtain ⟨w6r, hw6r⟩ : ∃ W, (((((((((((w7.setCell ⟨q + 2, 0, none⟩ (.int .i64 kd)).setCell ⟨q + 2, 1, none⟩ (.int .i64 o0)).setCell ⟨q + 2, 2, none⟩ (.int .i64 o1)).setCell ⟨q + 2, 3, none⟩ (.int .i64 o2)).setCell ⟨q + 2, 4, none⟩ (.int .i64 o3)).setCell ⟨q + 2, 5, none⟩ (.int .i64 o4)).setCell ⟨q + 2, 6, none⟩ (.int .i64 o5)).setCell ⟨q + 2, 7, none⟩ (.int .u32 wa)).setCell ⟨q + 2, 8, none⟩ (.int .u32 to)).setCell ⟨q + 2, 9, none⟩ (.slice A n c)).setCell ⟨q + 2, 10, none⟩ (.slice B m d)) = W := ⟨_, rfl⟩
    replace FR := Lib.hid ((FR.out.all 2 (vs := [.int .i64 kd, .int .i64 o0, .int .i64 o1, .int .i64 o2, .int .i64 o3, .int .i64 o4, .int .i64 o5, .int .u32 wa, .int .u32 to, .slice A n c, .slice B m d]) rfl rfl rfl).eqw hw6r)
    obtain ⟨nc30, nc31, nc32, nc33, nc34, nc35, nc36, nc37, nc38, nc39⟩ := row10 (b := q + 3) (FR.out.at 3 rfl rfl)
    obtain ⟨nf30, nf31, nf32, nf33, nf34, nf35, nf36, nf37, nf38, nf39⟩ := frz10 (b := q + 3) (FR.out.at 3 rfl rfl)
    obtain ⟨w7r, hw7r⟩ : ∃ W, ((((((((((w6r.setCell ⟨q + 3, 0, none⟩ (.int .i64 0)).setCell ⟨q + 3, 1, none⟩ (.int .i64 0)).setCell ⟨q + 3, 2, none⟩ (.int .i64 0)).setCell ⟨q + 3, 3, none⟩ (.int .i64 0)).setCell ⟨q + 3, 4, none⟩ (.int .i64 0)).setCell ⟨q + 3, 5, none⟩ (.int .i64 0)).setCell ⟨q + 3, 6, none⟩ (.bool false)).setCell ⟨q + 3, 7, none⟩ (.bool false)).setCell ⟨q + 3, 8, none⟩ (.int .i64 0)).setCell ⟨q + 3, 9, none⟩ (.bool false)) = W := ⟨_, rfl⟩
    replace FR := Lib.hid ((FR.out.all 3 (vs := [.int .i64 0, .int .i64 0, .int .i64 0, .int .i64 0, .int .i64 0, .int .i64 0, .bool false, .bool false, .int .i64 0, .bool false]) rfl rfl rfl).eqw hw7r)
    obtain ⟨oc40, oc41, oc42, oc43, oc44, oc45, oc46⟩ := row7 (b := q + 4) (FR.out.at 4 rfl rfl)
    obtain ⟨of40, of41, of42, of43, of44, of45, of46⟩ := frz7 (b := q + 4) (FR.out.at 4 rfl rfl)
    obtain ⟨w8r, hw8r⟩ : ∃ W, (((((((w7r.setCell ⟨q + 4, 0, none⟩ (.bool false)).setCell ⟨q + 4, 1, none⟩ (.bool false)).setCell ⟨q + 4, 2, none⟩ (.bool false)).setCell ⟨q + 4, 3, none⟩ (.int .i64 0)).setCell ⟨q + 4, 4, none⟩ (.int .i64 1)).setCell ⟨q + 4, 5, none⟩ (.int .u64 0)).setCell ⟨q + 4, 6, none⟩ (.slice none 0 0)) = W := ⟨_, rfl⟩
    replace FR := Lib.hid ((FR.out.all 4 (vs := [.bool false, .bool false, .bool false, .int .i64 0, .int .i64 1, .int .u64 0, .slice none 0 0]) rfl rfl rfl).eqw hw8r)
    go_wp2
    refine bodyPost_ret (res_ccc Try.results36 (by rfl) (by rfl) (by rfl) (FR.out.load 2 rfl rfl Try.underlying29 (by kernel_rfl)) (FR.out.load 3 rfl rfl Try.underlying31 (by kernel_rfl)) (FR.out.load 4 rfl rfl Try.underlying38 (by kernel_rfl))) rfl ?_
    rw [HE.out]
    exact ⟨rfl, FR.out.out⟩
  · have c0 : decide (0 ≤ o4) = false := decide_eq_false h0
    obtain ⟨x, hx⟩ : ∃ x, IntKind.i64.wrap (o4 + 1048576) = x := ⟨_, rfl⟩
    have HE := Lib.hid (show wunlockW o0 o4 o5 ⟨op, 0, phase, old, since, left, awoke, starve, need, front⟩ = ((o0, x, o5), ⟨op, 1, phase, old, since, x, awoke, starve, need, front⟩, noA) from by
      unfold wunlockW
      rw [if_neg (fun h => h0 h.2), if_pos rfl, hx])
    clear h0
    go_enter Try.func36, Try.ntmps36
    obtain ⟨ac00, ac01, ac02, ac03, ac04, ac05, ac06, ac07, ac08, ac09, ac010⟩ := row11 (b := q) (FR.out.at 0 rfl rfl)
    have af05 : v5.frozen? ⟨q, 5, none⟩ = false := FR.out.frozen 0 5 rfl rfl
    obtain ⟨ac10, ac11, ac12, ac13, ac14, ac15, ac16, ac17, ac18, ac19⟩ := row10 (b := q + 1) (FR.out.at 1 rfl rfl)
    obtain ⟨w6p, hw6p⟩ : ∃ W, (v5.setCell ⟨q, 5, none⟩ (.int .i64 x)) = W := ⟨_, rfl⟩
    replace FR := Lib.hid (((FR.out.set 0 5 rfl rfl (.int .i64 x))).eqw hw6p)
    obtain ⟨bc00, bc01, bc02, bc03, bc04, bc05, bc06, bc07, bc08, bc09, bc010⟩ := row11 (b := q) (FR.out.at 0 rfl rfl)
    obtain ⟨bc10, bc11, bc12, bc13, bc14, bc15, bc16, bc17, bc18, bc19⟩ := row10 (b := q + 1) (FR.out.at 1 rfl rfl)
    have bf11 : w6p.frozen? ⟨q + 1, 1, none⟩ = false := FR.out.frozen 1 1 rfl rfl
    have bf15 : w6p.frozen? ⟨q + 1, 5, none⟩ = false := FR.out.frozen 1 5 rfl rfl
    obtain ⟨w7p, hw7p⟩ : ∃ W, ((w6p.setCell ⟨q + 1, 5, none⟩ (.int .i64 x)).setCell ⟨q + 1, 1, none⟩ (.int .i64 1)) = W := ⟨_, rfl⟩
    replace FR := Lib.hid ((((FR.out.set 1 5 rfl rfl (.int .i64 x)).set 1 1 rfl rfl (.int .i64 1))).eqw hw7p)
    obtain ⟨cc00, cc01, cc02, cc03, cc04, cc05, cc06, cc07, cc08, cc09, cc010⟩ := row11 (b := q) (FR.out.at 0 rfl rfl)
    obtain ⟨cc10, cc11, cc12, cc13, cc14, cc15, cc16, cc17, cc18, cc19⟩ := row10 (b := q + 1) (FR.out.at 1 rfl rfl)
    go_wp2
    clear ac00 ac01 ac02 ac03 ac04 ac05 ac06 ac07 ac08 ac09 ac010 af05 ac10 ac11 ac12 ac13 ac14 ac15 ac16 ac17 ac18 ac19 bc00 bc01 bc02 bc03 bc04 bc05 bc06 bc07 bc08 bc09 bc010 bc10 bc11 bc12 bc13 bc14 bc15 bc16 bc17 bc18 bc19 bf11 bf15 cc00 cc01 cc02 cc03 cc04 cc05 cc06 cc07 cc08 cc09 cc010 cc10 cc11 cc12 cc13 cc14 cc15 cc16 cc17 cc18 cc19
    have HF0 := Lib.hid FR.out.drew
    obtain ⟨w8r, hw8r⟩ : ∃ W, w7p.drew.setCells (q + 2) 0 [.int .i64 kd, .int .i64 o0, .int .i64 o1, .int .i64 o2, .int .i64 o3, .int .i64 x, .int .i64 o5, .int .u32 wa, .int .u32 to, .slice A n c, .slice B m d] = W := ⟨_, rfl⟩
    have HF1 := Lib.hid ((HF0.out.all 2 rfl rfl (by rfl)).eqw hw8r)
    have hh1 := Lib.hid hw8r
    clear hw8r
    obtain ⟨w9r, hw9r⟩ : ∃ W, w8r.setCells (q + 3) 0 [.int .i64 op, .int .i64 1, .int .i64 phase, .int .i64 old, .int .i64 since, .int .i64 x, .bool awoke, .bool starve, .int .i64 need, .bool front] = W := ⟨_, rfl⟩
    have HF2 := Lib.hid ((HF1.out.all 3 rfl rfl (by rfl)).eqw hw9r)
    have hh2 := Lib.hid hw9r
    clear hw9r
    obtain ⟨w10r, hw10r⟩ : ∃ W, w9r.setCells (q + 4) 0 [.bool false, .bool false, .bool false, .int .i64 0, .int .i64 0, .int .u64 0, .slice none 0 0] = W := ⟨_, rfl⟩
    have HF3 := Lib.hid ((HF2.out.all 4 rfl rfl (by rfl)).eqw hw10r)
    have hh3 := Lib.hid hw10r
    clear hw10r
    refine wp_region_noPanic ?_
    refine wp_region_held_drew (S := (fun wv => Hid (wv.heap[q]? = some (.cells #[.int .i64 kd, .int .i64 o0, .int .i64 o1, .int .i64 o2, .int .i64 o3, .int .i64 x, .int .i64 o5, .int .u32 wa, .int .u32 to, .slice A n c, .slice B m d] 29) ∧ wv.heap[q + 1]? = some (.cells #[.int .i64 op, .int .i64 1, .int .i64 phase, .int .i64 old, .int .i64 since, .int .i64 x, .bool awoke, .bool starve, .int .i64 need, .bool front] 31)))) (by kernel_rfl) (Lib.hid (show w7p.drew.heap[q]? = some (.cells #[.int .i64 kd, .int .i64 o0, .int .i64 o1, .int .i64 o2, .int .i64 o3, .int .i64 x, .int .i64 o5, .int .u32 wa, .int .u32 to, .slice A n c, .slice B m d] 29) ∧ w7p.drew.heap[q + 1]? = some (.cells #[.int .i64 op, .int .i64 1, .int .i64 phase, .int .i64 old, .int .i64 since, .int .i64 x, .bool awoke, .bool starve, .int .i64 need, .bool front] 31) from ⟨HF0.out.blk 0 _ rfl, HF0.out.blk 1 _ rfl⟩)) (fun hS => ?_)
    refine wpAnyH_take (i := 0) (oi := ⟨some 27, .load 29 (.tmp 2), 29, "write.go:65", #[], none⟩) (v := .agg (([.int .i64 kd, .int .i64 o0, .int .i64 o1, .int .i64 o2, .int .i64 o3, .int .i64 x, .int .i64 o5, .int .u32 wa, .int .u32 to, .slice A n c, .slice B m d] : List Value)).toArray) rfl (by kernel_rfl) (by kernel_rfl) (by kernel_rfl) (fun _ _ _ h => h) (yieldsIf_load_mid (by rfl) _ _ (by rfl) (q) (0) (by rfl) (([.int .i64 kd, .int .i64 o0, .int .i64 o1, .int .i64 o2, .int .i64 o3, .int .i64 x, .int .i64 o5, .int .u32 wa, .int .u32 to, .slice A n c, .slice B m d] : List Value)) _ (fun wv hS => blk_rngl hS.out.1) Try.underlying29 (by rfl) (by kernel_rfl)) hS ?_
    try simp only [Act.put, List.setIfInBounds_toArray, List.set_cons_zero, List.set_cons_succ]
    refine wpAnyH_take (i := 1) (oi := ⟨some 28, .load 31 (.tmp 3), 31, "write.go:65", #[⟨3, .gcOnly .lateStores⟩], none⟩) (v := .agg (([.int .i64 op, .int .i64 1, .int .i64 phase, .int .i64 old, .int .i64 since, .int .i64 x, .bool awoke, .bool starve, .int .i64 need, .bool front] : List Value)).toArray) rfl (by kernel_rfl) (by kernel_rfl) (by kernel_rfl) (fun _ _ _ h => h) (yieldsIf_load_mid (by rfl) _ _ (by rfl) (q + 1) (0) (by rfl) (([.int .i64 op, .int .i64 1, .int .i64 phase, .int .i64 old, .int .i64 since, .int .i64 x, .bool awoke, .bool starve, .int .i64 need, .bool front] : List Value)) _ (fun wv hS => blk_rngl hS.out.2) Try.underlying31 (by rfl) (by kernel_rfl)) hS ?_
    try simp only [Act.put, List.setIfInBounds_toArray, List.set_cons_zero, List.set_cons_succ]
    refine wpAnyH_take (i := 2) (oi := ⟨some 29, .build 38 #[], 38, "write.go:65", #[⟨4, .gcOnly .lateStores⟩], none⟩) (v := ?_) rfl (by kernel_rfl) (by kernel_rfl) (by kernel_rfl) (fun _ _ _ h => h) (Or.inl ⟨by rfl, ?_⟩) hS ?_
    rotate_left
    · intro wv _; go_simp; try with_reducible rfl
    try simp only [Act.put, List.setIfInBounds_toArray, List.set_cons_zero, List.set_cons_succ]
    refine wpAnyH_ready (rs := [3]) (by kernel_rfl) (by simp) (AllReadyH.cons (o := ⟨none, .store 29 (.tmp 4) (.tmp 27), 0, "write.go:65", #[⟨0, .data⟩, ⟨0, .phase⟩, ⟨1, .textOnly .lateStores⟩, ⟨2, .textOnly .lateStores⟩], none⟩) rfl (fun K hK => ?_) AllReadyH.nil)
    refine op_storeS (by rfl) rfl rfl rfl (there_blk (HF0.out.blk 2 _ rfl) rfl) (by kernel_rfl) (by simp [Value.oneCell']) hh1.out ?_
    replace hS := Lib.hid (show w8r.heap[q]? = some (.cells #[.int .i64 kd, .int .i64 o0, .int .i64 o1, .int .i64 o2, .int .i64 o3, .int .i64 x, .int .i64 o5, .int .u32 wa, .int .u32 to, .slice A n c, .slice B m d] 29) ∧ w8r.heap[q + 1]? = some (.cells #[.int .i64 op, .int .i64 1, .int .i64 phase, .int .i64 old, .int .i64 since, .int .i64 x, .bool awoke, .bool starve, .int .i64 need, .bool front] 31) from ⟨HF1.out.blk 0 _ rfl, HF1.out.blk 1 _ rfl⟩)
    refine Shut.out hK _ _ hS (fun _ => ?_)
    clear hK K
    try simp only [Act.put, List.setIfInBounds_toArray, List.set_cons_zero, List.set_cons_succ]
    refine wpAnyH_ready (rs := [4]) (by kernel_rfl) (by simp) (AllReadyH.cons (o := ⟨none, .store 31 (.tmp 5) (.tmp 28), 0, "write.go:65", #[⟨1, .data⟩, ⟨3, .chain⟩, ⟨0, .phase⟩, ⟨1, .phase⟩, ⟨2, .textOnly .lateStores⟩, ⟨3, .phase⟩], none⟩) rfl (fun K hK => ?_) AllReadyH.nil)
    refine op_storeS (by rfl) rfl rfl rfl (there_blk (HF1.out.blk 3 _ rfl) rfl) (by kernel_rfl) (by simp [Value.oneCell']) hh2.out ?_
    replace hS := Lib.hid (show w9r.heap[q]? = some (.cells #[.int .i64 kd, .int .i64 o0, .int .i64 o1, .int .i64 o2, .int .i64 o3, .int .i64 x, .int .i64 o5, .int .u32 wa, .int .u32 to, .slice A n c, .slice B m d] 29) ∧ w9r.heap[q + 1]? = some (.cells #[.int .i64 op, .int .i64 1, .int .i64 phase, .int .i64 old, .int .i64 since, .int .i64 x, .bool awoke, .bool starve, .int .i64 need, .bool front] 31) from ⟨HF2.out.blk 0 _ rfl, HF2.out.blk 1 _ rfl⟩)
    refine Shut.out hK _ _ hS (fun _ => ?_)
    clear hK K
    try simp only [Act.put, List.setIfInBounds_toArray, List.set_cons_zero, List.set_cons_succ]
    refine wpAnyH_ready (rs := [5]) (by kernel_rfl) (by simp) (AllReadyH.cons (o := ⟨none, .store 38 (.tmp 6) (.tmp 29), 0, "write.go:65", #[⟨2, .data⟩, ⟨4, .chain⟩, ⟨0, .phase⟩, ⟨1, .phase⟩, ⟨2, .phase⟩, ⟨3, .phase⟩, ⟨4, .phase⟩], none⟩) rfl (fun K hK => ?_) AllReadyH.nil)
    refine op_storeS (by rfl) rfl rfl rfl (there_blk (HF2.out.blk 4 _ rfl) rfl) (by kernel_rfl) (by simp [Value.oneCell']) hh3.out ?_
    replace hS := Lib.hid (show w10r.heap[q]? = some (.cells #[.int .i64 kd, .int .i64 o0, .int .i64 o1, .int .i64 o2, .int .i64 o3, .int .i64 x, .int .i64 o5, .int .u32 wa, .int .u32 to, .slice A n c, .slice B m d] 29) ∧ w10r.heap[q + 1]? = some (.cells #[.int .i64 op, .int .i64 1, .int .i64 phase, .int .i64 old, .int .i64 since, .int .i64 x, .bool awoke, .bool starve, .int .i64 need, .bool front] 31) from ⟨HF3.out.blk 0 _ rfl, HF3.out.blk 1 _ rfl⟩)
    refine Shut.out hK _ _ hS (fun _ => ?_)
    clear hK K
    try simp only [Act.put, List.setIfInBounds_toArray, List.set_cons_zero, List.set_cons_succ]
    refine wpAnyH_done (by kernel_rfl) ?_ _
    refine NoPanic.normal ?_
    go_wp2
    refine bodyPost_ret (res_ccc Try.results36 (by rfl) (by rfl) (by rfl) (HF3.out.load 2 rfl rfl Try.underlying29 (by kernel_rfl)) (HF3.out.load 3 rfl rfl Try.underlying31 (by kernel_rfl)) (HF3.out.load 4 rfl rfl Try.underlying38 (by kernel_rfl))) rfl ?_
    replace FR := HF3
    rw [HE.out]
    exact ⟨rfl, FR.out.out⟩
set_option maxRecDepth 100000 in
set_option maxHeartbeats 16000000 in
theorem rwLetIn_any (kd o0 o1 o2 o3 o4 o5 wa to : Int) (A : Option Addr) (n c : Nat) (B : Option Addr) (m d : Nat) (f : MFr) (hs : f.stage = 1) (w : World) : Calls Try.prog 37 #[obV kd o0 o1 o2 o3 o4 o5 wa to A n c B m d, frV f] w (StepR w kd o1 o2 o3 wa to A n c B m d (wunlockW o0 o4 o5 f)) := by
  obtain ⟨op, stage, phase, old, since, left, awoke, starve, need, front⟩ := f
  have hs2 : stage = 1 := hs
  subst hs2
  clear hs
  unfold obV frV frC
  simp only
  obtain ⟨v1, hv1⟩ : ∃ W, w.alloc (.cells #[.int .i64 kd, .int .i64 o0, .int .i64 o1, .int .i64 o2, .int .i64 o3, .int .i64 o4, .int .i64 o5, .int .u32 wa, .int .u32 to, .slice A n c, .slice B m d] 29) = W := ⟨_, rfl⟩
  have fr1 : Fr w v1 w.heap.size [.cells #[.int .i64 kd, .int .i64 o0, .int .i64 o1, .int .i64 o2, .int .i64 o3, .int .i64 o4, .int .i64 o5, .int .u32 wa, .int .u32 to, .slice A n c, .slice B m d] 29] := hv1 ▸ Fr.first w _
  have z1 : v1.heap.size = w.heap.size + 1 := by rw [← hv1, Fr.size1]
  obtain ⟨v2, hv2⟩ : ∃ W, v1.alloc (.cells #[.int .i64 op, .int .i64 1, .int .i64 phase, .int .i64 old, .int .i64 since, .int .i64 left, .bool awoke, .bool starve, .int .i64 need, .bool front] 31) = W := ⟨_, rfl⟩
  have fr2 : Fr w v2 w.heap.size [.cells #[.int .i64 kd, .int .i64 o0, .int .i64 o1, .int .i64 o2, .int .i64 o3, .int .i64 o4, .int .i64 o5, .int .u32 wa, .int .u32 to, .slice A n c, .slice B m d] 29, .cells #[.int .i64 op, .int .i64 1, .int .i64 phase, .int .i64 old, .int .i64 since, .int .i64 left, .bool awoke, .bool starve, .int .i64 need, .bool front] 31] := hv2 ▸ fr1.more z1 _
  have z2 : v2.heap.size = w.heap.size + 2 := by rw [← hv2, Fr.size1, z1]
  obtain ⟨v3, hv3⟩ : ∃ W, v2.alloc (.cells #[.int .i64 0, .int .i64 0, .int .i64 0, .int .i64 0, .int .i64 0, .int .i64 0, .int .i64 0, .int .u32 0, .int .u32 0, .slice none 0 0, .slice none 0 0] 29) = W := ⟨_, rfl⟩
  have fr3 : Fr w v3 w.heap.size [.cells #[.int .i64 kd, .int .i64 o0, .int .i64 o1, .int .i64 o2, .int .i64 o3, .int .i64 o4, .int .i64 o5, .int .u32 wa, .int .u32 to, .slice A n c, .slice B m d] 29, .cells #[.int .i64 op, .int .i64 1, .int .i64 phase, .int .i64 old, .int .i64 since, .int .i64 left, .bool awoke, .bool starve, .int .i64 need, .bool front] 31, .cells #[.int .i64 0, .int .i64 0, .int .i64 0, .int .i64 0, .int .i64 0, .int .i64 0, .int .i64 0, .int .u32 0, .int .u32 0, .slice none 0 0, .slice none 0 0] 29] := hv3 ▸ fr2.more z2 _
  have z3 : v3.heap.size = w.heap.size + 3 := by rw [← hv3, Fr.size1, z2]
  obtain ⟨v4, hv4⟩ : ∃ W, v3.alloc (.cells #[.int .i64 0, .int .i64 0, .int .i64 0, .int .i64 0, .int .i64 0, .int .i64 0, .bool false, .bool false, .int .i64 0, .bool false] 31) = W := ⟨_, rfl⟩
  have fr4 : Fr w v4 w.heap.size [.cells #[.int .i64 kd, .int .i64 o0, .int .i64 o1, .int .i64 o2, .int .i64 o3, .int .i64 o4, .int .i64 o5, .int .u32 wa, .int .u32 to, .slice A n c, .slice B m d] 29, .cells #[.int .i64 op, .int .i64 1, .int .i64 phase, .int .i64 old, .int .i64 since, .int .i64 left, .bool awoke, .bool starve, .int .i64 need, .bool front] 31, .cells #[.int .i64 0, .int .i64 0, .int .i64 0, .int .i64 0, .int .i64 0, .int .i64 0, .int .i64 0, .int .u32 0, .int .u32 0, .slice none 0 0, .slice none 0 0] 29, .cells #[.int .i64 0, .int .i64 0, .int .i64 0, .int .i64 0, .int .i64 0, .int .i64 0, .bool false, .bool false, .int .i64 0, .bool false] 31] := hv4 ▸ fr3.more z3 _
  have z4 : v4.heap.size = w.heap.size + 4 := by rw [← hv4, Fr.size1, z3]
  obtain ⟨v5, hv5⟩ : ∃ W, v4.alloc (.cells #[.bool false, .bool false, .bool false, .int .i64 0, .int .i64 0, .int .u64 0, .slice none 0 0] 38) = W := ⟨_, rfl⟩
  have fr5 : Fr w v5 w.heap.size [.cells #[.int .i64 kd, .int .i64 o0, .int .i64 o1, .int .i64 o2, .int .i64 o3, .int .i64 o4, .int .i64 o5, .int .u32 wa, .int .u32 to, .slice A n c, .slice B m d] 29, .cells #[.int .i64 op, .int .i64 1, .int .i64 phase, .int .i64 old, .int .i64 since, .int .i64 left, .bool awoke, .bool starve, .int .i64 need, .bool front] 31, .cells #[.int .i64 0, .int .i64 0, .int .i64 0, .int .i64 0, .int .i64 0, .int .i64 0, .int .i64 0, .int .u32 0, .int .u32 0, .slice none 0 0, .slice none 0 0] 29, .cells #[.int .i64 0, .int .i64 0, .int .i64 0, .int .i64 0, .int .i64 0, .int .i64 0, .bool false, .bool false, .int .i64 0, .bool false] 31, .cells #[.bool false, .bool false, .bool false, .int .i64 0, .int .i64 0, .int .u64 0, .slice none 0 0] 38] := hv5 ▸ fr4.more z4 _
  have z5 : v5.heap.size = w.heap.size + 5 := by rw [← hv5, Fr.size1, z4]
  generalize hq : w.heap.size = q at *
  have FR := Lib.hid fr5
  clear fr1 fr2 fr3 fr4 fr5
  by_cases h0 : 0 < left
  · have c0 : decide (0 < left) = true := decide_eq_true h0
    obtain ⟨x, hx⟩ : ∃ x, IntKind.i64.wrap (left - 1) = x := ⟨_, rfl⟩
    have HE := Lib.hid (show wunlockW o0 o4 o5 ⟨op, 1, phase, old, since, left, awoke, starve, need, front⟩ = ((o0, o4, o5), ⟨op, 1, phase, old, since, x, awoke, starve, need, front⟩, ⟨false, 4, false, 0⟩) from by
      unfold wunlockW
      rw [if_neg (fun h => (show ¬ ((1 : Int) = 0) by decide) h.1), if_neg (show ¬ ((1 : Int) = 0) by decide), if_pos ⟨rfl, h0⟩, hx])
    clear h0
    go_enter Try.func37, Try.ntmps37
    obtain ⟨ac00, ac01, ac02, ac03, ac04, ac05, ac06, ac07, ac08, ac09, ac010⟩ := row11 (b := q) (FR.out.at 0 rfl rfl)
    obtain ⟨ac10, ac11, ac12, ac13, ac14, ac15, ac16, ac17, ac18, ac19⟩ := row10 (b := q + 1) (FR.out.at 1 rfl rfl)
    have af15 : v5.frozen? ⟨q + 1, 5, none⟩ = false := FR.out.frozen 1 5 rfl rfl
    obtain ⟨w6p, hw6p⟩ : ∃ W, (v5.setCell ⟨q + 1, 5, none⟩ (.int .i64 x)) = W := ⟨_, rfl⟩
    replace FR := Lib.hid (((FR.out.set 1 5 rfl rfl (.int .i64 x))).eqw hw6p)
    obtain ⟨bc00, bc01, bc02, bc03, bc04, bc05, bc06, bc07, bc08, bc09, bc010⟩ := row11 (b := q) (FR.out.at 0 rfl rfl)
    obtain ⟨bc10, bc11, bc12, bc13, bc14, bc15, bc16, bc17, bc18, bc19⟩ := row10 (b := q + 1) (FR.out.at 1 rfl rfl)
    go_wp2
    clear ac00 ac01 ac02 ac03 ac04 ac05 ac06 ac07 ac08 ac09 ac010 ac10 ac11 ac12 ac13 ac14 ac15 ac16 ac17 ac18 ac19 af15 bc00 bc01 bc02 bc03 bc04 bc05 bc06 bc07 bc08 bc09 bc010 bc10 bc11 bc12 bc13 bc14 bc15 bc16 bc17 bc18 bc19
    have HF0 := Lib.hid FR.out.drew
    obtain ⟨w7r, hw7r⟩ : ∃ W, w6p.drew.setCells (q + 2) 0 [.int .i64 kd, .int .i64 o0, .int .i64 o1, .int .i64 o2, .int .i64 o3, .int .i64 o4, .int .i64 o5, .int .u32 wa, .int .u32 to, .slice A n c, .slice B m d] = W := ⟨_, rfl⟩
    have HF1 := Lib.hid ((HF0.out.all 2 rfl rfl (by rfl)).eqw hw7r)
    have hh1 := Lib.hid hw7r
    clear hw7r
    obtain ⟨w8r, hw8r⟩ : ∃ W, w7r.setCells (q + 3) 0 [.int .i64 op, .int .i64 1, .int .i64 phase, .int .i64 old, .int .i64 since, .int .i64 x, .bool awoke, .bool starve, .int .i64 need, .bool front] = W := ⟨_, rfl⟩
    have HF2 := Lib.hid ((HF1.out.all 3 rfl rfl (by rfl)).eqw hw8r)
    have hh2 := Lib.hid hw8r
    clear hw8r
    obtain ⟨w9r, hw9r⟩ : ∃ W, w8r.setCells (q + 4) 0 [.bool false, .bool false, .bool false, .int .i64 4, .int .i64 0, .int .u64 0, .slice none 0 0] = W := ⟨_, rfl⟩
    have HF3 := Lib.hid ((HF2.out.all 4 rfl rfl (by rfl)).eqw hw9r)
    have hh3 := Lib.hid hw9r
    clear hw9r
    refine wp_region_noPanic ?_
    refine wp_region_held_drew (S := (fun wv => Hid (wv.heap[q]? = some (.cells #[.int .i64 kd, .int .i64 o0, .int .i64 o1, .int .i64 o2, .int .i64 o3, .int .i64 o4, .int .i64 o5, .int .u32 wa, .int .u32 to, .slice A n c, .slice B m d] 29) ∧ wv.heap[q + 1]? = some (.cells #[.int .i64 op, .int .i64 1, .int .i64 phase, .int .i64 old, .int .i64 since, .int .i64 x, .bool awoke, .bool starve, .int .i64 need, .bool front] 31)))) (by kernel_rfl) (Lib.hid (show w6p.drew.heap[q]? = some (.cells #[.int .i64 kd, .int .i64 o0, .int .i64 o1, .int .i64 o2, .int .i64 o3, .int .i64 o4, .int .i64 o5, .int .u32 wa, .int .u32 to, .slice A n c, .slice B m d] 29) ∧ w6p.drew.heap[q + 1]? = some (.cells #[.int .i64 op, .int .i64 1, .int .i64 phase, .int .i64 old, .int .i64 since, .int .i64 x, .bool awoke, .bool starve, .int .i64 need, .bool front] 31) from ⟨HF0.out.blk 0 _ rfl, HF0.out.blk 1 _ rfl⟩)) (fun hS => ?_)
    refine wpAnyH_take (i := 0) (oi := ⟨some 14, .load 29 (.tmp 2), 29, "write.go:72", #[], none⟩) (v := .agg (([.int .i64 kd, .int .i64 o0, .int .i64 o1, .int .i64 o2, .int .i64 o3, .int .i64 o4, .int .i64 o5, .int .u32 wa, .int .u32 to, .slice A n c, .slice B m d] : List Value)).toArray) rfl (by kernel_rfl) (by kernel_rfl) (by kernel_rfl) (fun _ _ _ h => h) (yieldsIf_load_mid (by rfl) _ _ (by rfl) (q) (0) (by rfl) (([.int .i64 kd, .int .i64 o0, .int .i64 o1, .int .i64 o2, .int .i64 o3, .int .i64 o4, .int .i64 o5, .int .u32 wa, .int .u32 to, .slice A n c, .slice B m d] : List Value)) _ (fun wv hS => blk_rngl hS.out.1) Try.underlying29 (by rfl) (by kernel_rfl)) hS ?_
    try simp only [Act.put, List.setIfInBounds_toArray, List.set_cons_zero, List.set_cons_succ]
    refine wpAnyH_take (i := 1) (oi := ⟨some 15, .load 31 (.tmp 3), 31, "write.go:72", #[⟨3, .gcOnly .lateStores⟩], none⟩) (v := .agg (([.int .i64 op, .int .i64 1, .int .i64 phase, .int .i64 old, .int .i64 since, .int .i64 x, .bool awoke, .bool starve, .int .i64 need, .bool front] : List Value)).toArray) rfl (by kernel_rfl) (by kernel_rfl) (by kernel_rfl) (fun _ _ _ h => h) (yieldsIf_load_mid (by rfl) _ _ (by rfl) (q + 1) (0) (by rfl) (([.int .i64 op, .int .i64 1, .int .i64 phase, .int .i64 old, .int .i64 since, .int .i64 x, .bool awoke, .bool starve, .int .i64 need, .bool front] : List Value)) _ (fun wv hS => blk_rngl hS.out.2) Try.underlying31 (by rfl) (by kernel_rfl)) hS ?_
    try simp only [Act.put, List.setIfInBounds_toArray, List.set_cons_zero, List.set_cons_succ]
    refine wpAnyH_take (i := 2) (oi := ⟨some 16, .build 38 #[(3, .const (Value.int IntKind.i64 4))], 38, "write.go:72", #[⟨4, .gcOnly .lateStores⟩], none⟩) (v := ?_) rfl (by kernel_rfl) (by kernel_rfl) (by kernel_rfl) (fun _ _ _ h => h) (Or.inl ⟨by rfl, ?_⟩) hS ?_
    rotate_left
    · intro wv _; go_simp; try with_reducible rfl
    try simp only [Act.put, List.setIfInBounds_toArray, List.set_cons_zero, List.set_cons_succ]
    refine wpAnyH_ready (rs := [3]) (by kernel_rfl) (by simp) (AllReadyH.cons (o := ⟨none, .store 29 (.tmp 4) (.tmp 14), 0, "write.go:72", #[⟨0, .data⟩, ⟨0, .phase⟩, ⟨1, .textOnly .lateStores⟩, ⟨2, .textOnly .lateStores⟩], none⟩) rfl (fun K hK => ?_) AllReadyH.nil)
    refine op_storeS (by rfl) rfl rfl rfl (there_blk (HF0.out.blk 2 _ rfl) rfl) (by kernel_rfl) (by simp [Value.oneCell']) hh1.out ?_
    replace hS := Lib.hid (show w7r.heap[q]? = some (.cells #[.int .i64 kd, .int .i64 o0, .int .i64 o1, .int .i64 o2, .int .i64 o3, .int .i64 o4, .int .i64 o5, .int .u32 wa, .int .u32 to, .slice A n c, .slice B m d] 29) ∧ w7r.heap[q + 1]? = some (.cells #[.int .i64 op, .int .i64 1, .int .i64 phase, .int .i64 old, .int .i64 since, .int .i64 x, .bool awoke, .bool starve, .int .i64 need, .bool front] 31) from ⟨HF1.out.blk 0 _ rfl, HF1.out.blk 1 _ rfl⟩)
    refine Shut.out hK _ _ hS (fun _ => ?_)
    clear hK K
    try simp only [Act.put, List.setIfInBounds_toArray, List.set_cons_zero, List.set_cons_succ]
    refine wpAnyH_ready (rs := [4]) (by kernel_rfl) (by simp) (AllReadyH.cons (o := ⟨none, .store 31 (.tmp 5) (.tmp 15), 0, "write.go:72", #[⟨1, .data⟩, ⟨3, .chain⟩, ⟨0, .phase⟩, ⟨1, .phase⟩, ⟨2, .textOnly .lateStores⟩, ⟨3, .phase⟩], none⟩) rfl (fun K hK => ?_) AllReadyH.nil)
    refine op_storeS (by rfl) rfl rfl rfl (there_blk (HF1.out.blk 3 _ rfl) rfl) (by kernel_rfl) (by simp [Value.oneCell']) hh2.out ?_
    replace hS := Lib.hid (show w8r.heap[q]? = some (.cells #[.int .i64 kd, .int .i64 o0, .int .i64 o1, .int .i64 o2, .int .i64 o3, .int .i64 o4, .int .i64 o5, .int .u32 wa, .int .u32 to, .slice A n c, .slice B m d] 29) ∧ w8r.heap[q + 1]? = some (.cells #[.int .i64 op, .int .i64 1, .int .i64 phase, .int .i64 old, .int .i64 since, .int .i64 x, .bool awoke, .bool starve, .int .i64 need, .bool front] 31) from ⟨HF2.out.blk 0 _ rfl, HF2.out.blk 1 _ rfl⟩)
    refine Shut.out hK _ _ hS (fun _ => ?_)
    clear hK K
    try simp only [Act.put, List.setIfInBounds_toArray, List.set_cons_zero, List.set_cons_succ]
    refine wpAnyH_ready (rs := [5]) (by kernel_rfl) (by simp) (AllReadyH.cons (o := ⟨none, .store 38 (.tmp 6) (.tmp 16), 0, "write.go:72", #[⟨2, .data⟩, ⟨4, .chain⟩, ⟨0, .phase⟩, ⟨1, .phase⟩, ⟨2, .phase⟩, ⟨3, .phase⟩, ⟨4, .phase⟩], none⟩) rfl (fun K hK => ?_) AllReadyH.nil)
    refine op_storeS (by rfl) rfl rfl rfl (there_blk (HF2.out.blk 4 _ rfl) rfl) (by kernel_rfl) (by simp [Value.oneCell']) hh3.out ?_
    replace hS := Lib.hid (show w9r.heap[q]? = some (.cells #[.int .i64 kd, .int .i64 o0, .int .i64 o1, .int .i64 o2, .int .i64 o3, .int .i64 o4, .int .i64 o5, .int .u32 wa, .int .u32 to, .slice A n c, .slice B m d] 29) ∧ w9r.heap[q + 1]? = some (.cells #[.int .i64 op, .int .i64 1, .int .i64 phase, .int .i64 old, .int .i64 since, .int .i64 x, .bool awoke, .bool starve, .int .i64 need, .bool front] 31) from ⟨HF3.out.blk 0 _ rfl, HF3.out.blk 1 _ rfl⟩)
    refine Shut.out hK _ _ hS (fun _ => ?_)
    clear hK K
    try simp only [Act.put, List.setIfInBounds_toArray, List.set_cons_zero, List.set_cons_succ]
    refine wpAnyH_done (by kernel_rfl) ?_ _
    refine NoPanic.normal ?_
    go_wp2
    refine bodyPost_ret (res_ccc Try.results37 (by rfl) (by rfl) (by rfl) (HF3.out.load 2 rfl rfl Try.underlying29 (by kernel_rfl)) (HF3.out.load 3 rfl rfl Try.underlying31 (by kernel_rfl)) (HF3.out.load 4 rfl rfl Try.underlying38 (by kernel_rfl))) rfl ?_
    replace FR := HF3
    rw [HE.out]
    exact ⟨rfl, FR.out.out⟩
  · have c0 : decide (0 < left) = false := decide_eq_false h0
    have HE := Lib.hid (show wunlockW o0 o4 o5 ⟨op, 1, phase, old, since, left, awoke, starve, need, front⟩ = ((o0, o4, o5), ⟨op, 2, 0, old, since, left, awoke, starve, need, front⟩, noA) from by
      unfold wunlockW
      rw [if_neg (fun h => (show ¬ ((1 : Int) = 0) by decide) h.1), if_neg (show ¬ ((1 : Int) = 0) by decide), if_neg (fun h => h0 h.2), if_pos rfl])
    clear h0
    go_enter Try.func37, Try.ntmps37
    obtain ⟨ac00, ac01, ac02, ac03, ac04, ac05, ac06, ac07, ac08, ac09, ac010⟩ := row11 (b := q) (FR.out.at 0 rfl rfl)
    obtain ⟨ac10, ac11, ac12, ac13, ac14, ac15, ac16, ac17, ac18, ac19⟩ := row10 (b := q + 1) (FR.out.at 1 rfl rfl)
    have af11 : v5.frozen? ⟨q + 1, 1, none⟩ = false := FR.out.frozen 1 1 rfl rfl
    have af12 : v5.frozen? ⟨q + 1, 2, none⟩ = false := FR.out.frozen 1 2 rfl rfl
    obtain ⟨w6p, hw6p⟩ : ∃ W, ((v5.setCell ⟨q + 1, 1, none⟩ (.int .i64 2)).setCell ⟨q + 1, 2, none⟩ (.int .i64 0)) = W := ⟨_, rfl⟩
    replace FR := Lib.hid ((((FR.out.set 1 1 rfl rfl (.int .i64 2)).set 1 2 rfl rfl (.int .i64 0))).eqw hw6p)
    obtain ⟨bc00, bc01, bc02, bc03, bc04, bc05, bc06, bc07, bc08, bc09, bc010⟩ := row11 (b := q) (FR.out.at 0 rfl rfl)
    obtain ⟨bc10, bc11, bc12, bc13, bc14, bc15, bc16, bc17, bc18, bc19⟩ := row10 (b := q + 1) (FR.out.at 1 rfl rfl)
    go_wp2
    clear ac00 ac01 ac02 ac03 ac04 ac05 ac06 ac07 ac08 ac09 ac010 ac10 ac11 ac12 ac13 ac14 ac15 ac16 ac17 ac18 ac19 af11 af12 bc00 bc01 bc02 bc03 bc04 bc05 bc06 bc07 bc08 bc09 bc010 bc10 bc11 bc12 bc13 bc14 bc15 bc16 bc17 bc18 bc19
    have HF0 := Lib.hid FR.out.drew
    obtain ⟨w7r, hw7r⟩ : ∃ W, w6p.drew.setCells (q + 2) 0 [.int .i64 kd, .int .i64 o0, .int .i64 o1, .int .i64 o2, .int .i64 o3, .int .i64 o4, .int .i64 o5, .int .u32 wa, .int .u32 to, .slice A n c, .slice B m d] = W := ⟨_, rfl⟩
    have HF1 := Lib.hid ((HF0.out.all 2 rfl rfl (by rfl)).eqw hw7r)
    have hh1 := Lib.hid hw7r
    clear hw7r
    obtain ⟨w8r, hw8r⟩ : ∃ W, w7r.setCells (q + 3) 0 [.int .i64 op, .int .i64 2, .int .i64 0, .int .i64 old, .int .i64 since, .int .i64 left, .bool awoke, .bool starve, .int .i64 need, .bool front] = W := ⟨_, rfl⟩
    have HF2 := Lib.hid ((HF1.out.all 3 rfl rfl (by rfl)).eqw hw8r)
    have hh2 := Lib.hid hw8r
    clear hw8r
    obtain ⟨w9r, hw9r⟩ : ∃ W, w8r.setCells (q + 4) 0 [.bool false, .bool false, .bool false, .int .i64 0, .int .i64 0, .int .u64 0, .slice none 0 0] = W := ⟨_, rfl⟩
    have HF3 := Lib.hid ((HF2.out.all 4 rfl rfl (by rfl)).eqw hw9r)
    have hh3 := Lib.hid hw9r
    clear hw9r
    refine wp_region_noPanic ?_
    refine wp_region_held_drew (S := (fun wv => Hid (wv.heap[q]? = some (.cells #[.int .i64 kd, .int .i64 o0, .int .i64 o1, .int .i64 o2, .int .i64 o3, .int .i64 o4, .int .i64 o5, .int .u32 wa, .int .u32 to, .slice A n c, .slice B m d] 29) ∧ wv.heap[q + 1]? = some (.cells #[.int .i64 op, .int .i64 2, .int .i64 0, .int .i64 old, .int .i64 since, .int .i64 left, .bool awoke, .bool starve, .int .i64 need, .bool front] 31)))) (by kernel_rfl) (Lib.hid (show w6p.drew.heap[q]? = some (.cells #[.int .i64 kd, .int .i64 o0, .int .i64 o1, .int .i64 o2, .int .i64 o3, .int .i64 o4, .int .i64 o5, .int .u32 wa, .int .u32 to, .slice A n c, .slice B m d] 29) ∧ w6p.drew.heap[q + 1]? = some (.cells #[.int .i64 op, .int .i64 2, .int .i64 0, .int .i64 old, .int .i64 since, .int .i64 left, .bool awoke, .bool starve, .int .i64 need, .bool front] 31) from ⟨HF0.out.blk 0 _ rfl, HF0.out.blk 1 _ rfl⟩)) (fun hS => ?_)
    refine wpAnyH_take (i := 0) (oi := ⟨some 19, .load 29 (.tmp 2), 29, "write.go:76", #[], none⟩) (v := .agg (([.int .i64 kd, .int .i64 o0, .int .i64 o1, .int .i64 o2, .int .i64 o3, .int .i64 o4, .int .i64 o5, .int .u32 wa, .int .u32 to, .slice A n c, .slice B m d] : List Value)).toArray) rfl (by kernel_rfl) (by kernel_rfl) (by kernel_rfl) (fun _ _ _ h => h) (yieldsIf_load_mid (by rfl) _ _ (by rfl) (q) (0) (by rfl) (([.int .i64 kd, .int .i64 o0, .int .i64 o1, .int .i64 o2, .int .i64 o3, .int .i64 o4, .int .i64 o5, .int .u32 wa, .int .u32 to, .slice A n c, .slice B m d] : List Value)) _ (fun wv hS => blk_rngl hS.out.1) Try.underlying29 (by rfl) (by kernel_rfl)) hS ?_
    try simp only [Act.put, List.setIfInBounds_toArray, List.set_cons_zero, List.set_cons_succ]
    refine wpAnyH_take (i := 1) (oi := ⟨some 20, .load 31 (.tmp 3), 31, "write.go:76", #[⟨3, .gcOnly .lateStores⟩], none⟩) (v := .agg (([.int .i64 op, .int .i64 2, .int .i64 0, .int .i64 old, .int .i64 since, .int .i64 left, .bool awoke, .bool starve, .int .i64 need, .bool front] : List Value)).toArray) rfl (by kernel_rfl) (by kernel_rfl) (by kernel_rfl) (fun _ _ _ h => h) (yieldsIf_load_mid (by rfl) _ _ (by rfl) (q + 1) (0) (by rfl) (([.int .i64 op, .int .i64 2, .int .i64 0, .int .i64 old, .int .i64 since, .int .i64 left, .bool awoke, .bool starve, .int .i64 need, .bool front] : List Value)) _ (fun wv hS => blk_rngl hS.out.2) Try.underlying31 (by rfl) (by kernel_rfl)) hS ?_
    try simp only [Act.put, List.setIfInBounds_toArray, List.set_cons_zero, List.set_cons_succ]
    refine wpAnyH_take (i := 2) (oi := ⟨some 21, .build 38 #[], 38, "write.go:76", #[⟨4, .gcOnly .lateStores⟩], none⟩) (v := ?_) rfl (by kernel_rfl) (by kernel_rfl) (by kernel_rfl) (fun _ _ _ h => h) (Or.inl ⟨by rfl, ?_⟩) hS ?_
    rotate_left
    · intro wv _; go_simp; try with_reducible rfl
    try simp only [Act.put, List.setIfInBounds_toArray, List.set_cons_zero, List.set_cons_succ]
    refine wpAnyH_ready (rs := [3]) (by kernel_rfl) (by simp) (AllReadyH.cons (o := ⟨none, .store 29 (.tmp 4) (.tmp 19), 0, "write.go:76", #[⟨0, .data⟩, ⟨0, .phase⟩, ⟨1, .textOnly .lateStores⟩, ⟨2, .textOnly .lateStores⟩], none⟩) rfl (fun K hK => ?_) AllReadyH.nil)
    refine op_storeS (by rfl) rfl rfl rfl (there_blk (HF0.out.blk 2 _ rfl) rfl) (by kernel_rfl) (by simp [Value.oneCell']) hh1.out ?_
    replace hS := Lib.hid (show w7r.heap[q]? = some (.cells #[.int .i64 kd, .int .i64 o0, .int .i64 o1, .int .i64 o2, .int .i64 o3, .int .i64 o4, .int .i64 o5, .int .u32 wa, .int .u32 to, .slice A n c, .slice B m d] 29) ∧ w7r.heap[q + 1]? = some (.cells #[.int .i64 op, .int .i64 2, .int .i64 0, .int .i64 old, .int .i64 since, .int .i64 left, .bool awoke, .bool starve, .int .i64 need, .bool front] 31) from ⟨HF1.out.blk 0 _ rfl, HF1.out.blk 1 _ rfl⟩)
    refine Shut.out hK _ _ hS (fun _ => ?_)
    clear hK K
    try simp only [Act.put, List.setIfInBounds_toArray, List.set_cons_zero, List.set_cons_succ]
    refine wpAnyH_ready (rs := [4]) (by kernel_rfl) (by simp) (AllReadyH.cons (o := ⟨none, .store 31 (.tmp 5) (.tmp 20), 0, "write.go:76", #[⟨1, .data⟩, ⟨3, .chain⟩, ⟨0, .phase⟩, ⟨1, .phase⟩, ⟨2, .textOnly .lateStores⟩, ⟨3, .phase⟩], none⟩) rfl (fun K hK => ?_) AllReadyH.nil)
    refine op_storeS (by rfl) rfl rfl rfl (there_blk (HF1.out.blk 3 _ rfl) rfl) (by kernel_rfl) (by simp [Value.oneCell']) hh2.out ?_
    replace hS := Lib.hid (show w8r.heap[q]? = some (.cells #[.int .i64 kd, .int .i64 o0, .int .i64 o1, .int .i64 o2, .int .i64 o3, .int .i64 o4, .int .i64 o5, .int .u32 wa, .int .u32 to, .slice A n c, .slice B m d] 29) ∧ w8r.heap[q + 1]? = some (.cells #[.int .i64 op, .int .i64 2, .int .i64 0, .int .i64 old, .int .i64 since, .int .i64 left, .bool awoke, .bool starve, .int .i64 need, .bool front] 31) from ⟨HF2.out.blk 0 _ rfl, HF2.out.blk 1 _ rfl⟩)
    refine Shut.out hK _ _ hS (fun _ => ?_)
    clear hK K
    try simp only [Act.put, List.setIfInBounds_toArray, List.set_cons_zero, List.set_cons_succ]
    refine wpAnyH_ready (rs := [5]) (by kernel_rfl) (by simp) (AllReadyH.cons (o := ⟨none, .store 38 (.tmp 6) (.tmp 21), 0, "write.go:76", #[⟨2, .data⟩, ⟨4, .chain⟩, ⟨0, .phase⟩, ⟨1, .phase⟩, ⟨2, .phase⟩, ⟨3, .phase⟩, ⟨4, .phase⟩], none⟩) rfl (fun K hK => ?_) AllReadyH.nil)
    refine op_storeS (by rfl) rfl rfl rfl (there_blk (HF2.out.blk 4 _ rfl) rfl) (by kernel_rfl) (by simp [Value.oneCell']) hh3.out ?_
    replace hS := Lib.hid (show w9r.heap[q]? = some (.cells #[.int .i64 kd, .int .i64 o0, .int .i64 o1, .int .i64 o2, .int .i64 o3, .int .i64 o4, .int .i64 o5, .int .u32 wa, .int .u32 to, .slice A n c, .slice B m d] 29) ∧ w9r.heap[q + 1]? = some (.cells #[.int .i64 op, .int .i64 2, .int .i64 0, .int .i64 old, .int .i64 since, .int .i64 left, .bool awoke, .bool starve, .int .i64 need, .bool front] 31) from ⟨HF3.out.blk 0 _ rfl, HF3.out.blk 1 _ rfl⟩)
    refine Shut.out hK _ _ hS (fun _ => ?_)
    clear hK K
    try simp only [Act.put, List.setIfInBounds_toArray, List.set_cons_zero, List.set_cons_succ]
    refine wpAnyH_done (by kernel_rfl) ?_ _
    refine NoPanic.normal ?_
    go_wp2
    refine bodyPost_ret (res_ccc Try.results37 (by rfl) (by rfl) (by rfl) (HF3.out.load 2 rfl rfl Try.underlying29 (by kernel_rfl)) (HF3.out.load 3 rfl rfl Try.underlying31 (by kernel_rfl)) (HF3.out.load 4 rfl rfl Try.underlying38 (by kernel_rfl))) rfl ?_
    replace FR := HF3
    rw [HE.out]
    exact ⟨rfl, FR.out.out⟩
end Go.Proofs.Ytakojjljnnooaaa
