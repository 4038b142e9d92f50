/- Layer 16: what the document's own over, on, fault and Stage answer; no condition. -/
import Derived.Test.YtakojjljnnooaaaRwA
import Derived.Test.YtakojjljnnooaaaSyA
import Derived.Test.YtakojjljnnooaaaAreG
import Derived.Deep.RegionHeld3
import Derived.BigQuiet
import Derived.Deep.QuietTactic
namespace Go.Proofs.Ytakojjljnnooaaa
set_option linter.unusedVariables false
set_option linter.unusedSimpArgs false
open Go.RowKit
/-- a step's object, frame and act. -/
def StepR (w : World) (kd o1 o2 o3 wa to : Int) (A : Option Addr) (n c : Nat) (B : Option Addr) (m d : Nat) (r : RwR) (e : Ending) (w' : World) : Prop :=
  e = .returned (.tuple #[obV kd r.1.1 o1 o2 o3 r.1.2.1 r.1.2.2 wa to A n c B m d, frV r.2.1, acV r.2.2]) ∧ Below w.heap.size w w'
set_option maxRecDepth 100000 in
set_option maxHeartbeats 16000000 in
theorem over16_any (kd o0 o1 o2 o3 o4 o5 wa to : Int) (A : Option Addr) (n c : Nat) (B : Option Addr) (m d : Nat) (w : World) : Calls Try.prog 24 #[.agg #[.int .i64 kd, .int .i64 o0, .int .i64 o1, .int .i64 o2, .int .i64 o3, .int .i64 o4, .int .i64 o5, .int .u32 wa, .int .u32 to, .slice A n c, .slice B m d]] w (fun e w' => e = .returned (.tuple #[.agg #[.int .i64 kd, .int .i64 o0, .int .i64 o1, .int .i64 o2, .int .i64 o3, .int .i64 o4, .int .i64 o5, .int .u32 wa, .int .u32 to, .slice A n c, .slice B m d], .agg #[.int .i64 0, .int .i64 0, .int .i64 0, .int .i64 0, .int .i64 0, .int .i64 0, .bool false, .bool false, .int .i64 0, .bool false], .agg #[.bool true, .bool false, .bool false, .int .i64 0, .int .i64 0, .int .u64 0, .slice none 0 0]]) ∧ Below w.heap.size w w') := by
  obtain ⟨v1, hv1⟩ : ∃ W, w.alloc (.cells #[.int .i64 kd, .int .i64 o0, .int .i64 o1, .int .i64 o2, .int .i64 o3, .int .i64 o4, .int .i64 o5, .int .u32 wa, .int .u32 to, .slice A n c, .slice B m d] 29) = W := ⟨_, rfl⟩
  have fr1 : Fr w v1 w.heap.size [.cells #[.int .i64 kd, .int .i64 o0, .int .i64 o1, .int .i64 o2, .int .i64 o3, .int .i64 o4, .int .i64 o5, .int .u32 wa, .int .u32 to, .slice A n c, .slice B m d] 29] := hv1 ▸ Fr.first w _
  have z1 : v1.heap.size = w.heap.size + 1 := by rw [← hv1, Fr.size1]
  obtain ⟨v2, hv2⟩ : ∃ W, v1.alloc (.cells #[.int .i64 0, .int .i64 0, .int .i64 0, .int .i64 0, .int .i64 0, .int .i64 0, .int .i64 0, .int .u32 0, .int .u32 0, .slice none 0 0, .slice none 0 0] 29) = W := ⟨_, rfl⟩
  have fr2 : Fr w v2 w.heap.size [.cells #[.int .i64 kd, .int .i64 o0, .int .i64 o1, .int .i64 o2, .int .i64 o3, .int .i64 o4, .int .i64 o5, .int .u32 wa, .int .u32 to, .slice A n c, .slice B m d] 29, .cells #[.int .i64 0, .int .i64 0, .int .i64 0, .int .i64 0, .int .i64 0, .int .i64 0, .int .i64 0, .int .u32 0, .int .u32 0, .slice none 0 0, .slice none 0 0] 29] := hv2 ▸ fr1.more z1 _
  have z2 : v2.heap.size = w.heap.size + 2 := by rw [← hv2, Fr.size1, z1]
  obtain ⟨v3, hv3⟩ : ∃ W, v2.alloc (.cells #[.int .i64 0, .int .i64 0, .int .i64 0, .int .i64 0, .int .i64 0, .int .i64 0, .bool false, .bool false, .int .i64 0, .bool false] 31) = W := ⟨_, rfl⟩
  have fr3 : Fr w v3 w.heap.size [.cells #[.int .i64 kd, .int .i64 o0, .int .i64 o1, .int .i64 o2, .int .i64 o3, .int .i64 o4, .int .i64 o5, .int .u32 wa, .int .u32 to, .slice A n c, .slice B m d] 29, .cells #[.int .i64 0, .int .i64 0, .int .i64 0, .int .i64 0, .int .i64 0, .int .i64 0, .int .i64 0, .int .u32 0, .int .u32 0, .slice none 0 0, .slice none 0 0] 29, .cells #[.int .i64 0, .int .i64 0, .int .i64 0, .int .i64 0, .int .i64 0, .int .i64 0, .bool false, .bool false, .int .i64 0, .bool false] 31] := hv3 ▸ fr2.more z2 _
  have z3 : v3.heap.size = w.heap.size + 3 := by rw [← hv3, Fr.size1, z2]
  obtain ⟨v4, hv4⟩ : ∃ W, v3.alloc (.cells #[.bool false, .bool false, .bool false, .int .i64 0, .int .i64 0, .int .u64 0, .slice none 0 0] 38) = W := ⟨_, rfl⟩
  have fr4 : Fr w v4 w.heap.size [.cells #[.int .i64 kd, .int .i64 o0, .int .i64 o1, .int .i64 o2, .int .i64 o3, .int .i64 o4, .int .i64 o5, .int .u32 wa, .int .u32 to, .slice A n c, .slice B m d] 29, .cells #[.int .i64 0, .int .i64 0, .int .i64 0, .int .i64 0, .int .i64 0, .int .i64 0, .int .i64 0, .int .u32 0, .int .u32 0, .slice none 0 0, .slice none 0 0] 29, .cells #[.int .i64 0, .int .i64 0, .int .i64 0, .int .i64 0, .int .i64 0, .int .i64 0, .bool false, .bool false, .int .i64 0, .bool false] 31, .cells #[.bool false, .bool false, .bool false, .int .i64 0, .int .i64 0, .int .u64 0, .slice none 0 0] 38] := hv4 ▸ fr3.more z3 _
  have z4 : v4.heap.size = w.heap.size + 4 := by rw [← hv4, Fr.size1, z3]
  generalize hq : w.heap.size = q at *
  have FR := Lib.hid fr4
  clear fr1 fr2 fr3 fr4
  go_enter Try.func24, Try.ntmps24
  obtain ⟨ac00, ac01, ac02, ac03, ac04, ac05, ac06, ac07, ac08, ac09, ac010⟩ := row11 (b := q) (FR.out.at 0 rfl rfl)
  obtain ⟨mc10, mc11, mc12, mc13, mc14, mc15, mc16, mc17, mc18, mc19, mc110⟩ := row11 (b := q + 1) (FR.out.at 1 rfl rfl)
  obtain ⟨mf10, mf11, mf12, mf13, mf14, mf15, mf16, mf17, mf18, mf19, mf110⟩ := frz11 (b := q + 1) (FR.out.at 1 rfl rfl)
  obtain ⟨w5r, hw5r⟩ : ∃ W, (((((((((((v4.setCell ⟨q + 1, 0, none⟩ (.int .i64 kd)).setCell ⟨q + 1, 1, none⟩ (.int .i64 o0)).setCell ⟨q + 1, 2, none⟩ (.int .i64 o1)).setCell ⟨q + 1, 3, none⟩ (.int .i64 o2)).setCell ⟨q + 1, 4, none⟩ (.int .i64 o3)).setCell ⟨q + 1, 5, none⟩ (.int .i64 o4)).setCell ⟨q + 1, 6, none⟩ (.int .i64 o5)).setCell ⟨q + 1, 7, none⟩ (.int .u32 wa)).setCell ⟨q + 1, 8, none⟩ (.int .u32 to)).setCell ⟨q + 1, 9, none⟩ (.slice A n c)).setCell ⟨q + 1, 10, none⟩ (.slice B m d)) = W := ⟨_, rfl⟩
  replace FR := Lib.hid ((FR.out.all 1 (vs := [.int .i64 kd, .int .i64 o0, .int .i64 o1, .int .i64 o2, .int .i64 o3, .int .i64 o4, .int .i64 o5, .int .u32 wa, .int .u32 to, .slice A n c, .slice B m d]) rfl rfl rfl).eqw hw5r)
  obtain ⟨nc20, nc21, nc22, nc23, nc24, nc25, nc26, nc27, nc28, nc29⟩ := row10 (b := q + 2) (FR.out.at 2 rfl rfl)
  obtain ⟨nf20, nf21, nf22, nf23, nf24, nf25, nf26, nf27, nf28, nf29⟩ := frz10 (b := q + 2) (FR.out.at 2 rfl rfl)
  obtain ⟨w6r, hw6r⟩ : ∃ W, ((((((((((w5r.setCell ⟨q + 2, 0, none⟩ (.int .i64 0)).setCell ⟨q + 2, 1, none⟩ (.int .i64 0)).setCell ⟨q + 2, 2, none⟩ (.int .i64 0)).setCell ⟨q + 2, 3, none⟩ (.int .i64 0)).setCell ⟨q + 2, 4, none⟩ (.int .i64 0)).setCell ⟨q + 2, 5, none⟩ (.int .i64 0)).setCell ⟨q + 2, 6, none⟩ (.bool false)).setCell ⟨q + 2, 7, none⟩ (.bool false)).setCell ⟨q + 2, 8, none⟩ (.int .i64 0)).setCell ⟨q + 2, 9, none⟩ (.bool false)) = W := ⟨_, rfl⟩
  replace FR := Lib.hid ((FR.out.all 2 (vs := [.int .i64 0, .int .i64 0, .int .i64 0, .int .i64 0, .int .i64 0, .int .i64 0, .bool false, .bool false, .int .i64 0, .bool false]) rfl rfl rfl).eqw hw6r)
  obtain ⟨oc30, oc31, oc32, oc33, oc34, oc35, oc36⟩ := row7 (b := q + 3) (FR.out.at 3 rfl rfl)
  obtain ⟨of30, of31, of32, of33, of34, of35, of36⟩ := frz7 (b := q + 3) (FR.out.at 3 rfl rfl)
  obtain ⟨w7r, hw7r⟩ : ∃ W, (((((((w6r.setCell ⟨q + 3, 0, none⟩ (.bool true)).setCell ⟨q + 3, 1, none⟩ (.bool false)).setCell ⟨q + 3, 2, none⟩ (.bool false)).setCell ⟨q + 3, 3, none⟩ (.int .i64 0)).setCell ⟨q + 3, 4, none⟩ (.int .i64 0)).setCell ⟨q + 3, 5, none⟩ (.int .u64 0)).setCell ⟨q + 3, 6, none⟩ (.slice none 0 0)) = W := ⟨_, rfl⟩
  replace FR := Lib.hid ((FR.out.all 3 (vs := [.bool true, .bool false, .bool false, .int .i64 0, .int .i64 0, .int .u64 0, .slice none 0 0]) rfl rfl rfl).eqw hw7r)
  go_wp2
  refine bodyPost_ret (res_ccc Try.results24 (by rfl) (by rfl) (by rfl) (FR.out.load 1 rfl rfl Try.underlying29 (by kernel_rfl)) (FR.out.load 2 rfl rfl Try.underlying31 (by kernel_rfl)) (FR.out.load 3 rfl rfl Try.underlying38 (by kernel_rfl))) rfl ?_
  exact ⟨rfl, FR.out.bel⟩
set_option maxRecDepth 100000 in
set_option maxHeartbeats 16000000 in
theorem fault16_any (kd o0 o1 o2 o3 o4 o5 wa to : Int) (A : Option Addr) (n c : Nat) (B : Option Addr) (m d : Nat) (w : World) : Calls Try.prog 28 #[.agg #[.int .i64 kd, .int .i64 o0, .int .i64 o1, .int .i64 o2, .int .i64 o3, .int .i64 o4, .int .i64 o5, .int .u32 wa, .int .u32 to, .slice A n c, .slice B m d]] w (fun e w' => e = .returned (.tuple #[.agg #[.int .i64 kd, .int .i64 o0, .int .i64 o1, .int .i64 o2, .int .i64 o3, .int .i64 o4, .int .i64 o5, .int .u32 wa, .int .u32 to, .slice A n c, .slice B m d], .agg #[.int .i64 0, .int .i64 0, .int .i64 0, .int .i64 0, .int .i64 0, .int .i64 0, .bool false, .bool false, .int .i64 0, .bool false], .agg #[.bool false, .bool false, .bool false, .int .i64 0, .int .i64 1, .int .u64 0, .slice none 0 0]]) ∧ Below w.heap.size w w') := by
  obtain ⟨v1, hv1⟩ : ∃ W, w.alloc (.cells #[.int .i64 kd, .int .i64 o0, .int .i64 o1, .int .i64 o2, .int .i64 o3, .int .i64 o4, .int .i64 o5, .int .u32 wa, .int .u32 to, .slice A n c, .slice B m d] 29) = W := ⟨_, rfl⟩
  have fr1 : Fr w v1 w.heap.size [.cells #[.int .i64 kd, .int .i64 o0, .int .i64 o1, .int .i64 o2, .int .i64 o3, .int .i64 o4, .int .i64 o5, .int .u32 wa, .int .u32 to, .slice A n c, .slice B m d] 29] := hv1 ▸ Fr.first w _
  have z1 : v1.heap.size = w.heap.size + 1 := by rw [← hv1, Fr.size1]
  obtain ⟨v2, hv2⟩ : ∃ W, v1.alloc (.cells #[.int .i64 0, .int .i64 0, .int .i64 0, .int .i64 0, .int .i64 0, .int .i64 0, .int .i64 0, .int .u32 0, .int .u32 0, .slice none 0 0, .slice none 0 0] 29) = W := ⟨_, rfl⟩
  have fr2 : Fr w v2 w.heap.size [.cells #[.int .i64 kd, .int .i64 o0, .int .i64 o1, .int .i64 o2, .int .i64 o3, .int .i64 o4, .int .i64 o5, .int .u32 wa, .int .u32 to, .slice A n c, .slice B m d] 29, .cells #[.int .i64 0, .int .i64 0, .int .i64 0, .int .i64 0, .int .i64 0, .int .i64 0, .int .i64 0, .int .u32 0, .int .u32 0, .slice none 0 0, .slice none 0 0] 29] := hv2 ▸ fr1.more z1 _
  have z2 : v2.heap.size = w.heap.size + 2 := by rw [← hv2, Fr.size1, z1]
  obtain ⟨v3, hv3⟩ : ∃ W, v2.alloc (.cells #[.int .i64 0, .int .i64 0, .int .i64 0, .int .i64 0, .int .i64 0, .int .i64 0, .bool false, .bool false, .int .i64 0, .bool false] 31) = W := ⟨_, rfl⟩
  have fr3 : Fr w v3 w.heap.size [.cells #[.int .i64 kd, .int .i64 o0, .int .i64 o1, .int .i64 o2, .int .i64 o3, .int .i64 o4, .int .i64 o5, .int .u32 wa, .int .u32 to, .slice A n c, .slice B m d] 29, .cells #[.int .i64 0, .int .i64 0, .int .i64 0, .int .i64 0, .int .i64 0, .int .i64 0, .int .i64 0, .int .u32 0, .int .u32 0, .slice none 0 0, .slice none 0 0] 29, .cells #[.int .i64 0, .int .i64 0, .int .i64 0, .int .i64 0, .int .i64 0, .int .i64 0, .bool false, .bool false, .int .i64 0, .bool false] 31] := hv3 ▸ fr2.more z2 _
  have z3 : v3.heap.size = w.heap.size + 3 := by rw [← hv3, Fr.size1, z2]
  obtain ⟨v4, hv4⟩ : ∃ W, v3.alloc (.cells #[.bool false, .bool false, .bool false, .int .i64 0, .int .i64 0, .int .u64 0, .slice none 0 0] 38) = W := ⟨_, rfl⟩
  have fr4 : Fr w v4 w.heap.size [.cells #[.int .i64 kd, .int .i64 o0, .int .i64 o1, .int .i64 o2, .int .i64 o3, .int .i64 o4, .int .i64 o5, .int .u32 wa, .int .u32 to, .slice A n c, .slice B m d] 29, .cells #[.int .i64 0, .int .i64 0, .int .i64 0, .int .i64 0, .int .i64 0, .int .i64 0, .int .i64 0, .int .u32 0, .int .u32 0, .slice none 0 0, .slice none 0 0] 29, .cells #[.int .i64 0, .int .i64 0, .int .i64 0, .int .i64 0, .int .i64 0, .int .i64 0, .bool false, .bool false, .int .i64 0, .bool false] 31, .cells #[.bool false, .bool false, .bool false, .int .i64 0, .int .i64 0, .int .u64 0, .slice none 0 0] 38] := hv4 ▸ fr3.more z3 _
  have z4 : v4.heap.size = w.heap.size + 4 := by rw [← hv4, Fr.size1, z3]
  generalize hq : w.heap.size = q at *
  have FR := Lib.hid fr4
  clear fr1 fr2 fr3 fr4
  go_enter Try.func28, Try.ntmps28
  obtain ⟨ac00, ac01, ac02, ac03, ac04, ac05, ac06, ac07, ac08, ac09, ac010⟩ := row11 (b := q) (FR.out.at 0 rfl rfl)
  obtain ⟨mc10, mc11, mc12, mc13, mc14, mc15, mc16, mc17, mc18, mc19, mc110⟩ := row11 (b := q + 1) (FR.out.at 1 rfl rfl)
  obtain ⟨mf10, mf11, mf12, mf13, mf14, mf15, mf16, mf17, mf18, mf19, mf110⟩ := frz11 (b := q + 1) (FR.out.at 1 rfl rfl)
  obtain ⟨w5r, hw5r⟩ : ∃ W, (((((((((((v4.setCell ⟨q + 1, 0, none⟩ (.int .i64 kd)).setCell ⟨q + 1, 1, none⟩ (.int .i64 o0)).setCell ⟨q + 1, 2, none⟩ (.int .i64 o1)).setCell ⟨q + 1, 3, none⟩ (.int .i64 o2)).setCell ⟨q + 1, 4, none⟩ (.int .i64 o3)).setCell ⟨q + 1, 5, none⟩ (.int .i64 o4)).setCell ⟨q + 1, 6, none⟩ (.int .i64 o5)).setCell ⟨q + 1, 7, none⟩ (.int .u32 wa)).setCell ⟨q + 1, 8, none⟩ (.int .u32 to)).setCell ⟨q + 1, 9, none⟩ (.slice A n c)).setCell ⟨q + 1, 10, none⟩ (.slice B m d)) = W := ⟨_, rfl⟩
  replace FR := Lib.hid ((FR.out.all 1 (vs := [.int .i64 kd, .int .i64 o0, .int .i64 o1, .int .i64 o2, .int .i64 o3, .int .i64 o4, .int .i64 o5, .int .u32 wa, .int .u32 to, .slice A n c, .slice B m d]) rfl rfl rfl).eqw hw5r)
  obtain ⟨nc20, nc21, nc22, nc23, nc24, nc25, nc26, nc27, nc28, nc29⟩ := row10 (b := q + 2) (FR.out.at 2 rfl rfl)
  obtain ⟨nf20, nf21, nf22, nf23, nf24, nf25, nf26, nf27, nf28, nf29⟩ := frz10 (b := q + 2) (FR.out.at 2 rfl rfl)
  obtain ⟨w6r, hw6r⟩ : ∃ W, ((((((((((w5r.setCell ⟨q + 2, 0, none⟩ (.int .i64 0)).setCell ⟨q + 2, 1, none⟩ (.int .i64 0)).setCell ⟨q + 2, 2, none⟩ (.int .i64 0)).setCell ⟨q + 2, 3, none⟩ (.int .i64 0)).setCell ⟨q + 2, 4, none⟩ (.int .i64 0)).setCell ⟨q + 2, 5, none⟩ (.int .i64 0)).setCell ⟨q + 2, 6, none⟩ (.bool false)).setCell ⟨q + 2, 7, none⟩ (.bool false)).setCell ⟨q + 2, 8, none⟩ (.int .i64 0)).setCell ⟨q + 2, 9, none⟩ (.bool false)) = W := ⟨_, rfl⟩
  replace FR := Lib.hid ((FR.out.all 2 (vs := [.int .i64 0, .int .i64 0, .int .i64 0, .int .i64 0, .int .i64 0, .int .i64 0, .bool false, .bool false, .int .i64 0, .bool false]) rfl rfl rfl).eqw hw6r)
  obtain ⟨oc30, oc31, oc32, oc33, oc34, oc35, oc36⟩ := row7 (b := q + 3) (FR.out.at 3 rfl rfl)
  obtain ⟨of30, of31, of32, of33, of34, of35, of36⟩ := frz7 (b := q + 3) (FR.out.at 3 rfl rfl)
  obtain ⟨w7r, hw7r⟩ : ∃ W, (((((((w6r.setCell ⟨q + 3, 0, none⟩ (.bool false)).setCell ⟨q + 3, 1, none⟩ (.bool false)).setCell ⟨q + 3, 2, none⟩ (.bool false)).setCell ⟨q + 3, 3, none⟩ (.int .i64 0)).setCell ⟨q + 3, 4, none⟩ (.int .i64 1)).setCell ⟨q + 3, 5, none⟩ (.int .u64 0)).setCell ⟨q + 3, 6, none⟩ (.slice none 0 0)) = W := ⟨_, rfl⟩
  replace FR := Lib.hid ((FR.out.all 3 (vs := [.bool false, .bool false, .bool false, .int .i64 0, .int .i64 1, .int .u64 0, .slice none 0 0]) rfl rfl rfl).eqw hw7r)
  go_wp2
  refine bodyPost_ret (res_ccc Try.results28 (by rfl) (by rfl) (by rfl) (FR.out.load 1 rfl rfl Try.underlying29 (by kernel_rfl)) (FR.out.load 2 rfl rfl Try.underlying31 (by kernel_rfl)) (FR.out.load 3 rfl rfl Try.underlying38 (by kernel_rfl))) rfl ?_
  exact ⟨rfl, FR.out.bel⟩
set_option maxRecDepth 100000 in
set_option maxHeartbeats 16000000 in
theorem on16_any (kd o0 o1 o2 o3 o4 o5 wa to : Int) (A : Option Addr) (n c : Nat) (B : Option Addr) (m d : Nat) (op stage phase old since left : Int) (awoke starve : Bool) (need : Int) (front : Bool) (w : World) : Calls Try.prog 25 #[.agg #[.int .i64 kd, .int .i64 o0, .int .i64 o1, .int .i64 o2, .int .i64 o3, .int .i64 o4, .int .i64 o5, .int .u32 wa, .int .u32 to, .slice A n c, .slice B m d], .agg #[.int .i64 op, .int .i64 stage, .int .i64 phase, .int .i64 old, .int .i64 since, .int .i64 left, .bool awoke, .bool starve, .int .i64 need, .bool front]] w (fun e w' => e = .returned (.tuple #[.agg #[.int .i64 kd, .int .i64 o0, .int .i64 o1, .int .i64 o2, .int .i64 o3, .int .i64 o4, .int .i64 o5, .int .u32 wa, .int .u32 to, .slice A n c, .slice B m d], .agg #[.int .i64 op, .int .i64 stage, .int .i64 phase, .int .i64 old, .int .i64 since, .int .i64 left, .bool awoke, .bool starve, .int .i64 need, .bool front], .agg #[.bool false, .bool false, .bool false, .int .i64 0, .int .i64 0, .int .u64 0, .slice none 0 0]]) ∧ Below w.heap.size w w') := by
  obtain ⟨v1, hv1⟩ : ∃ W, w.alloc (.cells #[.int .i64 kd, .int .i64 o0, .int .i64 o1, .int .i64 o2, .int .i64 o3, .int .i64 o4, .int .i64 o5, .int .u32 wa, .int .u32 to, .slice A n c, .slice B m d] 29) = W := ⟨_, rfl⟩
  have fr1 : Fr w v1 w.heap.size [.cells #[.int .i64 kd, .int .i64 o0, .int .i64 o1, .int .i64 o2, .int .i64 o3, .int .i64 o4, .int .i64 o5, .int .u32 wa, .int .u32 to, .slice A n c, .slice B m d] 29] := hv1 ▸ Fr.first w _
  have z1 : v1.heap.size = w.heap.size + 1 := by rw [← hv1, Fr.size1]
  obtain ⟨v2, hv2⟩ : ∃ W, v1.alloc (.cells #[.int .i64 op, .int .i64 stage, .int .i64 phase, .int .i64 old, .int .i64 since, .int .i64 left, .bool awoke, .bool starve, .int .i64 need, .bool front] 31) = W := ⟨_, rfl⟩
  have fr2 : Fr w v2 w.heap.size [.cells #[.int .i64 kd, .int .i64 o0, .int .i64 o1, .int .i64 o2, .int .i64 o3, .int .i64 o4, .int .i64 o5, .int .u32 wa, .int .u32 to, .slice A n c, .slice B m d] 29, .cells #[.int .i64 op, .int .i64 stage, .int .i64 phase, .int .i64 old, .int .i64 since, .int .i64 left, .bool awoke, .bool starve, .int .i64 need, .bool front] 31] := hv2 ▸ fr1.more z1 _
  have z2 : v2.heap.size = w.heap.size + 2 := by rw [← hv2, Fr.size1, z1]
  obtain ⟨v3, hv3⟩ : ∃ W, v2.alloc (.cells #[.int .i64 0, .int .i64 0, .int .i64 0, .int .i64 0, .int .i64 0, .int .i64 0, .int .i64 0, .int .u32 0, .int .u32 0, .slice none 0 0, .slice none 0 0] 29) = W := ⟨_, rfl⟩
  have fr3 : Fr w v3 w.heap.size [.cells #[.int .i64 kd, .int .i64 o0, .int .i64 o1, .int .i64 o2, .int .i64 o3, .int .i64 o4, .int .i64 o5, .int .u32 wa, .int .u32 to, .slice A n c, .slice B m d] 29, .cells #[.int .i64 op, .int .i64 stage, .int .i64 phase, .int .i64 old, .int .i64 since, .int .i64 left, .bool awoke, .bool starve, .int .i64 need, .bool front] 31, .cells #[.int .i64 0, .int .i64 0, .int .i64 0, .int .i64 0, .int .i64 0, .int .i64 0, .int .i64 0, .int .u32 0, .int .u32 0, .slice none 0 0, .slice none 0 0] 29] := hv3 ▸ fr2.more z2 _
  have z3 : v3.heap.size = w.heap.size + 3 := by rw [← hv3, Fr.size1, z2]
  obtain ⟨v4, hv4⟩ : ∃ W, v3.alloc (.cells #[.int .i64 0, .int .i64 0, .int .i64 0, .int .i64 0, .int .i64 0, .int .i64 0, .bool false, .bool false, .int .i64 0, .bool false] 31) = W := ⟨_, rfl⟩
  have fr4 : Fr w v4 w.heap.size [.cells #[.int .i64 kd, .int .i64 o0, .int .i64 o1, .int .i64 o2, .int .i64 o3, .int .i64 o4, .int .i64 o5, .int .u32 wa, .int .u32 to, .slice A n c, .slice B m d] 29, .cells #[.int .i64 op, .int .i64 stage, .int .i64 phase, .int .i64 old, .int .i64 since, .int .i64 left, .bool awoke, .bool starve, .int .i64 need, .bool front] 31, .cells #[.int .i64 0, .int .i64 0, .int .i64 0, .int .i64 0, .int .i64 0, .int .i64 0, .int .i64 0, .int .u32 0, .int .u32 0, .slice none 0 0, .slice none 0 0] 29, .cells #[.int .i64 0, .int .i64 0, .int .i64 0, .int .i64 0, .int .i64 0, .int .i64 0, .bool false, .bool false, .int .i64 0, .bool false] 31] := hv4 ▸ fr3.more z3 _
  have z4 : v4.heap.size = w.heap.size + 4 := by rw [← hv4, Fr.size1, z3]
  obtain ⟨v5, hv5⟩ : ∃ W, v4.alloc (.cells #[.bool false, .bool false, .bool false, .int .i64 0, .int .i64 0, .int .u64 0, .slice none 0 0] 38) = W := ⟨_, rfl⟩
  have fr5 : Fr w v5 w.heap.size [.cells #[.int .i64 kd, .int .i64 o0, .int .i64 o1, .int .i64 o2, .int .i64 o3, .int .i64 o4, .int .i64 o5, .int .u32 wa, .int .u32 to, .slice A n c, .slice B m d] 29, .cells #[.int .i64 op, .int .i64 stage, .int .i64 phase, .int .i64 old, .int .i64 since, .int .i64 left, .bool awoke, .bool starve, .int .i64 need, .bool front] 31, .cells #[.int .i64 0, .int .i64 0, .int .i64 0, .int .i64 0, .int .i64 0, .int .i64 0, .int .i64 0, .int .u32 0, .int .u32 0, .slice none 0 0, .slice none 0 0] 29, .cells #[.int .i64 0, .int .i64 0, .int .i64 0, .int .i64 0, .int .i64 0, .int .i64 0, .bool false, .bool false, .int .i64 0, .bool false] 31, .cells #[.bool false, .bool false, .bool false, .int .i64 0, .int .i64 0, .int .u64 0, .slice none 0 0] 38] := hv5 ▸ fr4.more z4 _
  have z5 : v5.heap.size = w.heap.size + 5 := by rw [← hv5, Fr.size1, z4]
  generalize hq : w.heap.size = q at *
  have FR := Lib.hid fr5
  clear fr1 fr2 fr3 fr4 fr5
  go_enter Try.func25, Try.ntmps25
  go_wp2
  have HF0 := Lib.hid FR.out.drew
  obtain ⟨w6r, hw6r⟩ : ∃ W, v5.drew.setCells (q + 2) 0 [.int .i64 kd, .int .i64 o0, .int .i64 o1, .int .i64 o2, .int .i64 o3, .int .i64 o4, .int .i64 o5, .int .u32 wa, .int .u32 to, .slice A n c, .slice B m d] = W := ⟨_, rfl⟩
  have HF1 := Lib.hid ((HF0.out.all 2 rfl rfl (by rfl)).eqw hw6r)
  have hh1 := Lib.hid hw6r
  clear hw6r
  obtain ⟨w7r, hw7r⟩ : ∃ W, w6r.setCells (q + 3) 0 [.int .i64 op, .int .i64 stage, .int .i64 phase, .int .i64 old, .int .i64 since, .int .i64 left, .bool awoke, .bool starve, .int .i64 need, .bool front] = W := ⟨_, rfl⟩
  have HF2 := Lib.hid ((HF1.out.all 3 rfl rfl (by rfl)).eqw hw7r)
  have hh2 := Lib.hid hw7r
  clear hw7r
  obtain ⟨w8r, hw8r⟩ : ∃ W, w7r.setCells (q + 4) 0 [.bool false, .bool false, .bool false, .int .i64 0, .int .i64 0, .int .u64 0, .slice none 0 0] = W := ⟨_, rfl⟩
  have HF3 := Lib.hid ((HF2.out.all 4 rfl rfl (by rfl)).eqw hw8r)
  have hh3 := Lib.hid hw8r
  clear hw8r
  refine wp_region_noPanic ?_
  refine wp_region_held_drew (S := (fun wv => Hid (wv.heap[q]? = some (.cells #[.int .i64 kd, .int .i64 o0, .int .i64 o1, .int .i64 o2, .int .i64 o3, .int .i64 o4, .int .i64 o5, .int .u32 wa, .int .u32 to, .slice A n c, .slice B m d] 29) ∧ wv.heap[q + 1]? = some (.cells #[.int .i64 op, .int .i64 stage, .int .i64 phase, .int .i64 old, .int .i64 since, .int .i64 left, .bool awoke, .bool starve, .int .i64 need, .bool front] 31)))) (by kernel_rfl) (Lib.hid (show v5.drew.heap[q]? = some (.cells #[.int .i64 kd, .int .i64 o0, .int .i64 o1, .int .i64 o2, .int .i64 o3, .int .i64 o4, .int .i64 o5, .int .u32 wa, .int .u32 to, .slice A n c, .slice B m d] 29) ∧ v5.drew.heap[q + 1]? = some (.cells #[.int .i64 op, .int .i64 stage, .int .i64 phase, .int .i64 old, .int .i64 since, .int .i64 left, .bool awoke, .bool starve, .int .i64 need, .bool front] 31) from ⟨HF0.out.blk 0 _ rfl, HF0.out.blk 1 _ rfl⟩)) (fun hS => ?_)
  refine wpAnyH_take (i := 0) (oi := ⟨some 7, .load 29 (.tmp 2), 29, "ref.go:13", #[], none⟩) (v := .agg (([.int .i64 kd, .int .i64 o0, .int .i64 o1, .int .i64 o2, .int .i64 o3, .int .i64 o4, .int .i64 o5, .int .u32 wa, .int .u32 to, .slice A n c, .slice B m d] : List Value)).toArray) rfl (by kernel_rfl) (by kernel_rfl) (by kernel_rfl) (fun _ _ _ h => h) (yieldsIf_load_mid (by rfl) _ _ (by rfl) (q) (0) (by rfl) (([.int .i64 kd, .int .i64 o0, .int .i64 o1, .int .i64 o2, .int .i64 o3, .int .i64 o4, .int .i64 o5, .int .u32 wa, .int .u32 to, .slice A n c, .slice B m d] : List Value)) _ (fun wv hS => blk_rngl hS.out.1) Try.underlying29 (by rfl) (by kernel_rfl)) hS ?_
  try simp only [Act.put, List.setIfInBounds_toArray, List.set_cons_zero, List.set_cons_succ]
  refine wpAnyH_take (i := 1) (oi := ⟨some 8, .load 31 (.tmp 3), 31, "ref.go:13", #[⟨3, .gcOnly .lateStores⟩], none⟩) (v := .agg (([.int .i64 op, .int .i64 stage, .int .i64 phase, .int .i64 old, .int .i64 since, .int .i64 left, .bool awoke, .bool starve, .int .i64 need, .bool front] : List Value)).toArray) rfl (by kernel_rfl) (by kernel_rfl) (by kernel_rfl) (fun _ _ _ h => h) (yieldsIf_load_mid (by rfl) _ _ (by rfl) (q + 1) (0) (by rfl) (([.int .i64 op, .int .i64 stage, .int .i64 phase, .int .i64 old, .int .i64 since, .int .i64 left, .bool awoke, .bool starve, .int .i64 need, .bool front] : List Value)) _ (fun wv hS => blk_rngl hS.out.2) Try.underlying31 (by rfl) (by kernel_rfl)) hS ?_
  try simp only [Act.put, List.setIfInBounds_toArray, List.set_cons_zero, List.set_cons_succ]
  refine wpAnyH_take (i := 2) (oi := ⟨some 9, .build 38 #[], 38, "ref.go:13", #[⟨4, .gcOnly .lateStores⟩], none⟩) (v := ?_) rfl (by kernel_rfl) (by kernel_rfl) (by kernel_rfl) (fun _ _ _ h => h) (Or.inl ⟨by rfl, ?_⟩) hS ?_
  rotate_left
  · intro wv _; go_simp; try with_reducible rfl
  try simp only [Act.put, List.setIfInBounds_toArray, List.set_cons_zero, List.set_cons_succ]
  refine wpAnyH_ready (rs := [3]) (by kernel_rfl) (by simp) (AllReadyH.cons (o := ⟨none, .store 29 (.tmp 4) (.tmp 7), 0, "ref.go:13", #[⟨0, .data⟩, ⟨0, .phase⟩, ⟨1, .textOnly .lateStores⟩, ⟨2, .textOnly .lateStores⟩], none⟩) rfl (fun K hK => ?_) AllReadyH.nil)
  refine op_storeS (by rfl) rfl rfl rfl (there_blk (HF0.out.blk 2 _ rfl) rfl) (by kernel_rfl) (by simp [Value.oneCell']) hh1.out ?_
  replace hS := Lib.hid (show w6r.heap[q]? = some (.cells #[.int .i64 kd, .int .i64 o0, .int .i64 o1, .int .i64 o2, .int .i64 o3, .int .i64 o4, .int .i64 o5, .int .u32 wa, .int .u32 to, .slice A n c, .slice B m d] 29) ∧ w6r.heap[q + 1]? = some (.cells #[.int .i64 op, .int .i64 stage, .int .i64 phase, .int .i64 old, .int .i64 since, .int .i64 left, .bool awoke, .bool starve, .int .i64 need, .bool front] 31) from ⟨HF1.out.blk 0 _ rfl, HF1.out.blk 1 _ rfl⟩)
  refine Shut.out hK _ _ hS (fun _ => ?_)
  clear hK K
  try simp only [Act.put, List.setIfInBounds_toArray, List.set_cons_zero, List.set_cons_succ]
  refine wpAnyH_ready (rs := [4]) (by kernel_rfl) (by simp) (AllReadyH.cons (o := ⟨none, .store 31 (.tmp 5) (.tmp 8), 0, "ref.go:13", #[⟨1, .data⟩, ⟨3, .chain⟩, ⟨0, .phase⟩, ⟨1, .phase⟩, ⟨2, .textOnly .lateStores⟩, ⟨3, .phase⟩], none⟩) rfl (fun K hK => ?_) AllReadyH.nil)
  refine op_storeS (by rfl) rfl rfl rfl (there_blk (HF1.out.blk 3 _ rfl) rfl) (by kernel_rfl) (by simp [Value.oneCell']) hh2.out ?_
  replace hS := Lib.hid (show w7r.heap[q]? = some (.cells #[.int .i64 kd, .int .i64 o0, .int .i64 o1, .int .i64 o2, .int .i64 o3, .int .i64 o4, .int .i64 o5, .int .u32 wa, .int .u32 to, .slice A n c, .slice B m d] 29) ∧ w7r.heap[q + 1]? = some (.cells #[.int .i64 op, .int .i64 stage, .int .i64 phase, .int .i64 old, .int .i64 since, .int .i64 left, .bool awoke, .bool starve, .int .i64 need, .bool front] 31) from ⟨HF2.out.blk 0 _ rfl, HF2.out.blk 1 _ rfl⟩)
  refine Shut.out hK _ _ hS (fun _ => ?_)
  clear hK K
  try simp only [Act.put, List.setIfInBounds_toArray, List.set_cons_zero, List.set_cons_succ]
  refine wpAnyH_ready (rs := [5]) (by kernel_rfl) (by simp) (AllReadyH.cons (o := ⟨none, .store 38 (.tmp 6) (.tmp 9), 0, "ref.go:13", #[⟨2, .data⟩, ⟨4, .chain⟩, ⟨0, .phase⟩, ⟨1, .phase⟩, ⟨2, .phase⟩, ⟨3, .phase⟩, ⟨4, .phase⟩], none⟩) rfl (fun K hK => ?_) AllReadyH.nil)
  refine op_storeS (by rfl) rfl rfl rfl (there_blk (HF2.out.blk 4 _ rfl) rfl) (by kernel_rfl) (by simp [Value.oneCell']) hh3.out ?_
  replace hS := Lib.hid (show w8r.heap[q]? = some (.cells #[.int .i64 kd, .int .i64 o0, .int .i64 o1, .int .i64 o2, .int .i64 o3, .int .i64 o4, .int .i64 o5, .int .u32 wa, .int .u32 to, .slice A n c, .slice B m d] 29) ∧ w8r.heap[q + 1]? = some (.cells #[.int .i64 op, .int .i64 stage, .int .i64 phase, .int .i64 old, .int .i64 since, .int .i64 left, .bool awoke, .bool starve, .int .i64 need, .bool front] 31) from ⟨HF3.out.blk 0 _ rfl, HF3.out.blk 1 _ rfl⟩)
  refine Shut.out hK _ _ hS (fun _ => ?_)
  clear hK K
  try simp only [Act.put, List.setIfInBounds_toArray, List.set_cons_zero, List.set_cons_succ]
  refine wpAnyH_done (by kernel_rfl) ?_ _
  refine NoPanic.normal ?_
  go_wp2
  refine bodyPost_ret (res_ccc Try.results25 (by rfl) (by rfl) (by rfl) (HF3.out.load 2 rfl rfl Try.underlying29 (by kernel_rfl)) (HF3.out.load 3 rfl rfl Try.underlying31 (by kernel_rfl)) (HF3.out.load 4 rfl rfl Try.underlying38 (by kernel_rfl))) rfl ?_
  replace FR := HF3
  exact ⟨rfl, FR.out.bel⟩
set_option maxRecDepth 100000 in
set_option maxHeartbeats 16000000 in
theorem stage16_any (op stage phase old since left : Int) (awoke starve : Bool) (need : Int) (front : Bool) (s : Int) (w : World) : Calls Try.prog 35 #[.agg #[.int .i64 op, .int .i64 stage, .int .i64 phase, .int .i64 old, .int .i64 since, .int .i64 left, .bool awoke, .bool starve, .int .i64 need, .bool front], .int .i64 s] w (fun e w' => e = .returned (.agg #[.int .i64 op, .int .i64 s, .int .i64 0, .int .i64 0, .int .i64 (-1), .int .i64 0, .bool false, .bool false, .int .i64 0, .bool false]) ∧ Below w.heap.size w w') := by
  obtain ⟨v1, hv1⟩ : ∃ W, w.alloc (.cells #[.int .i64 op, .int .i64 stage, .int .i64 phase, .int .i64 old, .int .i64 since, .int .i64 left, .bool awoke, .bool starve, .int .i64 need, .bool front] 31) = W := ⟨_, rfl⟩
  have fr1 : Fr w v1 w.heap.size [.cells #[.int .i64 op, .int .i64 stage, .int .i64 phase, .int .i64 old, .int .i64 since, .int .i64 left, .bool awoke, .bool starve, .int .i64 need, .bool front] 31] := hv1 ▸ Fr.first w _
  have z1 : v1.heap.size = w.heap.size + 1 := by rw [← hv1, Fr.size1]
  obtain ⟨v2, hv2⟩ : ∃ W, v1.alloc (.cells #[.int .i64 0, .int .i64 0, .int .i64 0, .int .i64 0, .int .i64 0, .int .i64 0, .bool false, .bool false, .int .i64 0, .bool false] 31) = W := ⟨_, rfl⟩
  have fr2 : Fr w v2 w.heap.size [.cells #[.int .i64 op, .int .i64 stage, .int .i64 phase, .int .i64 old, .int .i64 since, .int .i64 left, .bool awoke, .bool starve, .int .i64 need, .bool front] 31, .cells #[.int .i64 0, .int .i64 0, .int .i64 0, .int .i64 0, .int .i64 0, .int .i64 0, .bool false, .bool false, .int .i64 0, .bool false] 31] := hv2 ▸ fr1.more z1 _
  have z2 : v2.heap.size = w.heap.size + 2 := by rw [← hv2, Fr.size1, z1]
  generalize hq : w.heap.size = q at *
  have FR := Lib.hid fr2
  clear fr1 fr2
  go_enter Try.func35, Try.ntmps35
  obtain ⟨ac00, ac01, ac02, ac03, ac04, ac05, ac06, ac07, ac08, ac09⟩ := row10 (b := q) (FR.out.at 0 rfl rfl)
  obtain ⟨mc10, mc11, mc12, mc13, mc14, mc15, mc16, mc17, mc18, mc19⟩ := row10 (b := q + 1) (FR.out.at 1 rfl rfl)
  obtain ⟨mf10, mf11, mf12, mf13, mf14, mf15, mf16, mf17, mf18, mf19⟩ := frz10 (b := q + 1) (FR.out.at 1 rfl rfl)
  obtain ⟨w3r, hw3r⟩ : ∃ W, ((((((((((v2.setCell ⟨q + 1, 0, none⟩ (.int .i64 op)).setCell ⟨q + 1, 1, none⟩ (.int .i64 s)).setCell ⟨q + 1, 2, none⟩ (.int .i64 0)).setCell ⟨q + 1, 3, none⟩ (.int .i64 0)).setCell ⟨q + 1, 4, none⟩ (.int .i64 (-1))).setCell ⟨q + 1, 5, none⟩ (.int .i64 0)).setCell ⟨q + 1, 6, none⟩ (.bool false)).setCell ⟨q + 1, 7, none⟩ (.bool false)).setCell ⟨q + 1, 8, none⟩ (.int .i64 0)).setCell ⟨q + 1, 9, none⟩ (.bool false)) = W := ⟨_, rfl⟩
  replace FR := Lib.hid ((FR.out.all 1 (vs := [.int .i64 op, .int .i64 s, .int .i64 0, .int .i64 0, .int .i64 (-1), .int .i64 0, .bool false, .bool false, .int .i64 0, .bool false]) rfl rfl rfl).eqw hw3r)
  go_wp2
  refine bodyPost_ret (res_c Try.results35 (by rfl) (FR.out.load 1 rfl rfl Try.underlying31 (by kernel_rfl))) rfl ?_
  exact ⟨rfl, FR.out.bel⟩
end Go.Proofs.Ytakojjljnnooaaa
