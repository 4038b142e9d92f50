/- What the landed step.Done and step.Fault answer; no condition. -/
import Derived.Test.YtpkegfochfkkcaaSyA
import Derived.Test.YtpkegfochfkkcaaSyn
namespace Go.Proofs.Ytpkegfochfkkcaa
set_option linter.unusedVariables false
set_option linter.unusedSimpArgs false
open Go.RowKit
set_option maxRecDepth 100000 in
set_option maxHeartbeats 16000000 in
theorem stDone_any (kd o0 o1 o2 o3 o4 o5 wa to : Int) (A : Option Addr) (n c : Nat) (B : Option Addr) (m d : Nat) (w : World) : Calls Try.prog 23 #[.agg #[.int .i64 kd, .int .i64 o0, .int .i64 o1, .int .i64 o2, .int .i64 o3, .int .i64 o4, .int .i64 o5, .int .u32 wa, .int .u32 to, .slice A n c, .slice B m d]] w (fun e w' => e = .returned (.tuple #[.agg #[.int .i64 kd, .int .i64 o0, .int .i64 o1, .int .i64 o2, .int .i64 o3, .int .i64 o4, .int .i64 o5, .int .u32 wa, .int .u32 to, .slice A n c, .slice B m d], .agg #[.int .i64 0, .int .i64 0, .int .i64 0, .int .i64 0, .int .i64 0, .int .i64 0, .bool false, .bool false, .int .i64 0, .bool false], .agg #[.bool true, .bool false, .bool false, .int .i64 0, .int .i64 0, .int .u64 0, .slice none 0 0]]) ∧ Below w.heap.size w w') := by
  obtain ⟨v1, hv1, z1, v2, hv2, z2, v3, hv3, z3, v4, hv4, z4, F⟩ := boxes4 w (.cells #[.int .i64 kd, .int .i64 o0, .int .i64 o1, .int .i64 o2, .int .i64 o3, .int .i64 o4, .int .i64 o5, .int .u32 wa, .int .u32 to, .slice A n c, .slice B m d] 29) (.cells #[.int .i64 0, .int .i64 0, .int .i64 0, .int .i64 0, .int .i64 0, .int .i64 0, .int .i64 0, .int .u32 0, .int .u32 0, .slice none 0 0, .slice none 0 0] 29) (.cells #[.int .i64 0, .int .i64 0, .int .i64 0, .int .i64 0, .int .i64 0, .int .i64 0, .bool false, .bool false, .int .i64 0, .bool false] 31) (.cells #[.bool false, .bool false, .bool false, .int .i64 0, .int .i64 0, .int .u64 0, .slice none 0 0] 38)
  generalize hq : w.heap.size = q at *
  have FR := Lib.hid F
  clear F
  go_enter Try.func23, Try.ntmps23
  have ac0 := row11 (b := q) (FR.out.at 0 rfl rfl)
  obtain ⟨mw5r, w5r, hw5r, hse, F⟩ := FR.out.put11 1 rfl (b := q + 1) rfl (.int .i64 kd) (.int .i64 o0) (.int .i64 o1) (.int .i64 o2) (.int .i64 o3) (.int .i64 o4) (.int .i64 o5) (.int .u32 wa) (.int .u32 to) (.slice A n c) (.slice B m d)
  replace FR := F
  clear F hse
  obtain ⟨mw6r, w6r, hw6r, hse, F⟩ := FR.out.put10 2 rfl (b := q + 2) rfl (.int .i64 0) (.int .i64 0) (.int .i64 0) (.int .i64 0) (.int .i64 0) (.int .i64 0) (.bool false) (.bool false) (.int .i64 0) (.bool false)
  replace FR := F
  clear F hse
  obtain ⟨mw7r, w7r, hw7r, hse, F⟩ := FR.out.put7 3 rfl (b := q + 3) rfl (.bool true) (.bool false) (.bool false) (.int .i64 0) (.int .i64 0) (.int .u64 0) (.slice none 0 0)
  replace FR := F
  clear F hse
  go_wp2
  refine bodyPost_ret (res_ccc Try.results23 (by rfl) (by rfl) (by rfl) (FR.out.load 1 rfl rfl Try.underlying29 (by kernel_rfl)) (FR.out.load 2 rfl rfl Try.underlying31 (by kernel_rfl)) (FR.out.load 3 rfl rfl Try.underlying38 (by kernel_rfl))) rfl ?_
  exact ⟨rfl, FR.out.bel⟩
set_option maxRecDepth 100000 in
set_option maxHeartbeats 16000000 in
theorem stFault_any (kd o0 o1 o2 o3 o4 o5 wa to : Int) (A : Option Addr) (n c : Nat) (B : Option Addr) (m d : Nat) (x : Int) (w : World) : Calls Try.prog 42 #[.agg #[.int .i64 kd, .int .i64 o0, .int .i64 o1, .int .i64 o2, .int .i64 o3, .int .i64 o4, .int .i64 o5, .int .u32 wa, .int .u32 to, .slice A n c, .slice B m d], .int .i64 x] w (fun e w' => e = .returned (.tuple #[.agg #[.int .i64 kd, .int .i64 o0, .int .i64 o1, .int .i64 o2, .int .i64 o3, .int .i64 o4, .int .i64 o5, .int .u32 wa, .int .u32 to, .slice A n c, .slice B m d], .agg #[.int .i64 0, .int .i64 0, .int .i64 0, .int .i64 0, .int .i64 0, .int .i64 0, .bool false, .bool false, .int .i64 0, .bool false], .agg #[.bool false, .bool false, .bool false, .int .i64 0, .int .i64 x, .int .u64 0, .slice none 0 0]]) ∧ Below w.heap.size w w') := by
  obtain ⟨v1, hv1, z1, v2, hv2, z2, v3, hv3, z3, v4, hv4, z4, F⟩ := boxes4 w (.cells #[.int .i64 kd, .int .i64 o0, .int .i64 o1, .int .i64 o2, .int .i64 o3, .int .i64 o4, .int .i64 o5, .int .u32 wa, .int .u32 to, .slice A n c, .slice B m d] 29) (.cells #[.int .i64 0, .int .i64 0, .int .i64 0, .int .i64 0, .int .i64 0, .int .i64 0, .int .i64 0, .int .u32 0, .int .u32 0, .slice none 0 0, .slice none 0 0] 29) (.cells #[.int .i64 0, .int .i64 0, .int .i64 0, .int .i64 0, .int .i64 0, .int .i64 0, .bool false, .bool false, .int .i64 0, .bool false] 31) (.cells #[.bool false, .bool false, .bool false, .int .i64 0, .int .i64 0, .int .u64 0, .slice none 0 0] 38)
  generalize hq : w.heap.size = q at *
  have FR := Lib.hid F
  clear F
  go_enter Try.func42, Try.ntmps42
  have ac0 := row11 (b := q) (FR.out.at 0 rfl rfl)
  obtain ⟨mw5r, w5r, hw5r, hse, F⟩ := FR.out.put11 1 rfl (b := q + 1) rfl (.int .i64 kd) (.int .i64 o0) (.int .i64 o1) (.int .i64 o2) (.int .i64 o3) (.int .i64 o4) (.int .i64 o5) (.int .u32 wa) (.int .u32 to) (.slice A n c) (.slice B m d)
  replace FR := F
  clear F hse
  obtain ⟨mw6r, w6r, hw6r, hse, F⟩ := FR.out.put10 2 rfl (b := q + 2) rfl (.int .i64 0) (.int .i64 0) (.int .i64 0) (.int .i64 0) (.int .i64 0) (.int .i64 0) (.bool false) (.bool false) (.int .i64 0) (.bool false)
  replace FR := F
  clear F hse
  obtain ⟨mw7r, w7r, hw7r, hse, F⟩ := FR.out.put7 3 rfl (b := q + 3) rfl (.bool false) (.bool false) (.bool false) (.int .i64 0) (.int .i64 x) (.int .u64 0) (.slice none 0 0)
  replace FR := F
  clear F hse
  go_wp2
  refine bodyPost_ret (res_ccc Try.results42 (by rfl) (by rfl) (by rfl) (FR.out.load 1 rfl rfl Try.underlying29 (by kernel_rfl)) (FR.out.load 2 rfl rfl Try.underlying31 (by kernel_rfl)) (FR.out.load 3 rfl rfl Try.underlying38 (by kernel_rfl))) rfl ?_
  exact ⟨rfl, FR.out.bel⟩
end Go.Proofs.Ytpkegfochfkkcaa
