/- Layer 16: what the document's own over, on, fault and Stage answer; no condition. -/
import Derived.Test.YtkecmiedeihdgaaRwA
import Derived.Test.YtkecmiedeihdgaaSyA
import Derived.Test.YtkecmiedeihdgaaAreG
import Derived.Deep.RegionHeld3
import Derived.BigQuiet
import Derived.Deep.QuietTactic
namespace Go.Proofs.Ytkecmiedeihdgaa
set_option linter.unusedVariables false
set_option linter.unusedSimpArgs false
open Go.RowKit
/-- a step's object, frame and act. -/
def StepR (w : World) (kd o1 o2 o3 wa to : Int) (A : Option Addr) (n c : Nat) (B : Option Addr) (m d : Nat) (r : RwR) (e : Ending) (w' : World) : Prop :=
  e = .returned (.tuple #[obV kd r.1.1 o1 o2 o3 r.1.2.1 r.1.2.2 wa to A n c B m d, frV r.2.1, acV r.2.2]) ∧ Below w.heap.size w w'
set_option maxRecDepth 100000 in
set_option maxHeartbeats 16000000 in
theorem stage16_any (op stage phase old since left : Int) (awoke starve : Bool) (need : Int) (front : Bool) (s : Int) (w : World) : Calls Try.prog 21 #[.agg #[.int .i64 op, .int .i64 stage, .int .i64 phase, .int .i64 old, .int .i64 since, .int .i64 left, .bool awoke, .bool starve, .int .i64 need, .bool front], .int .i64 s] w (fun e w' => e = .returned (.agg #[.int .i64 op, .int .i64 s, .int .i64 0, .int .i64 0, .int .i64 (-1), .int .i64 0, .bool false, .bool false, .int .i64 0, .bool false]) ∧ Below w.heap.size w w') := by
  obtain ⟨v1, hv1, z1, v2, hv2, z2, F⟩ := boxes2 w (.cells #[.int .i64 op, .int .i64 stage, .int .i64 phase, .int .i64 old, .int .i64 since, .int .i64 left, .bool awoke, .bool starve, .int .i64 need, .bool front] 31) (.cells #[.int .i64 0, .int .i64 0, .int .i64 0, .int .i64 0, .int .i64 0, .int .i64 0, .bool false, .bool false, .int .i64 0, .bool false] 31)
  generalize hq : w.heap.size = q at *
  have FR := Lib.hid F
  clear F
  go_enter Try.func21, Try.ntmps21
  have ac0 := row10 (b := q) (FR.out.at 0 rfl rfl)
  obtain ⟨mw3r, w3r, hw3r, hse, F⟩ := FR.out.put10 1 rfl (b := q + 1) rfl (.int .i64 op) (.int .i64 s) (.int .i64 0) (.int .i64 0) (.int .i64 (-1)) (.int .i64 0) (.bool false) (.bool false) (.int .i64 0) (.bool false)
  replace FR := F
  clear F hse
  go_wp2
  refine bodyPost_ret (res_c Try.results21 (by rfl) (FR.out.load 1 rfl rfl Try.underlying31 (by kernel_rfl))) rfl ?_
  exact ⟨rfl, FR.out.bel⟩
end Go.Proofs.Ytkecmiedeihdgaa
