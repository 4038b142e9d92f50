/- The walks of layer 14's statements in the shape that their frames want; no condition. -/
import Derived.Test.YtmgkmeppnhdhnaaCelU
import Derived.Test.YtmgkmeppnhdhnaaCelX
namespace Go.Proofs.Ytmgkmeppnhdhnaa
set_option linter.unusedVariables false
set_option linter.unusedSimpArgs false
open Go.RowKit

theorem answers14_frame (A : Option Addr) (n c : Nat) (ws : List Nat) (i x y : Int) (w : World) (hx : Ws w A n c ws ∧ ∀ v ∈ ws, v < 18446744073709551616) (_ : (Lit.int .i64 i).wf = true) (h0 : (Lit.int .u64 x).wf = true) (h1 : (Lit.int .u64 y).wf = true) :
    Calls Try.prog 3 #[.slice A n c, .int .i64 i, .agg #[.int .u64 x, .int .u64 y]] w fun e w' => e = .returned (.bool true) ∧ Below w.heap.size w w' := by
  obtain ⟨X, rfl, hX⟩ := u64_of_wf h0
  obtain ⟨Y, rfl, hY⟩ := u64_of_wf h1
  exact answers14_walk A n c ws i X Y w hx.1 hx.2 hX hY
theorem back14_frame (A : Option Addr) (n c : Nat) (ws : List Nat) (t0 t1 x0 x1 x2 : Int) (w : World) (hx : Ws w A n c ws ∧ ∀ v ∈ ws, v < 18446744073709551616) (g0 : (Lit.int .u8 t0).wf = true) (g1 : (Lit.int .u8 t1).wf = true) (h0 : (Lit.int .u64 x0).wf = true) (h1 : (Lit.int .u64 x1).wf = true) (h2 : (Lit.int .u64 x2).wf = true) :
    Calls Try.prog 4 #[.slice A n c, .agg #[.int .u8 t0, .int .u8 t1], .agg #[.int .u64 x0, .int .u64 x1, .int .u64 x2]] w fun e w' => e = .returned (.bool true) ∧ Below w.heap.size w w' := by
  obtain ⟨T0, rfl, k0⟩ := u8_of_wf g0
  obtain ⟨T1, rfl, k1⟩ := u8_of_wf g1
  obtain ⟨X0, rfl, l0⟩ := u64_of_wf h0
  obtain ⟨X1, rfl, l1⟩ := u64_of_wf h1
  obtain ⟨X2, rfl, l2⟩ := u64_of_wf h2
  exact back14_walk A n c ws T0 T1 X0 X1 X2 w hx.1 hx.2 l0 l1 l2 k0 k1
end Go.Proofs.Ytmgkmeppnhdhnaa
