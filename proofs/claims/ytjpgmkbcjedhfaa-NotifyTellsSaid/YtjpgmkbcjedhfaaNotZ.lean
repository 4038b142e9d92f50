/- The walks of layer 11's statements, with a premise a parameter; no condition. -/
import Derived.Test.YtjpgmkbcjedhfaaNotT
import Derived.Test.YtjpgmkbcjedhfaaNotU
import Derived.Test.YtjpgmkbcjedhfaaNotV
import Derived.Test.YtjpgmkbcjedhfaaNotW
import Derived.Test.YtjpgmkbcjedhfaaNotX
namespace Go.Proofs.Ytjpgmkbcjedhfaa
set_option linter.unusedVariables false
set_option linter.unusedSimpArgs false
open Go.RowKit

theorem answers11_frame (A : Option Addr) (n c : Nat) (ws : List Wt) (wa to k ta : Int) (w : World) (hx : Wts w A n c ws ∧ NB (wa, to, ws)) (hk : (Lit.int .u32 k).wf = true) (_ : (Lit.int .i64 ta).wf = true) :
    Calls Try.prog 3 #[.agg #[.int .u32 wa, .int .u32 to, .slice A n c], .int .u32 k, .int .i64 ta] w fun e w' => e = .returned (.bool true) ∧ Below w.heap.size w w' := answers11_walk A n c ws wa to k ta w hx.1 hx.2 (bounds_u32 hk).1 (Int.lt_of_le_of_lt (bounds_u32 hk).2 (by decide))
theorem tells11_frame (A : Option Addr) (n c : Nat) (ws : List Wt) (wa to : Int) (w : World) (hx : Wts w A n c ws ∧ NB (wa, to, ws)) :
    Calls Try.prog 4 #[.agg #[.int .u32 wa, .int .u32 to, .slice A n c]] w fun e w' => e = .returned (.bool true) ∧ Below w.heap.size w w' := tells11_walk A n c ws wa to w hx.1 hx.2
theorem out11_frame (A : Option Addr) (n c : Nat) (ws : List Wt) (wa to k ta : Int) (w : World) (hx : Wts w A n c ws ∧ NB (wa, to, ws)) (hk : (Lit.int .u32 k).wf = true) (ht : (Lit.int .u8 ta).wf = true) :
    Calls Try.prog 6 #[.agg #[.int .u32 wa, .int .u32 to, .slice A n c], .int .u32 k, .int .u8 ta] w fun e w' => e = .returned (.bool true) ∧ Below w.heap.size w w' := out11_walk A n c ws wa to k ta w hx.1 hx.2 (bounds_u32 hk).1 (Int.lt_of_le_of_lt (bounds_u32 hk).2 (by decide)) (bounds_u8 ht).1 (Int.lt_of_le_of_lt (bounds_u8 ht).2 (by decide))
theorem turns11_frame (k0 : Int) (A : Option Addr) (n c : Nat) (bs : List Int) (w : World) (h0 : (Lit.int .u32 k0).wf = true) (hx : Bs w A n c bs) :
    Calls Try.prog 5 #[.int .u32 k0, .slice A n c] w fun e w' => e = .returned (.bool true) ∧ Below w.heap.size w w' := turns11_walk k0 A n c bs w (bounds_u32 h0).1 (Int.lt_of_le_of_lt (bounds_u32 h0).2 (by decide)) hx
end Go.Proofs.Ytjpgmkbcjedhfaa
