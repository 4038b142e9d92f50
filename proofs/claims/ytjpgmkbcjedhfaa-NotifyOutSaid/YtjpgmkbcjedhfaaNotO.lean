/- What the program's own functions of layer 11 answer; no condition. -/
import Derived.Test.YtjpgmkbcjedhfaaNotE
import Derived.Test.YtjpgmkbcjedhfaaNotJ
namespace Go.Proofs.Ytjpgmkbcjedhfaa
set_option linter.unusedVariables false
open Go.RowKit
section
variable (A : Option Addr) (n c : Nat) (ws : List Wt) (wa to : Int) (w : World)
theorem ntTold_any (k : Int) (hx : Wts w A n c ws) (hn : n ≤ 16384) (hb : NB (wa, to, ws)) (k0 : 0 ≤ k) (k1 : k < 4294967296) : Calls Try.prog 16 #[.agg #[.int .u32 wa, .int .u32 to, .slice A n c], .int .u32 k] w (YesN w (toldN (wa, to, ws) k)) := ntToldL A n c ws wa to k w hx hn hb k0 k1
theorem ntPark_any (k ta : Int) (hx : Wts w A n c ws) (hn : n ≤ 16384) (hb : NB (wa, to, ws)) (k0 : 0 ≤ k) (k1 : k < 4294967296) : Calls Try.prog 11 #[.agg #[.int .u32 wa, .int .u32 to, .slice A n c], .int .u32 k, .int .i64 ta] w (NGotN w A n c (parkN (wa, to, ws) k ta)) := ntParkL A n c ws wa to k ta w hx hn hb k0 k1
end
end Go.Proofs.Ytjpgmkbcjedhfaa
