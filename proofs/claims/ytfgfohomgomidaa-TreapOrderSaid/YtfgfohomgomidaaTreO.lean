/- What the landed treap's own functions of layer 9 answer, as the statements' walks name it; for slices of up to 16384 nodes. -/
import Derived.Test.YtfgfohomgomidaaTreKH
namespace Go.Proofs.Ytfgfohomgomidaa
set_option linter.unusedVariables false
set_option linter.unusedSimpArgs false
open Go.RowKit
theorem tpFind_any (A : Option Addr) (n c : Nat) (ns : List Nd) (rt fr : Int) (w : World) (key : Int) (hx : Ns w A n c ns) (hn : n ≤ 16384) :
    Calls Try.prog 13 #[.agg #[.slice A n c, .int .i64 rt, .int .i64 fr], .int .i64 key] w (FindPost9 w (findT (ns, rt, fr) key)) := tpFindK_any A n c ns rt fr key w hx hn
end Go.Proofs.Ytfgfohomgomidaa
