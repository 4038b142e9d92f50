/- The walks of three of layer 9's statements, with a premise a parameter; no condition. -/
import Derived.Test.YtfgfohomgomidaaTreT
import Derived.Test.YtfgfohomgomidaaTreU
import Derived.Test.YtfgfohomgomidaaTreV
import Derived.Test.YtfgfohomgomidaaTreX
namespace Go.Proofs.Ytfgfohomgomidaa
set_option linter.unusedVariables false
set_option linter.unusedSimpArgs false
open Go.RowKit

theorem answers9_frame (A : Option Addr) (n c : Nat) (ns : List Nd) (rt fr key prio : Int) (w : World) (hx : Ns w A n c ns) (_ : (Lit.int .i64 key).wf = true) (_ : (Lit.int .u32 prio).wf = true) :
    Calls Try.prog 3 #[.agg #[.slice A n c, .int .i64 rt, .int .i64 fr], .int .i64 key, .int .u32 prio] w fun e w' => e = .returned (.bool true) ∧ Below w.heap.size w w' := answers9_walk A n c ns rt fr key prio w hx
theorem hangs9_frame (A : Option Addr) (n c : Nat) (ns : List Nd) (rt fr i0 i1 qh qt : Int) (w : World) (hx : Ns w A n c ns) (_ : (Lit.int .i64 i0).wf = true) (h1 : (Lit.int .i64 i1).wf = true) (_ : True) :
    Calls Try.prog 4 #[.agg #[.slice A n c, .int .i64 rt, .int .i64 fr], .agg #[.int .i64 i0, .int .i64 i1], .agg #[.int .i64 qh, .int .i64 qt]] w fun e w' => e = .returned (.bool true) ∧ Below w.heap.size w w' := hangs9_walk A n c ns rt fr i0 i1 qh qt w hx (bounds_i64 h1).1 (bounds_i64 h1).2
theorem back9_frame (A : Option Addr) (n c : Nat) (ns : List Nd) (rt fr key prio : Int) (w : World) (hx : Ns w A n c ns) (_ : (Lit.int .i64 key).wf = true) (_ : (Lit.int .u32 prio).wf = true) :
    Calls Try.prog 5 #[.agg #[.slice A n c, .int .i64 rt, .int .i64 fr], .int .i64 key, .int .u32 prio] w fun e w' => e = .returned (.bool true) ∧ Below w.heap.size w w' := back9_walk A n c ns rt fr key prio w hx
end Go.Proofs.Ytfgfohomgomidaa
