/- The walks of layer 12's statements, with a premise a parameter; no condition. -/
import Derived.Test.YtehpfpphpffniaaTimT
import Derived.Test.YtehpfpphpffniaaTimU
import Derived.Test.YtehpfpphpffniaaTimV
import Derived.Test.YtehpfpphpffniaaTimY
import Derived.Test.YtehpfpphpffniaaTimX
namespace Go.Proofs.Ytehpfpphpffniaa
set_option linter.unusedVariables false
set_option linter.unusedSimpArgs false
open Go.RowKit

theorem answers12_frame (A : Option Addr) (n c : Nat) (h : List Tm) (x0 x1 k : Int) (w : World) (hx : Tms w A n c h) (_ : True) (_ : (Lit.int .i64 k).wf = true) :
    Calls Try.prog 3 #[.slice A n c, .agg #[.int .i64 x0, .int .i64 x1], .int .i64 k] w fun e w' => e = .returned (.bool true) ∧ Below w.heap.size w w' := answers12_walk A n c h x0 x1 k w hx
theorem dues12_frame (A : Option Addr) (n c : Nat) (h : List Tm) (now : Int) (w : World) (hx : Tms w A n c h) (_ : (Lit.int .i64 now).wf = true) :
    Calls Try.prog 4 #[.slice A n c, .int .i64 now] w fun e w' => e = .returned (.bool true) ∧ Below w.heap.size w w' := dues12_walk A n c h now w hx
theorem least12_frame (A : Option Addr) (n c : Nat) (h : List Tm) (w : World) (hx : Tms w A n c h) :
    Calls Try.prog 5 #[.slice A n c] w fun e w' => e = .returned (.bool true) ∧ Below w.heap.size w w' := least12_walk A n c h w hx
theorem back12_frame (A : Option Addr) (n c : Nat) (h : List Tm) (x0 x1 : Int) (w : World) (hx : Tms w A n c h) (_ : True) :
    Calls Try.prog 6 #[.slice A n c, .agg #[.int .i64 x0, .int .i64 x1]] w fun e w' => e = .returned (.bool true) ∧ Below w.heap.size w w' := back12_walk A n c h x0 x1 w hx
end Go.Proofs.Ytehpfpphpffniaa
