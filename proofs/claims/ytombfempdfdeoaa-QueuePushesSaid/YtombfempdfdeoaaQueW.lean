/- The walks of layer 8's statements, with a premise a parameter; no condition. -/
import Derived.Test.YtombfempdfdeoaaQueV
import Derived.Test.YtombfempdfdeoaaQueX
namespace Go.Proofs.Ytombfempdfdeoaa
set_option linter.unusedVariables false
set_option linter.unusedSimpArgs false
open Go.RowKit

theorem answers8_frame (A : Option Addr) (n c : Nat) (rs : List Rec3) (fr hd tl task : Int) (w : World) (hx : Rs w A n c rs ∧ (Lit.int .i64 fr).wf = true) (_ : (Lit.int .i64 hd).wf = true ∧ (Lit.int .i64 tl).wf = true) (_ : (Lit.int .i64 task).wf = true) :
    Calls Try.prog 3 #[.agg #[.slice A n c, .int .i64 fr], .agg #[.int .i64 hd, .int .i64 tl], .int .i64 task] w fun e w' => e = .returned (.bool true) ∧ Below w.heap.size w w' := answers8_walk A n c rs fr hd tl task w hx.1
theorem pushes8_frame (A : Option Addr) (n c : Nat) (rs : List Rec3) (fr hd tl i0 i1 i2 : Int) (w : World) (hx : Rs w A n c rs ∧ (Lit.int .i64 fr).wf = true) (_ : (Lit.int .i64 hd).wf = true ∧ (Lit.int .i64 tl).wf = true) (_ : (Lit.int .i64 i0).wf = true) (_ : (Lit.int .i64 i1).wf = true) (_ : (Lit.int .i64 i2).wf = true) :
    Calls Try.prog 4 #[.agg #[.slice A n c, .int .i64 fr], .agg #[.int .i64 hd, .int .i64 tl], .agg #[.int .i64 i0, .int .i64 i1, .int .i64 i2]] w fun e w' => e = .returned (.bool true) ∧ Below w.heap.size w w' := pushes8_walk A n c rs fr hd tl i0 i1 i2 w hx.1
theorem back8_frame (A : Option Addr) (n c : Nat) (rs : List Rec3) (fr hd tl i0 i1 : Int) (w : World) (hx : Rs w A n c rs ∧ (Lit.int .i64 fr).wf = true) (_ : (Lit.int .i64 hd).wf = true ∧ (Lit.int .i64 tl).wf = true) (h0 : (Lit.int .u8 i0).wf = true) (h1 : (Lit.int .u8 i1).wf = true) :
    Calls Try.prog 5 #[.agg #[.slice A n c, .int .i64 fr], .agg #[.int .i64 hd, .int .i64 tl], .agg #[.int .u8 i0, .int .u8 i1]] w fun e w' => e = .returned (.bool true) ∧ Below w.heap.size w w' := back8_walk A n c rs fr hd tl i0 i1 w hx.1 (bounds_u8 h0).1 (bounds_u8 h0).2 (bounds_u8 h1).1 (bounds_u8 h1).2
end Go.Proofs.Ytombfempdfdeoaa
