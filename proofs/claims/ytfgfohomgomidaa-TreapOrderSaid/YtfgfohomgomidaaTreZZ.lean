/- The walk of TreapOrder, with a premise a parameter; no condition. -/
import Derived.Test.YtfgfohomgomidaaTreW
import Derived.Test.YtfgfohomgomidaaTreX
namespace Go.Proofs.Ytfgfohomgomidaa
set_option linter.unusedVariables false
set_option linter.unusedSimpArgs false
open Go.RowKit

theorem order9_frame (A : Option Addr) (n c : Nat) (ks : List Int) (B0 : Option Addr) (m c0 : Nat) (ds : List Int) (p0 p1 p2 p3 p4 p5 p6 p7 p8 p9 p10 p11 p12 p13 p14 p15 : Int) (w : World) (hx : Bs w A n c ks) (hy : Bs w B0 m c0 ds)
    (_ : (Lit.int .u32 p0).wf = true) (_ : (Lit.int .u32 p1).wf = true) (_ : (Lit.int .u32 p2).wf = true) (_ : (Lit.int .u32 p3).wf = true) (_ : (Lit.int .u32 p4).wf = true) (_ : (Lit.int .u32 p5).wf = true) (_ : (Lit.int .u32 p6).wf = true) (_ : (Lit.int .u32 p7).wf = true) (_ : (Lit.int .u32 p8).wf = true) (_ : (Lit.int .u32 p9).wf = true) (_ : (Lit.int .u32 p10).wf = true) (_ : (Lit.int .u32 p11).wf = true) (_ : (Lit.int .u32 p12).wf = true) (_ : (Lit.int .u32 p13).wf = true) (_ : (Lit.int .u32 p14).wf = true) (_ : (Lit.int .u32 p15).wf = true) :
    Calls Try.prog 6 #[.slice A n c, .slice B0 m c0, .agg #[.int .u32 p0, .int .u32 p1, .int .u32 p2, .int .u32 p3, .int .u32 p4, .int .u32 p5, .int .u32 p6, .int .u32 p7, .int .u32 p8, .int .u32 p9, .int .u32 p10, .int .u32 p11, .int .u32 p12, .int .u32 p13, .int .u32 p14, .int .u32 p15]] w fun e w' => e = .returned (.bool true) ∧ Below w.heap.size w w' :=
  order9_walk A n c ks B0 m c0 ds p0 p1 p2 p3 p4 p5 p6 p7 p8 p9 p10 p11 p12 p13 p14 p15 w hx hy
end Go.Proofs.Ytfgfohomgomidaa
