/- The walks of layer 13's statements in the shape that their frames want; no condition. -/
import Derived.Test.YtkoodhnfphmbnaaCodR
import Derived.Test.YtkoodhnfphmbnaaCodT
import Derived.Test.YtkoodhnfphmbnaaCodW
import Derived.Test.YtkoodhnfphmbnaaCodV
import Derived.Test.YtkoodhnfphmbnaaCodX
namespace Go.Proofs.Ytkoodhnfphmbnaa
set_option linter.unusedVariables false
set_option linter.unusedSimpArgs false
open Go.RowKit

theorem answers13_frame (A : Option Addr) (n c : Nat) (B : Option Addr) (m d : Nat) (C : Option Addr) (k f : Nat) (q : Pg) (A2 : Option Addr) (n2 c2 : Nat) (B2 : Option Addr) (m2 d2 : Nat) (C2 : Option Addr) (k2 f2 : Nat) (q2 : Pg) (y : Int) (w : World)
    (hx : I4s w A n c q.code ∧ Is w B m d q.kinds ∧ Is w C k f q.sizes ∧ PB q) (hx2 : I4s w A2 n2 c2 q2.code ∧ Is w B2 m2 d2 q2.kinds ∧ Is w C2 k2 f2 q2.sizes ∧ PB q2) (_ : (Lit.int .i64 y).wf = true) :
    Calls Try.prog 3 #[.agg #[.slice A n c, .slice B m d, .slice C k f, .int .i64 q.cells, .int .i64 q.recs, .int .i64 q.pat], .agg #[.slice A2 n2 c2, .slice B2 m2 d2, .slice C2 k2 f2, .int .i64 q2.cells, .int .i64 q2.recs, .int .i64 q2.pat], .int .i64 y] w fun e w' => e = .returned (.bool true) ∧ Below w.heap.size w w' :=
  answers13_walk A n c B m d C k f q.code q.kinds q.sizes q.cells q.recs q.pat A2 n2 c2 B2 m2 d2 C2 k2 f2 q2.code q2.kinds q2.sizes q2.cells q2.recs q2.pat y w hx.1 hx.2.1 hx.2.2.1 hx2.1 hx2.2.1 hx2.2.2.1 hx.2.2.2 hx2.2.2.2
theorem reads13_frame (E : Option Addr) (u v : Nat) (bs : List Int) (at0 : Int) (w : World) (hx : Bs w E u v bs) (_ : (Lit.int .i64 at0).wf = true) :
    Calls Try.prog 4 #[.slice E u v, .int .i64 at0] w fun e w' => e = .returned (.bool true) ∧ Below w.heap.size w w' := reads13_walk E u v bs at0 w hx
theorem places13_frame (A : Option Addr) (n c : Nat) (B : Option Addr) (m d : Nat) (C : Option Addr) (k f : Nat) (q : Pg) (iv : Int) (w : World) (hx : I4s w A n c q.code ∧ Is w B m d q.kinds ∧ Is w C k f q.sizes ∧ PB q) (hi : (Lit.int .u8 iv).wf = true) :
    Calls Try.prog 6 #[.agg #[.slice A n c, .slice B m d, .slice C k f, .int .i64 q.cells, .int .i64 q.recs, .int .i64 q.pat], .int .u8 iv] w fun e w' => e = .returned (.bool true) ∧ Below w.heap.size w w' :=
  places13_walk A n c B m d C k f q.code q.kinds q.sizes q.cells q.recs q.pat iv w hx.1 hx.2.1 hx.2.2.1 hx.2.2.2 (bounds_u8 hi).1 (Int.lt_of_le_of_lt (bounds_u8 hi).2 (by decide))
theorem back13_frame (A : Option Addr) (n c : Nat) (B : Option Addr) (m d : Nat) (C : Option Addr) (k f : Nat) (q : Pg) (Ea : Option Addr) (ua va : Nat) (al : List Int) (Eb : Option Addr) (ub vb_ : Nat) (bs : List Int) (w : World) (hx : I4s w A n c q.code ∧ Is w B m d q.kinds ∧ Is w C k f q.sizes ∧ PB q) (ha : Bs w Ea ua va al) (hb : Bs w Eb ub vb_ bs) :
    Calls Try.prog 5 #[.agg #[.slice A n c, .slice B m d, .slice C k f, .int .i64 q.cells, .int .i64 q.recs, .int .i64 q.pat], .slice Ea ua va, .slice Eb ub vb_] w fun e w' => e = .returned (.bool true) ∧ Below w.heap.size w w' :=
  back13_walk A n c B m d C k f q.code q.kinds q.sizes q.cells q.recs q.pat Ea ua va al Eb ub vb_ bs w hx.1 hx.2.1 hx.2.2.1 hx.2.2.2 ha hb
end Go.Proofs.Ytkoodhnfphmbnaa
