/- What the landed timer's own functions answer, as the statements' walks want it; for lists of up to 16384. -/
import Derived.Test.YtehpfpphpffniaaTimLF
import Derived.Test.YtehpfpphpffniaaTimJ
namespace Go.Proofs.Ytehpfpphpffniaa
set_option linter.unusedVariables false
set_option linter.unusedSimpArgs false
open Go.RowKit
section
variable (A : Option Addr) (n c : Nat) (h : List Tm) (w : World)
theorem tmRight_any (hx : Tms w A n c h) (hn : n ≤ 16384) : Calls Try.prog 16 #[.slice A n c] w (YesT w (rightH h)) := tmRightL A n c h w hx hn
theorem tmPush_any (x0 x1 : Int) (hx : Tms w A n c h) (hn : n ≤ 16384) : Calls Try.prog 9 #[.slice A n c, .agg #[.int .i64 x0, .int .i64 x1]] w (HW w (pushH h (x0, x1)).1 (pushH h (x0, x1)).2) := tmPushL A n c h x0 x1 w hx hn
theorem tmPop_any (hx : Tms w A n c h) (hn : n ≤ 16384) : Calls Try.prog 11 #[.slice A n c] w (PW w (popH h).1 (popH h).2.1.1 (popH h).2.1.2 (popH h).2.2) := tmPopL A n c h w hx hn
theorem tmDrop_any (k : Int) (hx : Tms w A n c h) (hn : n ≤ 16384) : Calls Try.prog 13 #[.slice A n c, .int .i64 k] w (HW w (dropH h k).1 (dropH h k).2) := tmDropL A n c h k w hx hn
theorem tmDue_any (now : Int) (hx : Tms w A n c h) (hn : n ≤ 16384) : Calls Try.prog 18 #[.slice A n c, .int .i64 now] w (DW w (dueH h now).1 (dueH h now).2.1 (dueH h now).2.2) := tmDueL A n c h now w hx hn
theorem tmSorted_any (hx : Tms w A n c h) (hn : n ≤ 16384) : Calls Try.prog 21 #[.slice A n c] w (SW w (sortH h)) := tmSortedL A n c h w hx hn
end
end Go.Proofs.Ytehpfpphpffniaa
