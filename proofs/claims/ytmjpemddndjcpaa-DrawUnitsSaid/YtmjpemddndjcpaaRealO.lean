/- What the program's own functions of layer 5 answer; no condition. -/
import Derived.Test.YtmjpemddndjcpaaRealOC
namespace Go.Proofs.Ytmjpemddndjcpaa
set_option linter.unusedVariables false
set_option linter.unusedSimpArgs false
open Go.RowKit
open Ieee
theorem realClass_any (x : Nat) (w : World) (hx : x < 18446744073709551616) : Calls Try.prog 23 #[.int .u64 (x : Int)] w fun e w' => e = .returned (.int .i64 (clsN x : Nat)) ∧ Below w.heap.size w w' := (realClass_any0 x w hx).mono fun _ _ h => ⟨h.1, h.2 ▸ Below.refl _ _⟩
theorem realLess_any (x y : Nat) (w : World) (hx : x < 18446744073709551616) (hy : y < 18446744073709551616) : Calls Try.prog 22 #[.int .u64 (x : Int), .int .u64 (y : Int)] w fun e w' => e = .returned (.bool (lessN x y)) ∧ Below w.heap.size w w' := (realLess_any0 x y w hx hy).mono fun _ _ h => ⟨h.1, h.2 ▸ Below.refl _ _⟩
end Go.Proofs.Ytmjpemddndjcpaa
