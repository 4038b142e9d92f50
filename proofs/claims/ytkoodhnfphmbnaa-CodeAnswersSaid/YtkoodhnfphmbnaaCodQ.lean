/- The numbers that alive of layer 13 speaks of; no condition. -/
import Derived.Test.YtkoodhnfphmbnaaCodM
namespace Go.Proofs.Ytkoodhnfphmbnaa
set_option linter.unusedVariables false
set_option linter.unusedSimpArgs false
open Go.RowKit
/-- the programs of alive. -/
def alA : Pg := ⟨[(26, 0, 0, 0), (1, 3, -7, 0), (39, 1, 3, 0), (7, 2, 4, 0), (0, 0, 0, 0)], [1, 6], [0, 9], 2, 5, 20⟩
def alB : Pg := ⟨[(0, 0, 0, 0)], [], [], 0, 0, 1⟩
def alC : Pg := ⟨[(26, 0, 0, 0), (1, 3, -7, 0), (39, 1, 3, 0), (7, 2, 4, 0), (0, 0, 0, 0)], [1, 3], [0, 9], 2, 5, 20⟩
theorem alA_right : rightPg alA = true := by decide +kernel
theorem alB_right : rightPg alB = true := by decide +kernel
theorem alC_right : rightPg alC = false := by decide +kernel
theorem alA_ins : insB alA 2 = true := by decide +kernel
theorem alC_ins : insB alC 2 = false := by decide +kernel
theorem alB_bytes : ([7] : List Int) ++ bytesN (numsP alB) = [7, 2, 0, 0, 0, 0, 0, 0, 0, 2] := by
  have h0 : vb (zig 0).toNat = [0] := vb_small (by decide)
  have h1 : vb (zig 1).toNat = [2] := vb_small (by decide)
  show ([7] : List Int) ++ bytesN [1, 0, 0, 0, 0, 0, 0, 0, 1] = _
  simp only [bytesN, h0, h1, List.cons_append, List.nil_append]
theorem al_big : readPg [122] 0 = (noPg, 0, 4) := by rfl
theorem al_wrong : readPg [2, 0, 0, 0, 0, 0, 0, 0, 0] 0 = (noPg, 0, 3) := by rfl
end Go.Proofs.Ytkoodhnfphmbnaa
