/- What the document's own Same, Make and Ints answer; for slices of up to 16384. -/
import Derived.Test.YtmgkmeppnhdhnaaAreF
import Derived.Laws.StructEq
namespace Go.Proofs.Ytmgkmeppnhdhnaa
set_option linter.unusedVariables false
set_option linter.unusedSimpArgs false
open Go.RowKit

def recV (r : Rec3) : Value := .agg #[.int .i64 r.1, .int .i64 r.2.1, .int .i64 r.2.2]
theorem Rs.drop_rec {w : World} {A : Option Addr} {n c : Nat} {rs : List Rec3} (h : Rs w A n c rs) (i : Nat) (hi : i < n) : rs.drop i = recAt rs i :: rs.drop (i + 1) := by
  have hl : i < rs.length := by have := h.len; omega
  rw [drop_at hl]
  unfold recAt
  rw [Int.toNat_natCast]
  simp [List.getD, List.getElem?_eq_getElem hl]
end Go.Proofs.Ytmgkmeppnhdhnaa
