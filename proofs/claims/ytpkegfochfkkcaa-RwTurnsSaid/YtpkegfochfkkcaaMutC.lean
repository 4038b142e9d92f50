/- Layer 15: what the document's own Begin answers; no condition. -/
import Derived.Test.YtpkegfochfkkcaaMutB
namespace Go.Proofs.Ytpkegfochfkkcaa
set_option linter.unusedVariables false
set_option linter.unusedSimpArgs false
open Go.RowKit
set_option maxRecDepth 100000 in
set_option maxHeartbeats 8000000 in
theorem refBegin15_any (op : Int) (w : World) : Calls Try.prog 20 #[.int .i64 op] w (fun e w' => e = .returned (frV (beginF op)) ∧ Below w.heap.size w w') := by
  obtain ⟨v1, hv1, z1, F⟩ := boxes1 w (.cells #[.int .i64 0, .int .i64 0, .int .i64 0, .int .i64 0, .int .i64 0, .int .i64 0, .bool false, .bool false, .int .i64 0, .bool false] 31)
  generalize hq : w.heap.size = q at *
  have FR := Lib.hid F
  clear F
  have c00 : v1.cell? ⟨q, 0, none⟩ = some (.int .i64 0) := FR.out.cell 0 0 rfl rfl rfl
  have f00 : v1.frozen? ⟨q, 0, none⟩ = false := FR.out.frozen 0 0 rfl rfl
  have c01 : v1.cell? ⟨q, 1, none⟩ = some (.int .i64 0) := FR.out.cell 0 1 rfl rfl rfl
  have f01 : v1.frozen? ⟨q, 1, none⟩ = false := FR.out.frozen 0 1 rfl rfl
  have c02 : v1.cell? ⟨q, 2, none⟩ = some (.int .i64 0) := FR.out.cell 0 2 rfl rfl rfl
  have f02 : v1.frozen? ⟨q, 2, none⟩ = false := FR.out.frozen 0 2 rfl rfl
  have c03 : v1.cell? ⟨q, 3, none⟩ = some (.int .i64 0) := FR.out.cell 0 3 rfl rfl rfl
  have f03 : v1.frozen? ⟨q, 3, none⟩ = false := FR.out.frozen 0 3 rfl rfl
  have c04 : v1.cell? ⟨q, 4, none⟩ = some (.int .i64 0) := FR.out.cell 0 4 rfl rfl rfl
  have f04 : v1.frozen? ⟨q, 4, none⟩ = false := FR.out.frozen 0 4 rfl rfl
  have c05 : v1.cell? ⟨q, 5, none⟩ = some (.int .i64 0) := FR.out.cell 0 5 rfl rfl rfl
  have f05 : v1.frozen? ⟨q, 5, none⟩ = false := FR.out.frozen 0 5 rfl rfl
  have c06 : v1.cell? ⟨q, 6, none⟩ = some (.bool false) := FR.out.cell 0 6 rfl rfl rfl
  have f06 : v1.frozen? ⟨q, 6, none⟩ = false := FR.out.frozen 0 6 rfl rfl
  have c07 : v1.cell? ⟨q, 7, none⟩ = some (.bool false) := FR.out.cell 0 7 rfl rfl rfl
  have f07 : v1.frozen? ⟨q, 7, none⟩ = false := FR.out.frozen 0 7 rfl rfl
  have c08 : v1.cell? ⟨q, 8, none⟩ = some (.int .i64 0) := FR.out.cell 0 8 rfl rfl rfl
  have f08 : v1.frozen? ⟨q, 8, none⟩ = false := FR.out.frozen 0 8 rfl rfl
  have c09 : v1.cell? ⟨q, 9, none⟩ = some (.bool false) := FR.out.cell 0 9 rfl rfl rfl
  have f09 : v1.frozen? ⟨q, 9, none⟩ = false := FR.out.frozen 0 9 rfl rfl
  go_enter Try.func20, Try.ntmps20
  go_wp2
  have FZ : Fr w ((((((((((v1.setCell ⟨q, 0, none⟩ (.int .i64 op)).setCell ⟨q, 1, none⟩ (.int .i64 0)).setCell ⟨q, 2, none⟩ (.int .i64 0)).setCell ⟨q, 3, none⟩ (.int .i64 0)).setCell ⟨q, 4, none⟩ (.int .i64 (-1))).setCell ⟨q, 5, none⟩ (.int .i64 0)).setCell ⟨q, 6, none⟩ (.bool false)).setCell ⟨q, 7, none⟩ (.bool false)).setCell ⟨q, 8, none⟩ (.int .i64 0)).setCell ⟨q, 9, none⟩ (.bool false)) q [.cells #[.int .i64 op, .int .i64 0, .int .i64 0, .int .i64 0, .int .i64 (-1), .int .i64 0, .bool false, .bool false, .int .i64 0, .bool false] 31] := ((((((((((FR.out.set 0 0 rfl rfl (.int .i64 op)).set 0 1 rfl rfl (.int .i64 0)).set 0 2 rfl rfl (.int .i64 0)).set 0 3 rfl rfl (.int .i64 0)).set 0 4 rfl rfl (.int .i64 (-1))).set 0 5 rfl rfl (.int .i64 0)).set 0 6 rfl rfl (.bool false)).set 0 7 rfl rfl (.bool false)).set 0 8 rfl rfl (.int .i64 0)).set 0 9 rfl rfl (.bool false))
  refine bodyPost_ret (res_c Try.results20 (by rfl) (FZ.load 0 rfl rfl Try.underlying31 (by kernel_rfl))) rfl ?_
  exact ⟨rfl, FZ.bel⟩
end Go.Proofs.Ytpkegfochfkkcaa
