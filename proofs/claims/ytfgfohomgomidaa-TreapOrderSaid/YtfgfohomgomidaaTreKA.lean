/- What the landed treap's own tests on nodes and places of layer 9 answer; for slices of up to 16384 nodes. -/
import Derived.Test.YtfgfohomgomidaaTreJ
import Derived.Test.YtfgfohomgomidaaTreK
namespace Go.Proofs.Ytfgfohomgomidaa
set_option linter.unusedVariables false
set_option linter.unusedSimpArgs false
open Go.RowKit
/-- a number comes back. -/
def Int9 (w : World) (x : Int) (e : Ending) (w' : World) : Prop := e = .returned (.int .i64 x) ∧ Below w.heap.size w w'
set_option maxRecDepth 100000 in
set_option maxHeartbeats 4000000 in
theorem tpAbove_any (x y : Nd) (w : World) :
    Calls Try.prog 42 #[.agg #[.int .i64 x.k, .int .u32 x.p, .int .i64 x.l, .int .i64 x.r, .int .i64 x.h, .int .i64 x.t], .agg #[.int .i64 y.k, .int .u32 y.p, .int .i64 y.l, .int .i64 y.r, .int .i64 y.h, .int .i64 y.t]] w (Yes9 w (aboveN x y)) := by
  obtain ⟨v1, hv1⟩ : ∃ W, w.alloc (.cells #[.int .i64 x.k, .int .u32 x.p, .int .i64 x.l, .int .i64 x.r, .int .i64 x.h, .int .i64 x.t] 52) = W := ⟨_, rfl⟩
  have fr1 : Fr w v1 w.heap.size [.cells #[.int .i64 x.k, .int .u32 x.p, .int .i64 x.l, .int .i64 x.r, .int .i64 x.h, .int .i64 x.t] 52] := hv1 ▸ Fr.first w _
  have z1 : v1.heap.size = w.heap.size + 1 := by rw [← hv1, Fr.size1]
  obtain ⟨v2, hv2⟩ : ∃ W, v1.alloc (.cells #[.int .i64 y.k, .int .u32 y.p, .int .i64 y.l, .int .i64 y.r, .int .i64 y.h, .int .i64 y.t] 52) = W := ⟨_, rfl⟩
  have fr2 : Fr w v2 w.heap.size [.cells #[.int .i64 x.k, .int .u32 x.p, .int .i64 x.l, .int .i64 x.r, .int .i64 x.h, .int .i64 x.t] 52, .cells #[.int .i64 y.k, .int .u32 y.p, .int .i64 y.l, .int .i64 y.r, .int .i64 y.h, .int .i64 y.t] 52] := hv2 ▸ fr1.more z1 _
  have z2 : v2.heap.size = w.heap.size + 2 := by rw [← hv2, Fr.size1, z1]
  generalize hq : w.heap.size = q at *
  have FR := Lib.hid fr2
  clear fr1 fr2
  have c00 : v2.cell? ⟨q, 0, none⟩ = some (.int .i64 x.k) := FR.out.cell 0 0 rfl rfl rfl
  have c01 : v2.cell? ⟨q, 1, none⟩ = some (.int .u32 x.p) := FR.out.cell 0 1 rfl rfl rfl
  have c02 : v2.cell? ⟨q, 2, none⟩ = some (.int .i64 x.l) := FR.out.cell 0 2 rfl rfl rfl
  have c03 : v2.cell? ⟨q, 3, none⟩ = some (.int .i64 x.r) := FR.out.cell 0 3 rfl rfl rfl
  have c04 : v2.cell? ⟨q, 4, none⟩ = some (.int .i64 x.h) := FR.out.cell 0 4 rfl rfl rfl
  have c05 : v2.cell? ⟨q, 5, none⟩ = some (.int .i64 x.t) := FR.out.cell 0 5 rfl rfl rfl
  have c10 : v2.cell? ⟨q + 1, 0, none⟩ = some (.int .i64 y.k) := FR.out.cell 1 0 rfl rfl rfl
  have c11 : v2.cell? ⟨q + 1, 1, none⟩ = some (.int .u32 y.p) := FR.out.cell 1 1 rfl rfl rfl
  have c12 : v2.cell? ⟨q + 1, 2, none⟩ = some (.int .i64 y.l) := FR.out.cell 1 2 rfl rfl rfl
  have c13 : v2.cell? ⟨q + 1, 3, none⟩ = some (.int .i64 y.r) := FR.out.cell 1 3 rfl rfl rfl
  have c14 : v2.cell? ⟨q + 1, 4, none⟩ = some (.int .i64 y.h) := FR.out.cell 1 4 rfl rfl rfl
  have c15 : v2.cell? ⟨q + 1, 5, none⟩ = some (.int .i64 y.t) := FR.out.cell 1 5 rfl rfl rfl
  have HB := Lib.hid FR.out.out
  clear FR
  obtain ⟨r, hr⟩ : ∃ r, aboveN x y = r := ⟨_, rfl⟩
  rw [hr]
  unfold aboveN at hr
  by_cases h0 : x.p = y.p
  · have b0 : (x.p != y.p) = false := by simp [h0]
    rw [if_pos h0] at hr
    clear h0
    go_enter Try.func42, Try.ntmps42
    go_wp2
    go_ret
    exact ⟨by rw [← hr]; rfl, HB.out⟩
  · have b0 : (x.p != y.p) = true := by simp [h0]
    rw [if_neg h0] at hr
    clear h0
    go_enter Try.func42, Try.ntmps42
    go_wp2
    go_ret
    exact ⟨by rw [← hr]; rfl, HB.out⟩
set_option maxRecDepth 100000 in
set_option maxHeartbeats 4000000 in
theorem tpTowards_any (x : Nd) (key : Int) (w : World) :
    Calls Try.prog 41 #[.agg #[.int .i64 x.k, .int .u32 x.p, .int .i64 x.l, .int .i64 x.r, .int .i64 x.h, .int .i64 x.t], .int .i64 key] w (fun e w' => e = .returned (.int .i64 (if key < x.k then x.l else x.r)) ∧ Below w.heap.size w w') := by
  obtain ⟨v1, hv1⟩ : ∃ W, w.alloc (.cells #[.int .i64 x.k, .int .u32 x.p, .int .i64 x.l, .int .i64 x.r, .int .i64 x.h, .int .i64 x.t] 52) = W := ⟨_, rfl⟩
  have fr1 : Fr w v1 w.heap.size [.cells #[.int .i64 x.k, .int .u32 x.p, .int .i64 x.l, .int .i64 x.r, .int .i64 x.h, .int .i64 x.t] 52] := hv1 ▸ Fr.first w _
  have z1 : v1.heap.size = w.heap.size + 1 := by rw [← hv1, Fr.size1]
  generalize hq : w.heap.size = q at *
  have FR := Lib.hid fr1
  clear fr1
  have c00 : v1.cell? ⟨q, 0, none⟩ = some (.int .i64 x.k) := FR.out.cell 0 0 rfl rfl rfl
  have c01 : v1.cell? ⟨q, 1, none⟩ = some (.int .u32 x.p) := FR.out.cell 0 1 rfl rfl rfl
  have c02 : v1.cell? ⟨q, 2, none⟩ = some (.int .i64 x.l) := FR.out.cell 0 2 rfl rfl rfl
  have c03 : v1.cell? ⟨q, 3, none⟩ = some (.int .i64 x.r) := FR.out.cell 0 3 rfl rfl rfl
  have c04 : v1.cell? ⟨q, 4, none⟩ = some (.int .i64 x.h) := FR.out.cell 0 4 rfl rfl rfl
  have c05 : v1.cell? ⟨q, 5, none⟩ = some (.int .i64 x.t) := FR.out.cell 0 5 rfl rfl rfl
  have HB := Lib.hid FR.out.bel
  clear FR
  obtain ⟨r, hr⟩ : ∃ r, (if key < x.k then x.l else x.r) = r := ⟨_, rfl⟩
  rw [hr]
  by_cases h0 : key < x.k
  · have b0 : decide (key < x.k) = true := by simpa using h0
    rw [if_pos h0] at hr
    have HE := Lib.hid hr
    clear hr h0
    go_enter Try.func41, Try.ntmps41
    go_wp2
    go_ret
    rw [HE.out]
    exact ⟨rfl, HB.out⟩
  · have b0 : decide (key < x.k) = false := by simpa using h0
    rw [if_neg h0] at hr
    have HE := Lib.hid hr
    clear hr h0
    go_enter Try.func41, Try.ntmps41
    go_wp2
    go_ret
    rw [HE.out]
    exact ⟨rfl, HB.out⟩
set_option maxRecDepth 100000 in
set_option maxHeartbeats 4000000 in
theorem tpNoQueue_any (w : World) :
    Calls Try.prog 33 #[] w (fun e w' => e = .returned (.agg #[.int .i64 (-1), .int .i64 (-1)]) ∧ Below w.heap.size w w') := by
  obtain ⟨v1, hv1⟩ : ∃ W, w.alloc (.cells #[.int .i64 0, .int .i64 0] 43) = W := ⟨_, rfl⟩
  have fr1 : Fr w v1 w.heap.size [.cells #[.int .i64 0, .int .i64 0] 43] := hv1 ▸ Fr.first w _
  have z1 : v1.heap.size = w.heap.size + 1 := by rw [← hv1, Fr.size1]
  generalize hq : w.heap.size = q at *
  have FR := Lib.hid fr1
  clear fr1
  have c00 : v1.cell? ⟨q, 0, none⟩ = some (.int .i64 0) := FR.out.cell 0 0 rfl rfl rfl
  have f00 : v1.frozen? ⟨q, 0, none⟩ = false := FR.out.frozen 0 0 rfl rfl
  have c01 : v1.cell? ⟨q, 1, none⟩ = some (.int .i64 0) := FR.out.cell 0 1 rfl rfl rfl
  have f01 : v1.frozen? ⟨q, 1, none⟩ = false := FR.out.frozen 0 1 rfl rfl
  go_enter Try.func33, Try.ntmps33
  go_wp2
  have FZ : Fr w ((v1.setCell ⟨q, 0, none⟩ (.int .i64 (-1))).setCell ⟨q, 1, none⟩ (.int .i64 (-1))) q [.cells #[.int .i64 (-1), .int .i64 (-1)] 43] := ((FR.out.set 0 0 rfl rfl (.int .i64 (-1))).set 0 1 rfl rfl (.int .i64 (-1)))
  refine bodyPost_ret (res_c Try.results33 (by rfl) (FZ.load 0 rfl rfl Try.underlying43 (by kernel_rfl))) rfl ?_
  exact ⟨rfl, FZ.bel⟩
set_option maxRecDepth 100000 in
set_option maxHeartbeats 4000000 in
theorem tpEmpty_any (nx : Int) (w : World) :
    Calls Try.prog 46 #[.int .i64 nx] w (fun e w' => e = .returned (.agg #[.int .i64 (-1), .int .u32 0, .int .i64 nx, .int .i64 (-1), .int .i64 (-1), .int .i64 (-1)]) ∧ Below w.heap.size w w') := by
  obtain ⟨v1, hv1⟩ : ∃ W, w.alloc (.cells #[.int .i64 0, .int .u32 0, .int .i64 0, .int .i64 0, .int .i64 0, .int .i64 0] 52) = W := ⟨_, rfl⟩
  have fr1 : Fr w v1 w.heap.size [.cells #[.int .i64 0, .int .u32 0, .int .i64 0, .int .i64 0, .int .i64 0, .int .i64 0] 52] := hv1 ▸ Fr.first w _
  have z1 : v1.heap.size = w.heap.size + 1 := by rw [← hv1, Fr.size1]
  generalize hq : w.heap.size = q at *
  have FR := Lib.hid fr1
  clear fr1
  go_enter Try.func46, Try.ntmps46
  have c00 : v1.cell? ⟨q, 0, none⟩ = some (.int .i64 0) := FR.out.cell 0 0 rfl rfl rfl
  have c01 : v1.cell? ⟨q, 1, none⟩ = some (.int .u32 0) := FR.out.cell 0 1 rfl rfl rfl
  have c02 : v1.cell? ⟨q, 2, none⟩ = some (.int .i64 0) := FR.out.cell 0 2 rfl rfl rfl
  have c03 : v1.cell? ⟨q, 3, none⟩ = some (.int .i64 0) := FR.out.cell 0 3 rfl rfl rfl
  have c04 : v1.cell? ⟨q, 4, none⟩ = some (.int .i64 0) := FR.out.cell 0 4 rfl rfl rfl
  have c05 : v1.cell? ⟨q, 5, none⟩ = some (.int .i64 0) := FR.out.cell 0 5 rfl rfl rfl
  go_wp2_with fail
  refine (tpNoQueue_any _).mono ?_
  rintro e w2 ⟨rfl, hb⟩
  clear c00 c01 c02 c03 c04 c05
  replace FR := Lib.hid (FR.out.step hb)
  clear hb
  have c00 : w2.cell? ⟨q, 0, none⟩ = some (.int .i64 0) := FR.out.cell 0 0 rfl rfl rfl
  have f00 : w2.frozen? ⟨q, 0, none⟩ = false := FR.out.frozen 0 0 rfl rfl
  have c01 : w2.cell? ⟨q, 1, none⟩ = some (.int .u32 0) := FR.out.cell 0 1 rfl rfl rfl
  have f01 : w2.frozen? ⟨q, 1, none⟩ = false := FR.out.frozen 0 1 rfl rfl
  have c02 : w2.cell? ⟨q, 2, none⟩ = some (.int .i64 0) := FR.out.cell 0 2 rfl rfl rfl
  have f02 : w2.frozen? ⟨q, 2, none⟩ = false := FR.out.frozen 0 2 rfl rfl
  have c03 : w2.cell? ⟨q, 3, none⟩ = some (.int .i64 0) := FR.out.cell 0 3 rfl rfl rfl
  have f03 : w2.frozen? ⟨q, 3, none⟩ = false := FR.out.frozen 0 3 rfl rfl
  have c04 : w2.cell? ⟨q, 4, none⟩ = some (.int .i64 0) := FR.out.cell 0 4 rfl rfl rfl
  have f04 : w2.frozen? ⟨q, 4, none⟩ = false := FR.out.frozen 0 4 rfl rfl
  have c05 : w2.cell? ⟨q, 5, none⟩ = some (.int .i64 0) := FR.out.cell 0 5 rfl rfl rfl
  have f05 : w2.frozen? ⟨q, 5, none⟩ = false := FR.out.frozen 0 5 rfl rfl
  go_wp2
  have FZ : Fr w ((((((w2.setCell ⟨q, 0, none⟩ (.int .i64 (-1))).setCell ⟨q, 1, none⟩ (.int .u32 0)).setCell ⟨q, 2, none⟩ (.int .i64 nx)).setCell ⟨q, 3, none⟩ (.int .i64 (-1))).setCell ⟨q, 4, none⟩ (.int .i64 (-1))).setCell ⟨q, 5, none⟩ (.int .i64 (-1))) q [.cells #[.int .i64 (-1), .int .u32 0, .int .i64 nx, .int .i64 (-1), .int .i64 (-1), .int .i64 (-1)] 52] := ((((((FR.out.set 0 0 rfl rfl (.int .i64 (-1))).set 0 1 rfl rfl (.int .u32 0)).set 0 2 rfl rfl (.int .i64 nx)).set 0 3 rfl rfl (.int .i64 (-1))).set 0 4 rfl rfl (.int .i64 (-1))).set 0 5 rfl rfl (.int .i64 (-1)))
  refine bodyPost_ret (res_c Try.results46 (by rfl) (FZ.load 0 rfl rfl Try.underlying52 (by kernel_rfl))) rfl ?_
  exact ⟨rfl, FZ.bel⟩
theorem node_eql (x y : Nd) (W : World) : (binOp .eql 52 (.agg #[.int .i64 x.k, .int .u32 x.p, .int .i64 x.l, .int .i64 x.r, .int .i64 x.h, .int .i64 x.t]) (.agg #[.int .i64 y.k, .int .u32 y.p, .int .i64 y.l, .int .i64 y.r, .int .i64 y.h, .int .i64 y.t])).run Try.prog W = .ok (.bool (decide (x = y))) W := by
  obtain ⟨a1, a2, a3, a4, a5, a6⟩ := x
  obtain ⟨b1, b2, b3, b4, b5, b6⟩ := y
  have hd : decide ((⟨a1, a2, a3, a4, a5, a6⟩ : Nd) = ⟨b1, b2, b3, b4, b5, b6⟩) = (decide (a1 = b1) && (decide (a2 = b2) && (decide (a3 = b3) && (decide (a4 = b4) && (decide (a5 = b5) && decide (a6 = b6)))))) := by
    by_cases h1 : a1 = b1 <;> by_cases h2 : a2 = b2 <;> by_cases h3 : a3 = b3 <;> by_cases h4 : a4 = b4 <;> by_cases h5 : a5 = b5 <;> by_cases h6 : a6 = b6 <;> simp [h1, h2, h3, h4, h5, h6]
  rw [hd]
  go_simp
  (repeat' split) <;> simp_all
set_option maxRecDepth 100000 in
set_option maxHeartbeats 4000000 in
theorem tpIsEmpty_any (x : Nd) (w : World) :
    Calls Try.prog 52 #[.agg #[.int .i64 x.k, .int .u32 x.p, .int .i64 x.l, .int .i64 x.r, .int .i64 x.h, .int .i64 x.t]] w (Yes9 w (decide (x = empN x.l))) := by
  obtain ⟨v1, hv1⟩ : ∃ W, w.alloc (.cells #[.int .i64 x.k, .int .u32 x.p, .int .i64 x.l, .int .i64 x.r, .int .i64 x.h, .int .i64 x.t] 52) = W := ⟨_, rfl⟩
  have fr1 : Fr w v1 w.heap.size [.cells #[.int .i64 x.k, .int .u32 x.p, .int .i64 x.l, .int .i64 x.r, .int .i64 x.h, .int .i64 x.t] 52] := hv1 ▸ Fr.first w _
  have z1 : v1.heap.size = w.heap.size + 1 := by rw [← hv1, Fr.size1]
  generalize hq : w.heap.size = q at *
  have FR := Lib.hid fr1
  clear fr1
  have hne := node_eql x (empN x.l)
  unfold empN at hne
  have HE := Lib.hid (show decide (x = empN x.l) = decide (x = ⟨-1, 0, x.l, -1, -1, -1⟩) from rfl)
  rw [HE.out]
  clear HE
  generalize decide (x = ⟨-1, 0, x.l, -1, -1, -1⟩) = r at *
  have hqz : q < v1.heap.size := by have := FR.out.sz; simp only [List.length_cons, List.length_nil] at this; omega
  have c00 : v1.cell? ⟨q, 0, none⟩ = some (.int .i64 x.k) := FR.out.cell 0 0 rfl rfl rfl
  have c01 : v1.cell? ⟨q, 1, none⟩ = some (.int .u32 x.p) := FR.out.cell 0 1 rfl rfl rfl
  have c02 : v1.cell? ⟨q, 2, none⟩ = some (.int .i64 x.l) := FR.out.cell 0 2 rfl rfl rfl
  have c03 : v1.cell? ⟨q, 3, none⟩ = some (.int .i64 x.r) := FR.out.cell 0 3 rfl rfl rfl
  have c04 : v1.cell? ⟨q, 4, none⟩ = some (.int .i64 x.h) := FR.out.cell 0 4 rfl rfl rfl
  have c05 : v1.cell? ⟨q, 5, none⟩ = some (.int .i64 x.t) := FR.out.cell 0 5 rfl rfl rfl
  go_enter Try.func52, Try.ntmps52
  go_wp2
  refine wp_region_noPanic ?_
  refine wp_region_held_drew (S := (fun wv => Hid (Below v1.heap.size v1 wv))) (by kernel_rfl) (Lib.hid (Below.refl _ v1).drew) (fun hS => ?_)
  refine wpAnyH_take (i := 0) (oi := ⟨some 3, .load 52 (.tmp 1), 52, "tree.go:209", #[], none⟩) (v := .agg (([.int .i64 x.k, .int .u32 x.p, .int .i64 x.l, .int .i64 x.r, .int .i64 x.h, .int .i64 x.t] : List Value)).toArray) rfl (by kernel_rfl) (by kernel_rfl) (by kernel_rfl) (fun _ _ _ h => h) (yieldsIf_load_mid (by rfl) _ _ (by rfl) (q) (0) (by rfl) (([.int .i64 x.k, .int .u32 x.p, .int .i64 x.l, .int .i64 x.r, .int .i64 x.h, .int .i64 x.t] : List Value)) _ (fun wv hS => nd_range (hS.out.cell (p := ⟨q, 0, none⟩) hqz |>.trans c00) (hS.out.cell (p := ⟨q, 1, none⟩) hqz |>.trans c01) (hS.out.cell (p := ⟨q, 2, none⟩) hqz |>.trans c02) (hS.out.cell (p := ⟨q, 3, none⟩) hqz |>.trans c03) (hS.out.cell (p := ⟨q, 4, none⟩) hqz |>.trans c04) (hS.out.cell (p := ⟨q, 5, none⟩) hqz |>.trans c05)) Try.underlying52 (by rfl) (by kernel_rfl)) hS ?_
  try simp only [Act.put, List.setIfInBounds_toArray, List.set_cons_zero, List.set_cons_succ]
  refine wpAnyH_take (i := 1) (oi := ⟨some 4, .fieldAddr 52 (.tmp 1) 2, 0, "tree.go:209", #[], none⟩) (v := ?_) rfl (by kernel_rfl) (by kernel_rfl) (by kernel_rfl) (fun _ _ _ h => h) (Or.inl ⟨by rfl, ?_⟩) hS ?_
  rotate_left
  · intro wv _; go_simp; try with_reducible rfl
  try simp only [Act.put, List.setIfInBounds_toArray, List.set_cons_zero, List.set_cons_succ]
  refine wpAnyH_take (i := 2) (oi := ⟨some 5, .load 3 (.tmp 4), 3, "tree.go:209", #[⟨1, .data⟩], none⟩) (v := ?_) rfl (by kernel_rfl) (by kernel_rfl) (by kernel_rfl) (fun _ _ _ h => h) (Or.inl ⟨by rfl, ?_⟩) hS ?_
  rotate_left
  · intro wv hS; have hrun := (hS.out.cell (p := ⟨q, 2, none⟩) hqz).trans c02; go_simp; try with_reducible rfl
  try simp only [Act.put, List.setIfInBounds_toArray, List.set_cons_zero, List.set_cons_succ]
  refine wpAnyH_ready (rs := [3]) (by kernel_rfl) (by simp) (AllReadyH.cons (o := ⟨some 6, .call { callee := .value (.func 46), args := #[.tmp 5], argTypes := #[3] }, 52, "tree.go:209", #[⟨2, .data⟩], none⟩) rfl (fun K hK => ?_) AllReadyH.nil)
  go_simp
  refine (tpEmpty_any x.l _).mono ?_; rintro e wb ⟨rfl, hb⟩
  replace hS := Lib.hid (hS.out.trans (hb.mono hS.out.size))
  clear hb
  go_wp2_with fail
  refine Shut.out hK _ _ hS (fun _ => ?_)
  clear hK K
  try simp only [Act.put, List.setIfInBounds_toArray, List.set_cons_zero, List.set_cons_succ]
  refine wpAnyH_take (i := 4) (oi := ⟨some 7, .binOp .eql 52 (.tmp 3) (.tmp 6) 52, 4, "tree.go:209", #[⟨0, .data⟩, ⟨3, .data⟩], none⟩) (v := ?_) rfl (by kernel_rfl) (by kernel_rfl) (by kernel_rfl) (fun _ _ _ h => h) (Or.inl ⟨by rfl, ?_⟩) hS ?_
  rotate_left
  · intro wv _; go_simp; try with_reducible rfl
  try simp only [Act.put, List.setIfInBounds_toArray, List.set_cons_zero, List.set_cons_succ]
  refine wpAnyH_take (i := 5) (oi := ⟨some 2, .assign (.tmp 7), 4, "tree.go:209", #[⟨4, .data⟩, ⟨3, .chain⟩, ⟨0, .phase⟩, ⟨1, .phase⟩, ⟨2, .phase⟩, ⟨3, .phase⟩, ⟨4, .phase⟩], none⟩) (v := ?_) rfl (by kernel_rfl) (by kernel_rfl) (by kernel_rfl) (fun _ _ _ h => h) (Or.inl ⟨by rfl, ?_⟩) hS ?_
  rotate_left
  · intro wv _; go_simp; try with_reducible rfl
  try simp only [Act.put, List.setIfInBounds_toArray, List.set_cons_zero, List.set_cons_succ]
  refine wpAnyH_done (by kernel_rfl) ?_ _
  refine NoPanic.normal ?_
  go_wp2
  go_ret
  exact ⟨rfl, FR.out.out.trans (hS.out.mono FR.out.out.size)⟩
set_option maxRecDepth 100000 in
set_option maxHeartbeats 4000000 in
theorem tpPlace_any (A : Option Addr) (n c : Nat) (rt fr i : Int) (w : World) :
    Calls Try.prog 51 #[.agg #[.slice A n c, .int .i64 rt, .int .i64 fr], .int .i64 i] w (Yes9 w (placeIn n i)) := by
  obtain ⟨v1, hv1⟩ : ∃ W, w.alloc (.cells #[.slice A n c, .int .i64 rt, .int .i64 fr] 54) = W := ⟨_, rfl⟩
  have fr1 : Fr w v1 w.heap.size [.cells #[.slice A n c, .int .i64 rt, .int .i64 fr] 54] := hv1 ▸ Fr.first w _
  have z1 : v1.heap.size = w.heap.size + 1 := by rw [← hv1, Fr.size1]
  generalize hq : w.heap.size = q at *
  have FR := Lib.hid fr1
  clear fr1
  have c00 : v1.cell? ⟨q, 0, none⟩ = some (.slice A n c) := FR.out.cell 0 0 rfl rfl rfl
  have c01 : v1.cell? ⟨q, 1, none⟩ = some (.int .i64 rt) := FR.out.cell 0 1 rfl rfl rfl
  have c02 : v1.cell? ⟨q, 2, none⟩ = some (.int .i64 fr) := FR.out.cell 0 2 rfl rfl rfl
  have HB := Lib.hid FR.out.out
  clear FR
  unfold placeIn
  by_cases h0 : 0 ≤ i
  · have b0 : decide (0 ≤ i) = true := by simpa using h0
    clear h0
    go_enter Try.func51, Try.ntmps51
    go_wp2
    go_ret
    exact ⟨by rw [b0, Bool.true_and]; rfl, HB.out⟩
  · have b0 : decide (0 ≤ i) = false := by simpa using h0
    clear h0
    go_enter Try.func51, Try.ntmps51
    go_wp2
    go_ret
    exact ⟨by rw [b0, Bool.false_and]; rfl, HB.out⟩
set_option maxRecDepth 100000 in
set_option maxHeartbeats 4000000 in
theorem tpBegin_any (A : Option Addr) (n c : Nat) (rt fr i : Int) (w : World) :
    Calls Try.prog 47 #[.agg #[.slice A n c, .int .i64 rt, .int .i64 fr], .int .i64 i] w (Yes9 w (beginIn n i)) := by
  obtain ⟨v1, hv1⟩ : ∃ W, w.alloc (.cells #[.slice A n c, .int .i64 rt, .int .i64 fr] 54) = W := ⟨_, rfl⟩
  have fr1 : Fr w v1 w.heap.size [.cells #[.slice A n c, .int .i64 rt, .int .i64 fr] 54] := hv1 ▸ Fr.first w _
  have z1 : v1.heap.size = w.heap.size + 1 := by rw [← hv1, Fr.size1]
  generalize hq : w.heap.size = q at *
  have FR := Lib.hid fr1
  clear fr1
  by_cases h0 : i = -1
  · have b0 : (i == -1) = true := by simpa using h0
    have HE := Lib.hid (show beginIn n i = true from beginIn_iff.2 (Or.inl h0))
    clear h0
    go_enter Try.func47, Try.ntmps47
    go_wp2
    go_ret
    rw [HE.out]
    exact ⟨rfl, FR.out.out⟩
  · have b0 : (i == -1) = false := by simpa using h0
    have HE := Lib.hid (show beginIn n i = placeIn n i by unfold beginIn; rw [decide_eq_false h0, Bool.false_or])
    have PL := Lib.hid (tpPlace_any A n c rt fr i v1)
    clear h0
    generalize placeIn n i = pl at *
    go_enter Try.func47, Try.ntmps47
    have c00 : v1.cell? ⟨q, 0, none⟩ = some (.slice A n c) := FR.out.cell 0 0 rfl rfl rfl
    have c01 : v1.cell? ⟨q, 1, none⟩ = some (.int .i64 rt) := FR.out.cell 0 1 rfl rfl rfl
    have c02 : v1.cell? ⟨q, 2, none⟩ = some (.int .i64 fr) := FR.out.cell 0 2 rfl rfl rfl
    go_wp2_with fail
    refine (PL.out).mono ?_
    rintro e w2 ⟨rfl, hb⟩
    clear c00 c01 c02
    replace FR := Lib.hid (FR.out.step hb)
    clear hb
    go_wp2
    go_ret
    rw [HE.out]
    exact ⟨rfl, FR.out.out⟩
set_option maxRecDepth 100000 in
set_option maxHeartbeats 4000000 in
theorem tpLast_any (A : Option Addr) (n c : Nat) (ns : List Nd) (rt fr : Int) (w : World) (hx : Ns w A n c ns) (hn : n ≤ 16384) (C : Option Addr) (m d : Nat) (l : List Int) (hl : Is w C m d l) (hin : InN n l) (hm : m ≤ 16384) :
    Calls Try.prog 54 #[.agg #[.slice A n c, .int .i64 rt, .int .i64 fr], .slice C m d] w (Int9 w (lastK ns l)) := by
  have RX := Lib.hid hx; have LX := Lib.hid hl
  have hml : l.length = m := hl.len
  clear hx hl
  obtain ⟨v1, hv1⟩ : ∃ W, w.alloc (.cells #[.slice A n c, .int .i64 rt, .int .i64 fr] 54) = W := ⟨_, rfl⟩
  have fr1 : Fr w v1 w.heap.size [.cells #[.slice A n c, .int .i64 rt, .int .i64 fr] 54] := hv1 ▸ Fr.first w _
  have z1 : v1.heap.size = w.heap.size + 1 := by rw [← hv1, Fr.size1]
  generalize hq : w.heap.size = q at *
  have FR := Lib.hid fr1
  clear fr1
  by_cases h0 : m = 0
  · have b0 : ((m : Int) == 0) = true := by simpa using h0
    have b0n : (m == 0) = true := by simpa using h0
    have HE := Lib.hid (show lastK ns l = -1 by unfold lastK; rw [if_pos (List.eq_nil_of_length_eq_zero (by omega))])
    clear h0 hml
    go_enter Try.func54, Try.ntmps54
    go_wp2
    go_ret
    rw [HE.out]
    exact ⟨rfl, FR.out.out⟩
  · have b0 : ((m : Int) == 0) = false := by simpa using h0
    have b0n : (m == 0) = false := by simpa using h0
    obtain ⟨k, hk⟩ : ∃ k : Nat, m = k + 1 := ⟨m - 1, by omega⟩
    have hlk : l ≠ [] := fun e => by subst e; simp at hml; omega
    have hlm : k < l.length := by omega
    obtain ⟨i, hi⟩ : ∃ i : Nat, l.getD k 0 = (i : Int) := ⟨(l.getD k 0).toNat, by have := hin (l.getD k 0) (by simp [List.getD, hlm]); omega⟩
    have hin2 : i < n := by have := hin (l.getD k 0) (by simp [List.getD, hlm]); omega
    have HE := Lib.hid (show lastK ns l = (ndAt ns (i : Int)).k by unfold lastK; rw [if_neg hlk, hml, hk]; unfold keyT; rw [Nat.add_sub_cancel, hi])
    obtain ⟨b, off, rfl, hb0, k0, _, _, _, _, _⟩ := Ns.look (ns := ns) (FR.out.es RX.out) i hin2
    obtain ⟨b2, off2, x2, rfl, hb2, g0, g1⟩ := Is.look (FR.out.es LX.out) k (by omega)
    have gx : x2 = (i : Int) := by
      have h1 := drop_at hlm
      rw [h1] at g1; injection g1 with h2 _; rw [← hi, ← h2]; simp [List.getD, hlm]
    subst gx
    have hw : IntKind.i64.wrap ((m : Int) - 1) = (k : Int) := by rw [IntKind.wrap_i64]; omega
    have i0 : (0 : Int) ≤ (i : Int) := by omega
    have i1 : (i : Int) < (n : Int) := by omega
    have k1 : (0 : Int) ≤ (k : Int) := by omega
    have k2 : (k : Int) < (m : Int) := by omega
    clear hk hlk hlm hi hb0 hb2 h0 hml hin2 g1
    have c00 : v1.cell? ⟨q, 0, none⟩ = some (.slice (some ⟨b, off, none⟩) n c) := FR.out.cell 0 0 rfl rfl rfl
    have c01 : v1.cell? ⟨q, 1, none⟩ = some (.int .i64 rt) := FR.out.cell 0 1 rfl rfl rfl
    have c02 : v1.cell? ⟨q, 2, none⟩ = some (.int .i64 fr) := FR.out.cell 0 2 rfl rfl rfl
    go_enter Try.func54, Try.ntmps54
    go_wp2
    go_quiet (fail)
    go_wp2
    go_ret
    rw [HE.out]
    exact ⟨rfl, bel_drewN FR.out.out _⟩
theorem tr_range {w : World} {b : Nat} {v0 v1 v2 : Value} (h0 : w.cell? ⟨b, 0, none⟩ = some v0) (h1 : w.cell? ⟨b, 1, none⟩ = some v1) (h2 : w.cell? ⟨b, 2, none⟩ = some v2) : w.rangeAt b 0 [v0, v1, v2] := by
  intro j v hj
  match j, hj with
  | 0, hj => simp at hj; subst hj; exact h0
  | 1, hj => simp at hj; subst hj; exact h1
  | 2, hj => simp at hj; subst hj; exact h2
  | j + 3, hj => simp at hj
set_option maxRecDepth 100000 in
set_option maxHeartbeats 4000000 in
theorem tpLead_any (A : Option Addr) (n c : Nat) (ns : List Nd) (rt fr : Int) (x : Nd) (i : Int) (w : World) (hx : Ns w A n c ns) (hn : n ≤ 16384) :
    Calls Try.prog 53 #[.agg #[.slice A n c, .int .i64 rt, .int .i64 fr], .agg #[.int .i64 x.k, .int .u32 x.p, .int .i64 x.l, .int .i64 x.r, .int .i64 x.h, .int .i64 x.t], .int .i64 i] w (Yes9 w (leadN ns x i)) := by
  have RX := Lib.hid hx
  have hlen := hx.len
  have BG := Lib.hid (fun (W : World) => tpBegin_any A n c rt fr i W)
  clear hx
  obtain ⟨v1, hv1⟩ : ∃ W, w.alloc (.cells #[.slice A n c, .int .i64 rt, .int .i64 fr] 54) = W := ⟨_, rfl⟩
  have fr1 : Fr w v1 w.heap.size [.cells #[.slice A n c, .int .i64 rt, .int .i64 fr] 54] := hv1 ▸ Fr.first w _
  have z1 : v1.heap.size = w.heap.size + 1 := by rw [← hv1, Fr.size1]
  obtain ⟨v2, hv2⟩ : ∃ W, v1.alloc (.cells #[.int .i64 x.k, .int .u32 x.p, .int .i64 x.l, .int .i64 x.r, .int .i64 x.h, .int .i64 x.t] 52) = W := ⟨_, rfl⟩
  have fr2 : Fr w v2 w.heap.size [.cells #[.slice A n c, .int .i64 rt, .int .i64 fr] 54, .cells #[.int .i64 x.k, .int .u32 x.p, .int .i64 x.l, .int .i64 x.r, .int .i64 x.h, .int .i64 x.t] 52] := hv2 ▸ fr1.more z1 _
  have z2 : v2.heap.size = w.heap.size + 2 := by rw [← hv2, Fr.size1, z1]
  generalize hq : w.heap.size = q at *
  have FR := Lib.hid fr2
  clear fr1 fr2
  have hqz : q + 1 < v2.heap.size := by have := FR.out.sz; simp only [List.length_cons, List.length_nil] at this; omega
  have hqy : q < v2.heap.size := by omega
  cases hbg : beginIn n i
  · rw [hbg] at BG
    have HE := Lib.hid (show leadN ns x i = false by unfold leadN; rw [hlen, hbg, Bool.false_and])
    clear hbg hlen
    go_enter Try.func53, Try.ntmps53
    have c00 : v2.cell? ⟨q, 0, none⟩ = some (.slice A n c) := FR.out.cell 0 0 rfl rfl rfl
    have c01 : v2.cell? ⟨q, 1, none⟩ = some (.int .i64 rt) := FR.out.cell 0 1 rfl rfl rfl
    have c02 : v2.cell? ⟨q, 2, none⟩ = some (.int .i64 fr) := FR.out.cell 0 2 rfl rfl rfl
    have c10 : v2.cell? ⟨q + 1, 0, none⟩ = some (.int .i64 x.k) := FR.out.cell 1 0 rfl rfl rfl
    have c11 : v2.cell? ⟨q + 1, 1, none⟩ = some (.int .u32 x.p) := FR.out.cell 1 1 rfl rfl rfl
    have c12 : v2.cell? ⟨q + 1, 2, none⟩ = some (.int .i64 x.l) := FR.out.cell 1 2 rfl rfl rfl
    have c13 : v2.cell? ⟨q + 1, 3, none⟩ = some (.int .i64 x.r) := FR.out.cell 1 3 rfl rfl rfl
    have c14 : v2.cell? ⟨q + 1, 4, none⟩ = some (.int .i64 x.h) := FR.out.cell 1 4 rfl rfl rfl
    have c15 : v2.cell? ⟨q + 1, 5, none⟩ = some (.int .i64 x.t) := FR.out.cell 1 5 rfl rfl rfl
    go_wp2
    refine wp_region_noPanic ?_
    refine wp_region_held_drew (S := (fun wv => Hid (Below v2.heap.size v2 wv))) (by kernel_rfl) (Lib.hid (Below.refl _ v2).drew) (fun hS => ?_)
    refine wpAnyH_take (i := 0) (oi := ⟨some 7, .load 54 (.tmp 3), 54, "tree.go:80", #[], none⟩) (v := .agg (([.slice A n c, .int .i64 rt, .int .i64 fr] : List Value)).toArray) rfl (by kernel_rfl) (by kernel_rfl) (by kernel_rfl) (fun _ _ _ h => h) (yieldsIf_load_mid (by rfl) _ _ (by rfl) (q) (0) (by rfl) (([.slice A n c, .int .i64 rt, .int .i64 fr] : List Value)) _ (fun wv hS => tr_range (hS.out.cell (p := ⟨q, 0, none⟩) hqy |>.trans c00) (hS.out.cell (p := ⟨q, 1, none⟩) hqy |>.trans c01) (hS.out.cell (p := ⟨q, 2, none⟩) hqy |>.trans c02)) Try.underlying54 (by rfl) (by kernel_rfl)) hS ?_
    try simp only [Act.put, List.setIfInBounds_toArray, List.set_cons_zero, List.set_cons_succ]
    refine wpAnyH_take (i := 1) (oi := ⟨some 8, .move (.tmp 2), 3, "tree.go:80", #[], none⟩) (v := ?_) rfl (by kernel_rfl) (by kernel_rfl) (by kernel_rfl) (fun _ _ _ h => h) (Or.inl ⟨by rfl, ?_⟩) hS ?_
    rotate_left
    · intro wv _; go_simp; try with_reducible rfl
    try simp only [Act.put, List.setIfInBounds_toArray, List.set_cons_zero, List.set_cons_succ]
    refine wpAnyH_ready (rs := [2]) (by kernel_rfl) (by simp) (AllReadyH.cons (o := ⟨some 9, .call { callee := .value (.func 47), args := #[.tmp 7, .tmp 8], argTypes := #[54, 3] }, 4, "tree.go:80", #[⟨0, .data⟩, ⟨1, .data⟩], none⟩) rfl (fun K hK => ?_) AllReadyH.nil)
    go_simp
    refine (BG.out _).mono ?_; rintro e wa ⟨rfl, hb⟩
    replace hS := Lib.hid (hS.out.trans (hb.mono hS.out.size))
    clear hb
    go_wp2_with fail
    refine Shut.out hK _ _ hS (fun _ => ?_)
    clear hK K
    try simp only [Act.put, List.setIfInBounds_toArray, List.set_cons_zero, List.set_cons_succ]
    refine wpAnyH_take (i := 3) (oi := ⟨some 10, .move (.tmp 9), 4, "tree.go:80", #[⟨2, .data⟩, ⟨2, .chain⟩], none⟩) (v := ?_) rfl (by kernel_rfl) (by kernel_rfl) (by kernel_rfl) (fun _ _ _ h => h) (Or.inl ⟨by rfl, ?_⟩) hS ?_
    rotate_left
    · intro wv _; go_simp; try with_reducible rfl
    try simp only [Act.put, List.setIfInBounds_toArray, List.set_cons_zero, List.set_cons_succ]
    refine wpAnyH_take (i := 4) (oi := ⟨some 11, .move (.tmp 2), 3, "tree.go:80", #[⟨3, .guard⟩], some (3, true)⟩) (v := undef) rfl (by kernel_rfl) (by kernel_rfl) (by kernel_rfl) (fun _ _ _ h => h) (Or.inr ⟨by rfl, rfl⟩) hS ?_
    try simp only [Act.put, List.setIfInBounds_toArray, List.set_cons_zero, List.set_cons_succ]
    refine wpAnyH_take (i := 5) (oi := ⟨some 12, .binOp .eql 3 (.tmp 11) (.const (Value.int IntKind.i64 (-1))) 3, 4, "tree.go:80", #[⟨4, .data⟩, ⟨3, .guard⟩], some (3, true)⟩) (v := undef) rfl (by kernel_rfl) (by kernel_rfl) (by kernel_rfl) (fun _ _ _ h => h) (Or.inr ⟨by rfl, rfl⟩) hS ?_
    try simp only [Act.put, List.setIfInBounds_toArray, List.set_cons_zero, List.set_cons_succ]
    refine wpAnyH_take (i := 6) (oi := ⟨some 13, .move (.tmp 12), 4, "tree.go:80", #[⟨5, .data⟩, ⟨3, .chain⟩, ⟨3, .guard⟩], some (3, true)⟩) (v := undef) rfl (by kernel_rfl) (by kernel_rfl) (by kernel_rfl) (fun _ _ _ h => h) (Or.inr ⟨by rfl, rfl⟩) hS ?_
    try simp only [Act.put, List.setIfInBounds_toArray, List.set_cons_zero, List.set_cons_succ]
    refine wpAnyH_take (i := 7) (oi := ⟨some 14, .load 52 (.tmp 4), 52, "tree.go:80", #[⟨6, .guard⟩], some (6, false)⟩) (v := undef) rfl (by kernel_rfl) (by kernel_rfl) (by kernel_rfl) (fun _ _ _ h => h) (Or.inr ⟨by rfl, rfl⟩) hS ?_
    try simp only [Act.put, List.setIfInBounds_toArray, List.set_cons_zero, List.set_cons_succ]
    refine wpAnyH_take (i := 8) (oi := ⟨some 15, .fieldAddr 54 (.tmp 3) 0, 0, "tree.go:80", #[⟨6, .guard⟩], some (6, false)⟩) (v := undef) rfl (by kernel_rfl) (by kernel_rfl) (by kernel_rfl) (fun _ _ _ h => h) (Or.inr ⟨by rfl, rfl⟩) hS ?_
    try simp only [Act.put, List.setIfInBounds_toArray, List.set_cons_zero, List.set_cons_succ]
    refine wpAnyH_take (i := 9) (oi := ⟨some 16, .fieldAddr 24 (.tmp 15) 0, 0, "tree.go:80", #[⟨8, .data⟩, ⟨6, .guard⟩], some (6, false)⟩) (v := undef) rfl (by kernel_rfl) (by kernel_rfl) (by kernel_rfl) (fun _ _ _ h => h) (Or.inr ⟨by rfl, rfl⟩) hS ?_
    try simp only [Act.put, List.setIfInBounds_toArray, List.set_cons_zero, List.set_cons_succ]
    refine wpAnyH_take (i := 10) (oi := ⟨some 17, .load 22 (.tmp 16), 22, "tree.go:80", #[⟨9, .data⟩, ⟨6, .guard⟩], some (6, false)⟩) (v := undef) rfl (by kernel_rfl) (by kernel_rfl) (by kernel_rfl) (fun _ _ _ h => h) (Or.inr ⟨by rfl, rfl⟩) hS ?_
    try simp only [Act.put, List.setIfInBounds_toArray, List.set_cons_zero, List.set_cons_succ]
    refine wpAnyH_take (i := 11) (oi := ⟨some 18, .move (.tmp 2), 3, "tree.go:80", #[⟨6, .guard⟩], some (6, false)⟩) (v := undef) rfl (by kernel_rfl) (by kernel_rfl) (by kernel_rfl) (fun _ _ _ h => h) (Or.inr ⟨by rfl, rfl⟩) hS ?_
    try simp only [Act.put, List.setIfInBounds_toArray, List.set_cons_zero, List.set_cons_succ]
    refine wpAnyH_take (i := 12) (oi := ⟨some 19, .indexAddr 22 (.tmp 17) (.tmp 18), 0, "tree.go:80", #[⟨10, .data⟩, ⟨11, .data⟩, ⟨6, .guard⟩], some (6, false)⟩) (v := undef) rfl (by kernel_rfl) (by kernel_rfl) (by kernel_rfl) (fun _ _ _ h => h) (Or.inr ⟨by rfl, rfl⟩) hS ?_
    try simp only [Act.put, List.setIfInBounds_toArray, List.set_cons_zero, List.set_cons_succ]
    refine wpAnyH_take (i := 13) (oi := ⟨some 20, .load 52 (.tmp 19), 52, "tree.go:80", #[⟨12, .data⟩, ⟨6, .guard⟩], some (6, false)⟩) (v := undef) rfl (by kernel_rfl) (by kernel_rfl) (by kernel_rfl) (fun _ _ _ h => h) (Or.inr ⟨by rfl, rfl⟩) hS ?_
    try simp only [Act.put, List.setIfInBounds_toArray, List.set_cons_zero, List.set_cons_succ]
    refine wpAnyH_take (i := 14) (oi := ⟨some 21, .call { callee := .value (.func 42), args := #[.tmp 14, .tmp 20], argTypes := #[52, 52] }, 4, "tree.go:80", #[⟨7, .data⟩, ⟨13, .data⟩, ⟨6, .chain⟩, ⟨6, .guard⟩], some (6, false)⟩) (v := undef) rfl (by kernel_rfl) (by kernel_rfl) (by kernel_rfl) (fun _ _ _ h => h) (Or.inr ⟨by rfl, rfl⟩) hS ?_
    try simp only [Act.put, List.setIfInBounds_toArray, List.set_cons_zero, List.set_cons_succ]
    refine wpAnyH_take (i := 15) (oi := ⟨some 22, .pick (.tmp 13) (.const (Value.bool true)) (.tmp 21), 4, "tree.go:80", #[⟨6, .data⟩, ⟨14, .data⟩, ⟨3, .guard⟩], some (3, true)⟩) (v := undef) rfl (by kernel_rfl) (by kernel_rfl) (by kernel_rfl) (fun _ _ _ h => h) (Or.inr ⟨by rfl, rfl⟩) hS ?_
    try simp only [Act.put, List.setIfInBounds_toArray, List.set_cons_zero, List.set_cons_succ]
    refine wpAnyH_take (i := 16) (oi := ⟨some 23, .pick (.tmp 10) (.tmp 22) (.const (Value.bool false)), 4, "tree.go:80", #[⟨3, .data⟩, ⟨15, .data⟩], none⟩) (v := ?_) rfl (by kernel_rfl) (by kernel_rfl) (by kernel_rfl) (fun _ _ _ h => h) (Or.inl ⟨by rfl, ?_⟩) hS ?_
    rotate_left
    · intro wv _; go_simp; try with_reducible rfl
    try simp only [Act.put, List.setIfInBounds_toArray, List.set_cons_zero, List.set_cons_succ]
    refine wpAnyH_take (i := 17) (oi := ⟨some 6, .assign (.tmp 23), 4, "tree.go:80", #[⟨16, .data⟩, ⟨14, .chain⟩, ⟨0, .phase⟩, ⟨1, .phase⟩, ⟨2, .phase⟩, ⟨3, .phase⟩, ⟨4, .phase⟩, ⟨5, .phase⟩, ⟨6, .phase⟩, ⟨7, .phase⟩, ⟨8, .phase⟩, ⟨9, .phase⟩, ⟨10, .phase⟩, ⟨11, .phase⟩, ⟨12, .phase⟩, ⟨13, .phase⟩, ⟨14, .phase⟩, ⟨15, .phase⟩, ⟨16, .phase⟩], none⟩) (v := ?_) rfl (by kernel_rfl) (by kernel_rfl) (by kernel_rfl) (fun _ _ _ h => h) (Or.inl ⟨by rfl, ?_⟩) hS ?_
    rotate_left
    · intro wv _; go_simp; try with_reducible rfl
    try simp only [Act.put, List.setIfInBounds_toArray, List.set_cons_zero, List.set_cons_succ]
    refine wpAnyH_done (by kernel_rfl) ?_ _
    refine NoPanic.normal ?_
    go_wp2
    go_ret
    rw [HE.out]
    exact ⟨rfl, FR.out.out.trans (hS.out.mono FR.out.out.size)⟩
  · rw [hbg] at BG
    have hb := beginIn_iff.1 hbg
    by_cases h0 : i = -1
    · have b0 : (i == -1) = true := by simpa using h0
      have HE := Lib.hid (show leadN ns x i = true from leadN_iff.2 (Or.inl h0))
      clear hbg hlen hb h0
      go_enter Try.func53, Try.ntmps53
      have c00 : v2.cell? ⟨q, 0, none⟩ = some (.slice A n c) := FR.out.cell 0 0 rfl rfl rfl
      have c01 : v2.cell? ⟨q, 1, none⟩ = some (.int .i64 rt) := FR.out.cell 0 1 rfl rfl rfl
      have c02 : v2.cell? ⟨q, 2, none⟩ = some (.int .i64 fr) := FR.out.cell 0 2 rfl rfl rfl
      have c10 : v2.cell? ⟨q + 1, 0, none⟩ = some (.int .i64 x.k) := FR.out.cell 1 0 rfl rfl rfl
      have c11 : v2.cell? ⟨q + 1, 1, none⟩ = some (.int .u32 x.p) := FR.out.cell 1 1 rfl rfl rfl
      have c12 : v2.cell? ⟨q + 1, 2, none⟩ = some (.int .i64 x.l) := FR.out.cell 1 2 rfl rfl rfl
      have c13 : v2.cell? ⟨q + 1, 3, none⟩ = some (.int .i64 x.r) := FR.out.cell 1 3 rfl rfl rfl
      have c14 : v2.cell? ⟨q + 1, 4, none⟩ = some (.int .i64 x.h) := FR.out.cell 1 4 rfl rfl rfl
      have c15 : v2.cell? ⟨q + 1, 5, none⟩ = some (.int .i64 x.t) := FR.out.cell 1 5 rfl rfl rfl
      go_wp2
      refine wp_region_noPanic ?_
      refine wp_region_held_drew (S := (fun wv => Hid (Below v2.heap.size v2 wv))) (by kernel_rfl) (Lib.hid (Below.refl _ v2).drew) (fun hS => ?_)
      refine wpAnyH_take (i := 0) (oi := ⟨some 7, .load 54 (.tmp 3), 54, "tree.go:80", #[], none⟩) (v := .agg (([.slice A n c, .int .i64 rt, .int .i64 fr] : List Value)).toArray) rfl (by kernel_rfl) (by kernel_rfl) (by kernel_rfl) (fun _ _ _ h => h) (yieldsIf_load_mid (by rfl) _ _ (by rfl) (q) (0) (by rfl) (([.slice A n c, .int .i64 rt, .int .i64 fr] : List Value)) _ (fun wv hS => tr_range (hS.out.cell (p := ⟨q, 0, none⟩) hqy |>.trans c00) (hS.out.cell (p := ⟨q, 1, none⟩) hqy |>.trans c01) (hS.out.cell (p := ⟨q, 2, none⟩) hqy |>.trans c02)) Try.underlying54 (by rfl) (by kernel_rfl)) hS ?_
      try simp only [Act.put, List.setIfInBounds_toArray, List.set_cons_zero, List.set_cons_succ]
      refine wpAnyH_take (i := 1) (oi := ⟨some 8, .move (.tmp 2), 3, "tree.go:80", #[], none⟩) (v := ?_) rfl (by kernel_rfl) (by kernel_rfl) (by kernel_rfl) (fun _ _ _ h => h) (Or.inl ⟨by rfl, ?_⟩) hS ?_
      rotate_left
      · intro wv _; go_simp; try with_reducible rfl
      try simp only [Act.put, List.setIfInBounds_toArray, List.set_cons_zero, List.set_cons_succ]
      refine wpAnyH_ready (rs := [2]) (by kernel_rfl) (by simp) (AllReadyH.cons (o := ⟨some 9, .call { callee := .value (.func 47), args := #[.tmp 7, .tmp 8], argTypes := #[54, 3] }, 4, "tree.go:80", #[⟨0, .data⟩, ⟨1, .data⟩], none⟩) rfl (fun K hK => ?_) AllReadyH.nil)
      go_simp
      refine (BG.out _).mono ?_; rintro e wa ⟨rfl, hb⟩
      replace hS := Lib.hid (hS.out.trans (hb.mono hS.out.size))
      clear hb
      go_wp2_with fail
      refine Shut.out hK _ _ hS (fun _ => ?_)
      clear hK K
      try simp only [Act.put, List.setIfInBounds_toArray, List.set_cons_zero, List.set_cons_succ]
      refine wpAnyH_take (i := 3) (oi := ⟨some 10, .move (.tmp 9), 4, "tree.go:80", #[⟨2, .data⟩, ⟨2, .chain⟩], none⟩) (v := ?_) rfl (by kernel_rfl) (by kernel_rfl) (by kernel_rfl) (fun _ _ _ h => h) (Or.inl ⟨by rfl, ?_⟩) hS ?_
      rotate_left
      · intro wv _; go_simp; try with_reducible rfl
      try simp only [Act.put, List.setIfInBounds_toArray, List.set_cons_zero, List.set_cons_succ]
      refine wpAnyH_take (i := 4) (oi := ⟨some 11, .move (.tmp 2), 3, "tree.go:80", #[⟨3, .guard⟩], some (3, true)⟩) (v := ?_) rfl (by kernel_rfl) (by kernel_rfl) (by kernel_rfl) (fun _ _ _ h => h) (Or.inl ⟨by rfl, ?_⟩) hS ?_
      rotate_left
      · intro wv _; go_simp; try with_reducible rfl
      try simp only [Act.put, List.setIfInBounds_toArray, List.set_cons_zero, List.set_cons_succ]
      refine wpAnyH_take (i := 5) (oi := ⟨some 12, .binOp .eql 3 (.tmp 11) (.const (Value.int IntKind.i64 (-1))) 3, 4, "tree.go:80", #[⟨4, .data⟩, ⟨3, .guard⟩], some (3, true)⟩) (v := ?_) rfl (by kernel_rfl) (by kernel_rfl) (by kernel_rfl) (fun _ _ _ h => h) (Or.inl ⟨by rfl, ?_⟩) hS ?_
      rotate_left
      · intro wv _; go_simp; try with_reducible rfl
      try simp only [Act.put, List.setIfInBounds_toArray, List.set_cons_zero, List.set_cons_succ]
      refine wpAnyH_take (i := 6) (oi := ⟨some 13, .move (.tmp 12), 4, "tree.go:80", #[⟨5, .data⟩, ⟨3, .chain⟩, ⟨3, .guard⟩], some (3, true)⟩) (v := ?_) rfl (by kernel_rfl) (by kernel_rfl) (by kernel_rfl) (fun _ _ _ h => h) (Or.inl ⟨by rfl, ?_⟩) hS ?_
      rotate_left
      · intro wv _; go_simp; try with_reducible rfl
      try simp only [Act.put, List.setIfInBounds_toArray, List.set_cons_zero, List.set_cons_succ]
      refine wpAnyH_take (i := 7) (oi := ⟨some 14, .load 52 (.tmp 4), 52, "tree.go:80", #[⟨6, .guard⟩], some (6, false)⟩) (v := undef) rfl (by kernel_rfl) (by kernel_rfl) (by kernel_rfl) (fun _ _ _ h => h) (Or.inr ⟨by rfl, rfl⟩) hS ?_
      try simp only [Act.put, List.setIfInBounds_toArray, List.set_cons_zero, List.set_cons_succ]
      refine wpAnyH_take (i := 8) (oi := ⟨some 15, .fieldAddr 54 (.tmp 3) 0, 0, "tree.go:80", #[⟨6, .guard⟩], some (6, false)⟩) (v := undef) rfl (by kernel_rfl) (by kernel_rfl) (by kernel_rfl) (fun _ _ _ h => h) (Or.inr ⟨by rfl, rfl⟩) hS ?_
      try simp only [Act.put, List.setIfInBounds_toArray, List.set_cons_zero, List.set_cons_succ]
      refine wpAnyH_take (i := 9) (oi := ⟨some 16, .fieldAddr 24 (.tmp 15) 0, 0, "tree.go:80", #[⟨8, .data⟩, ⟨6, .guard⟩], some (6, false)⟩) (v := undef) rfl (by kernel_rfl) (by kernel_rfl) (by kernel_rfl) (fun _ _ _ h => h) (Or.inr ⟨by rfl, rfl⟩) hS ?_
      try simp only [Act.put, List.setIfInBounds_toArray, List.set_cons_zero, List.set_cons_succ]
      refine wpAnyH_take (i := 10) (oi := ⟨some 17, .load 22 (.tmp 16), 22, "tree.go:80", #[⟨9, .data⟩, ⟨6, .guard⟩], some (6, false)⟩) (v := undef) rfl (by kernel_rfl) (by kernel_rfl) (by kernel_rfl) (fun _ _ _ h => h) (Or.inr ⟨by rfl, rfl⟩) hS ?_
      try simp only [Act.put, List.setIfInBounds_toArray, List.set_cons_zero, List.set_cons_succ]
      refine wpAnyH_take (i := 11) (oi := ⟨some 18, .move (.tmp 2), 3, "tree.go:80", #[⟨6, .guard⟩], some (6, false)⟩) (v := undef) rfl (by kernel_rfl) (by kernel_rfl) (by kernel_rfl) (fun _ _ _ h => h) (Or.inr ⟨by rfl, rfl⟩) hS ?_
      try simp only [Act.put, List.setIfInBounds_toArray, List.set_cons_zero, List.set_cons_succ]
      refine wpAnyH_take (i := 12) (oi := ⟨some 19, .indexAddr 22 (.tmp 17) (.tmp 18), 0, "tree.go:80", #[⟨10, .data⟩, ⟨11, .data⟩, ⟨6, .guard⟩], some (6, false)⟩) (v := undef) rfl (by kernel_rfl) (by kernel_rfl) (by kernel_rfl) (fun _ _ _ h => h) (Or.inr ⟨by rfl, rfl⟩) hS ?_
      try simp only [Act.put, List.setIfInBounds_toArray, List.set_cons_zero, List.set_cons_succ]
      refine wpAnyH_take (i := 13) (oi := ⟨some 20, .load 52 (.tmp 19), 52, "tree.go:80", #[⟨12, .data⟩, ⟨6, .guard⟩], some (6, false)⟩) (v := undef) rfl (by kernel_rfl) (by kernel_rfl) (by kernel_rfl) (fun _ _ _ h => h) (Or.inr ⟨by rfl, rfl⟩) hS ?_
      try simp only [Act.put, List.setIfInBounds_toArray, List.set_cons_zero, List.set_cons_succ]
      refine wpAnyH_take (i := 14) (oi := ⟨some 21, .call { callee := .value (.func 42), args := #[.tmp 14, .tmp 20], argTypes := #[52, 52] }, 4, "tree.go:80", #[⟨7, .data⟩, ⟨13, .data⟩, ⟨6, .chain⟩, ⟨6, .guard⟩], some (6, false)⟩) (v := undef) rfl (by kernel_rfl) (by kernel_rfl) (by kernel_rfl) (fun _ _ _ h => h) (Or.inr ⟨by rfl, rfl⟩) hS ?_
      try simp only [Act.put, List.setIfInBounds_toArray, List.set_cons_zero, List.set_cons_succ]
      refine wpAnyH_take (i := 15) (oi := ⟨some 22, .pick (.tmp 13) (.const (Value.bool true)) (.tmp 21), 4, "tree.go:80", #[⟨6, .data⟩, ⟨14, .data⟩, ⟨3, .guard⟩], some (3, true)⟩) (v := ?_) rfl (by kernel_rfl) (by kernel_rfl) (by kernel_rfl) (fun _ _ _ h => h) (Or.inl ⟨by rfl, ?_⟩) hS ?_
      rotate_left
      · intro wv _; go_simp; try with_reducible rfl
      try simp only [Act.put, List.setIfInBounds_toArray, List.set_cons_zero, List.set_cons_succ]
      refine wpAnyH_take (i := 16) (oi := ⟨some 23, .pick (.tmp 10) (.tmp 22) (.const (Value.bool false)), 4, "tree.go:80", #[⟨3, .data⟩, ⟨15, .data⟩], none⟩) (v := ?_) rfl (by kernel_rfl) (by kernel_rfl) (by kernel_rfl) (fun _ _ _ h => h) (Or.inl ⟨by rfl, ?_⟩) hS ?_
      rotate_left
      · intro wv _; go_simp; try with_reducible rfl
      try simp only [Act.put, List.setIfInBounds_toArray, List.set_cons_zero, List.set_cons_succ]
      refine wpAnyH_take (i := 17) (oi := ⟨some 6, .assign (.tmp 23), 4, "tree.go:80", #[⟨16, .data⟩, ⟨14, .chain⟩, ⟨0, .phase⟩, ⟨1, .phase⟩, ⟨2, .phase⟩, ⟨3, .phase⟩, ⟨4, .phase⟩, ⟨5, .phase⟩, ⟨6, .phase⟩, ⟨7, .phase⟩, ⟨8, .phase⟩, ⟨9, .phase⟩, ⟨10, .phase⟩, ⟨11, .phase⟩, ⟨12, .phase⟩, ⟨13, .phase⟩, ⟨14, .phase⟩, ⟨15, .phase⟩, ⟨16, .phase⟩], none⟩) (v := ?_) rfl (by kernel_rfl) (by kernel_rfl) (by kernel_rfl) (fun _ _ _ h => h) (Or.inl ⟨by rfl, ?_⟩) hS ?_
      rotate_left
      · intro wv _; go_simp; try with_reducible rfl
      try simp only [Act.put, List.setIfInBounds_toArray, List.set_cons_zero, List.set_cons_succ]
      refine wpAnyH_done (by kernel_rfl) ?_ _
      refine NoPanic.normal ?_
      go_wp2
      go_ret
      rw [HE.out]
      exact ⟨rfl, FR.out.out.trans (hS.out.mono FR.out.out.size)⟩
    · have b0 : (i == -1) = false := by simpa using h0
      obtain ⟨k, rfl⟩ : ∃ k : Nat, i = k := ⟨i.toNat, by omega⟩
      have i0 : (0 : Int) ≤ (k : Int) := by omega
      have i1 : (k : Int) < (n : Int) := by omega
      have HE := Lib.hid (show leadN ns x (k : Int) = aboveN x (ndAt ns (k : Int)) by unfold leadN; rw [hlen, hbg, Bool.true_and, decide_eq_false h0, Bool.false_or])
      obtain ⟨b, off, rfl, hbq, k0, k1, k2, k3, k4, k5⟩ := Ns.look (ns := ns) (FR.out.es RX.out) k (by omega)
      have hb0 : b < v2.heap.size := hbq
      have AB := Lib.hid (fun (W : World) => tpAbove_any x (ndAt ns (k : Int)) W)
      clear hbg hlen hb h0 hbq
      generalize aboveN x (ndAt ns (k : Int)) = ab at *
      generalize ndAt ns (k : Int) = r at *
      have c00 : v2.cell? ⟨q, 0, none⟩ = some (.slice (some ⟨b, off, none⟩) n c) := FR.out.cell 0 0 rfl rfl rfl
      have c01 : v2.cell? ⟨q, 1, none⟩ = some (.int .i64 rt) := FR.out.cell 0 1 rfl rfl rfl
      have c02 : v2.cell? ⟨q, 2, none⟩ = some (.int .i64 fr) := FR.out.cell 0 2 rfl rfl rfl
      have c10 : v2.cell? ⟨q + 1, 0, none⟩ = some (.int .i64 x.k) := FR.out.cell 1 0 rfl rfl rfl
      have c11 : v2.cell? ⟨q + 1, 1, none⟩ = some (.int .u32 x.p) := FR.out.cell 1 1 rfl rfl rfl
      have c12 : v2.cell? ⟨q + 1, 2, none⟩ = some (.int .i64 x.l) := FR.out.cell 1 2 rfl rfl rfl
      have c13 : v2.cell? ⟨q + 1, 3, none⟩ = some (.int .i64 x.r) := FR.out.cell 1 3 rfl rfl rfl
      have c14 : v2.cell? ⟨q + 1, 4, none⟩ = some (.int .i64 x.h) := FR.out.cell 1 4 rfl rfl rfl
      have c15 : v2.cell? ⟨q + 1, 5, none⟩ = some (.int .i64 x.t) := FR.out.cell 1 5 rfl rfl rfl
      go_enter Try.func53, Try.ntmps53
      go_wp2
      refine wp_region_noPanic ?_
      refine wp_region_held_drew (S := (fun wv => Hid (Below v2.heap.size v2 wv))) (by kernel_rfl) (Lib.hid (Below.refl _ v2).drew) (fun hS => ?_)
      refine wpAnyH_take (i := 0) (oi := ⟨some 7, .load 54 (.tmp 3), 54, "tree.go:80", #[], none⟩) (v := .agg (([.slice (some ⟨b, off, none⟩) n c, .int .i64 rt, .int .i64 fr] : List Value)).toArray) rfl (by kernel_rfl) (by kernel_rfl) (by kernel_rfl) (fun _ _ _ h => h) (yieldsIf_load_mid (by rfl) _ _ (by rfl) (q) (0) (by rfl) (([.slice (some ⟨b, off, none⟩) n c, .int .i64 rt, .int .i64 fr] : List Value)) _ (fun wv hS => tr_range (hS.out.cell (p := ⟨q, 0, none⟩) hqy |>.trans c00) (hS.out.cell (p := ⟨q, 1, none⟩) hqy |>.trans c01) (hS.out.cell (p := ⟨q, 2, none⟩) hqy |>.trans c02)) Try.underlying54 (by rfl) (by kernel_rfl)) hS ?_
      try simp only [Act.put, List.setIfInBounds_toArray, List.set_cons_zero, List.set_cons_succ]
      refine wpAnyH_take (i := 1) (oi := ⟨some 8, .move (.tmp 2), 3, "tree.go:80", #[], none⟩) (v := ?_) rfl (by kernel_rfl) (by kernel_rfl) (by kernel_rfl) (fun _ _ _ h => h) (Or.inl ⟨by rfl, ?_⟩) hS ?_
      rotate_left
      · intro wv _; go_simp; try with_reducible rfl
      try simp only [Act.put, List.setIfInBounds_toArray, List.set_cons_zero, List.set_cons_succ]
      refine wpAnyH_ready (rs := [2]) (by kernel_rfl) (by simp) (AllReadyH.cons (o := ⟨some 9, .call { callee := .value (.func 47), args := #[.tmp 7, .tmp 8], argTypes := #[54, 3] }, 4, "tree.go:80", #[⟨0, .data⟩, ⟨1, .data⟩], none⟩) rfl (fun K hK => ?_) AllReadyH.nil)
      go_simp
      refine (BG.out _).mono ?_; rintro e wa ⟨rfl, hb⟩
      replace hS := Lib.hid (hS.out.trans (hb.mono hS.out.size))
      clear hb
      go_wp2_with fail
      refine Shut.out hK _ _ hS (fun _ => ?_)
      clear hK K
      try simp only [Act.put, List.setIfInBounds_toArray, List.set_cons_zero, List.set_cons_succ]
      refine wpAnyH_take (i := 3) (oi := ⟨some 10, .move (.tmp 9), 4, "tree.go:80", #[⟨2, .data⟩, ⟨2, .chain⟩], none⟩) (v := ?_) rfl (by kernel_rfl) (by kernel_rfl) (by kernel_rfl) (fun _ _ _ h => h) (Or.inl ⟨by rfl, ?_⟩) hS ?_
      rotate_left
      · intro wv _; go_simp; try with_reducible rfl
      try simp only [Act.put, List.setIfInBounds_toArray, List.set_cons_zero, List.set_cons_succ]
      refine wpAnyH_take (i := 4) (oi := ⟨some 11, .move (.tmp 2), 3, "tree.go:80", #[⟨3, .guard⟩], some (3, true)⟩) (v := ?_) rfl (by kernel_rfl) (by kernel_rfl) (by kernel_rfl) (fun _ _ _ h => h) (Or.inl ⟨by rfl, ?_⟩) hS ?_
      rotate_left
      · intro wv _; go_simp; try with_reducible rfl
      try simp only [Act.put, List.setIfInBounds_toArray, List.set_cons_zero, List.set_cons_succ]
      refine wpAnyH_take (i := 5) (oi := ⟨some 12, .binOp .eql 3 (.tmp 11) (.const (Value.int IntKind.i64 (-1))) 3, 4, "tree.go:80", #[⟨4, .data⟩, ⟨3, .guard⟩], some (3, true)⟩) (v := ?_) rfl (by kernel_rfl) (by kernel_rfl) (by kernel_rfl) (fun _ _ _ h => h) (Or.inl ⟨by rfl, ?_⟩) hS ?_
      rotate_left
      · intro wv _; go_simp; try with_reducible rfl
      try simp only [Act.put, List.setIfInBounds_toArray, List.set_cons_zero, List.set_cons_succ]
      refine wpAnyH_take (i := 6) (oi := ⟨some 13, .move (.tmp 12), 4, "tree.go:80", #[⟨5, .data⟩, ⟨3, .chain⟩, ⟨3, .guard⟩], some (3, true)⟩) (v := ?_) rfl (by kernel_rfl) (by kernel_rfl) (by kernel_rfl) (fun _ _ _ h => h) (Or.inl ⟨by rfl, ?_⟩) hS ?_
      rotate_left
      · intro wv _; go_simp; try with_reducible rfl
      try simp only [Act.put, List.setIfInBounds_toArray, List.set_cons_zero, List.set_cons_succ]
      refine wpAnyH_take (i := 7) (oi := ⟨some 14, .load 52 (.tmp 4), 52, "tree.go:80", #[⟨6, .guard⟩], some (6, false)⟩) (v := .agg (([.int .i64 x.k, .int .u32 x.p, .int .i64 x.l, .int .i64 x.r, .int .i64 x.h, .int .i64 x.t] : List Value)).toArray) rfl (by kernel_rfl) (by kernel_rfl) (by kernel_rfl) (fun _ _ _ h => h) (yieldsIf_load_mid (by rfl) _ _ (by rfl) (q + 1) (0) (by rfl) (([.int .i64 x.k, .int .u32 x.p, .int .i64 x.l, .int .i64 x.r, .int .i64 x.h, .int .i64 x.t] : List Value)) _ (fun wv hS => nd_range (hS.out.cell (p := ⟨q + 1, 0, none⟩) hqz |>.trans c10) (hS.out.cell (p := ⟨q + 1, 1, none⟩) hqz |>.trans c11) (hS.out.cell (p := ⟨q + 1, 2, none⟩) hqz |>.trans c12) (hS.out.cell (p := ⟨q + 1, 3, none⟩) hqz |>.trans c13) (hS.out.cell (p := ⟨q + 1, 4, none⟩) hqz |>.trans c14) (hS.out.cell (p := ⟨q + 1, 5, none⟩) hqz |>.trans c15)) Try.underlying52 (by rfl) (by kernel_rfl)) hS ?_
      try simp only [Act.put, List.setIfInBounds_toArray, List.set_cons_zero, List.set_cons_succ]
      refine wpAnyH_take (i := 8) (oi := ⟨some 15, .fieldAddr 54 (.tmp 3) 0, 0, "tree.go:80", #[⟨6, .guard⟩], some (6, false)⟩) (v := ?_) rfl (by kernel_rfl) (by kernel_rfl) (by kernel_rfl) (fun _ _ _ h => h) (Or.inl ⟨by rfl, ?_⟩) hS ?_
      rotate_left
      · intro wv _; go_simp; try with_reducible rfl
      try simp only [Act.put, List.setIfInBounds_toArray, List.set_cons_zero, List.set_cons_succ]
      refine wpAnyH_take (i := 9) (oi := ⟨some 16, .fieldAddr 24 (.tmp 15) 0, 0, "tree.go:80", #[⟨8, .data⟩, ⟨6, .guard⟩], some (6, false)⟩) (v := ?_) rfl (by kernel_rfl) (by kernel_rfl) (by kernel_rfl) (fun _ _ _ h => h) (Or.inl ⟨by rfl, ?_⟩) hS ?_
      rotate_left
      · intro wv _; go_simp; try with_reducible rfl
      try simp only [Act.put, List.setIfInBounds_toArray, List.set_cons_zero, List.set_cons_succ]
      refine wpAnyH_take (i := 10) (oi := ⟨some 17, .load 22 (.tmp 16), 22, "tree.go:80", #[⟨9, .data⟩, ⟨6, .guard⟩], some (6, false)⟩) (v := ?_) rfl (by kernel_rfl) (by kernel_rfl) (by kernel_rfl) (fun _ _ _ h => h) (Or.inl ⟨by rfl, ?_⟩) hS ?_
      rotate_left
      · intro wv hS; have hrun := (hS.out.cell (p := ⟨q, 0, none⟩) hqy).trans c00; go_simp; try with_reducible rfl
      try simp only [Act.put, List.setIfInBounds_toArray, List.set_cons_zero, List.set_cons_succ]
      refine wpAnyH_take (i := 11) (oi := ⟨some 18, .move (.tmp 2), 3, "tree.go:80", #[⟨6, .guard⟩], some (6, false)⟩) (v := ?_) rfl (by kernel_rfl) (by kernel_rfl) (by kernel_rfl) (fun _ _ _ h => h) (Or.inl ⟨by rfl, ?_⟩) hS ?_
      rotate_left
      · intro wv _; go_simp; try with_reducible rfl
      try simp only [Act.put, List.setIfInBounds_toArray, List.set_cons_zero, List.set_cons_succ]
      refine wpAnyH_take (i := 12) (oi := ⟨some 19, .indexAddr 22 (.tmp 17) (.tmp 18), 0, "tree.go:80", #[⟨10, .data⟩, ⟨11, .data⟩, ⟨6, .guard⟩], some (6, false)⟩) (v := ?_) rfl (by kernel_rfl) (by kernel_rfl) (by kernel_rfl) (fun _ _ _ h => h) (Or.inl ⟨by rfl, ?_⟩) hS ?_
      rotate_left
      · intro wv _; go_simp; try with_reducible rfl
      try simp only [Act.put, List.setIfInBounds_toArray, List.set_cons_zero, List.set_cons_succ]
      refine wpAnyH_take (i := 13) (oi := ⟨some 20, .load 52 (.tmp 19), 52, "tree.go:80", #[⟨12, .data⟩, ⟨6, .guard⟩], some (6, false)⟩) (v := .agg (([.int .i64 r.k, .int .u32 r.p, .int .i64 r.l, .int .i64 r.r, .int .i64 r.h, .int .i64 r.t] : List Value)).toArray) rfl (by kernel_rfl) (by kernel_rfl) (by kernel_rfl) (fun _ _ _ h => h) (yieldsIf_load_mid (by rfl) _ _ (by rfl) (b) (off + k * 6) (by rfl) (([.int .i64 r.k, .int .u32 r.p, .int .i64 r.l, .int .i64 r.r, .int .i64 r.h, .int .i64 r.t] : List Value)) _ (fun wv hS => nd_range (hS.out.cell (p := ⟨b, off + k * 6, none⟩) hb0 |>.trans k0) (hS.out.cell (p := ⟨b, off + k * 6 + 1, none⟩) hb0 |>.trans k1) (hS.out.cell (p := ⟨b, off + k * 6 + 2, none⟩) hb0 |>.trans k2) (hS.out.cell (p := ⟨b, off + k * 6 + 3, none⟩) hb0 |>.trans k3) (hS.out.cell (p := ⟨b, off + k * 6 + 4, none⟩) hb0 |>.trans k4) (hS.out.cell (p := ⟨b, off + k * 6 + 5, none⟩) hb0 |>.trans k5)) Try.underlying52 (by rfl) (by kernel_rfl)) hS ?_
      try simp only [Act.put, List.setIfInBounds_toArray, List.set_cons_zero, List.set_cons_succ]
      refine wpAnyH_ready (rs := [14]) (by kernel_rfl) (by simp) (AllReadyH.cons (o := ⟨some 21, .call { callee := .value (.func 42), args := #[.tmp 14, .tmp 20], argTypes := #[52, 52] }, 4, "tree.go:80", #[⟨7, .data⟩, ⟨13, .data⟩, ⟨6, .chain⟩, ⟨6, .guard⟩], some (6, false)⟩) rfl (fun K hK => ?_) AllReadyH.nil)
      go_simp
      refine (AB.out _).mono ?_; rintro e wb ⟨rfl, hb⟩
      replace hS := Lib.hid (hS.out.trans (hb.mono hS.out.size))
      clear hb
      go_wp2_with fail
      refine Shut.out hK _ _ hS (fun _ => ?_)
      clear hK K
      try simp only [Act.put, List.setIfInBounds_toArray, List.set_cons_zero, List.set_cons_succ]
      refine wpAnyH_take (i := 15) (oi := ⟨some 22, .pick (.tmp 13) (.const (Value.bool true)) (.tmp 21), 4, "tree.go:80", #[⟨6, .data⟩, ⟨14, .data⟩, ⟨3, .guard⟩], some (3, true)⟩) (v := ?_) rfl (by kernel_rfl) (by kernel_rfl) (by kernel_rfl) (fun _ _ _ h => h) (Or.inl ⟨by rfl, ?_⟩) hS ?_
      rotate_left
      · intro wv _; go_simp; try with_reducible rfl
      try simp only [Act.put, List.setIfInBounds_toArray, List.set_cons_zero, List.set_cons_succ]
      refine wpAnyH_take (i := 16) (oi := ⟨some 23, .pick (.tmp 10) (.tmp 22) (.const (Value.bool false)), 4, "tree.go:80", #[⟨3, .data⟩, ⟨15, .data⟩], none⟩) (v := ?_) rfl (by kernel_rfl) (by kernel_rfl) (by kernel_rfl) (fun _ _ _ h => h) (Or.inl ⟨by rfl, ?_⟩) hS ?_
      rotate_left
      · intro wv _; go_simp; try with_reducible rfl
      try simp only [Act.put, List.setIfInBounds_toArray, List.set_cons_zero, List.set_cons_succ]
      refine wpAnyH_take (i := 17) (oi := ⟨some 6, .assign (.tmp 23), 4, "tree.go:80", #[⟨16, .data⟩, ⟨14, .chain⟩, ⟨0, .phase⟩, ⟨1, .phase⟩, ⟨2, .phase⟩, ⟨3, .phase⟩, ⟨4, .phase⟩, ⟨5, .phase⟩, ⟨6, .phase⟩, ⟨7, .phase⟩, ⟨8, .phase⟩, ⟨9, .phase⟩, ⟨10, .phase⟩, ⟨11, .phase⟩, ⟨12, .phase⟩, ⟨13, .phase⟩, ⟨14, .phase⟩, ⟨15, .phase⟩, ⟨16, .phase⟩], none⟩) (v := ?_) rfl (by kernel_rfl) (by kernel_rfl) (by kernel_rfl) (fun _ _ _ h => h) (Or.inl ⟨by rfl, ?_⟩) hS ?_
      rotate_left
      · intro wv _; go_simp; try with_reducible rfl
      try simp only [Act.put, List.setIfInBounds_toArray, List.set_cons_zero, List.set_cons_succ]
      refine wpAnyH_done (by kernel_rfl) ?_ _
      refine NoPanic.normal ?_
      go_wp2
      go_ret
      rw [HE.out]
      exact ⟨rfl, FR.out.out.trans (hS.out.mono FR.out.out.size)⟩
end Go.Proofs.Ytfgfohomgomidaa
