/- What the document's own far, Out, Told and Right of layer 11 answer; for lists of up to 16384 who wait. -/
import Derived.Test.YtjpgmkbcjedhfaaNotA
import Derived.Test.YtjpgmkbcjedhfaaFr
namespace Go.Proofs.Ytjpgmkbcjedhfaa
set_option linter.unusedVariables false
set_option linter.unusedSimpArgs false
open Go.RowKit
/-- a yes or a no. -/
def YesN (w : World) (b : Bool) (e : Ending) (w' : World) : Prop := e = .returned (.bool b) ∧ Below w.heap.size w w'
set_option maxRecDepth 100000 in
set_option maxHeartbeats 4000000 in
theorem refFar_any (f t : Int) (w : World) (f0 : 0 ≤ f) (f1 : f < 4294967296) (t0 : 0 ≤ t) (t1 : t < 4294967296) :
    Calls Try.prog 27 #[.int .u32 f, .int .u32 t] w (fun e w' => e = .returned (.int .u64 (far f t)) ∧ w' = w) := by
  obtain ⟨s1, hs1⟩ : ∃ s, t + 4294967296 = s := ⟨_, rfl⟩
  obtain ⟨s2, hs2⟩ : ∃ s, s1 - f = s := ⟨_, rfl⟩
  obtain ⟨r, hr⟩ : ∃ r, far f t = r := ⟨_, rfl⟩
  rw [hr]
  have hr3 : s2 % 4294967296 = r := by rw [← hr, ← hs2, ← hs1]; rfl
  have r0 : 0 ≤ r := by rw [← hr]; exact far_ge _ _
  have r1 : r < 4294967296 := by rw [← hr]; exact far_lt _ _
  have hwt : IntKind.u64.wrap t = t := by rw [IntKind.wrap_u64]; omega
  have hwf : IntKind.u64.wrap f = f := by rw [IntKind.wrap_u64]; omega
  have hw1 : IntKind.u64.wrap (t + 4294967296) = s1 := by rw [IntKind.wrap_u64]; omega
  have hw2 : IntKind.u64.wrap (s1 - f) = s2 := by rw [IntKind.wrap_u64]; omega
  have hr2 : s2.tmod 4294967296 = r := by rw [Int.tmod_eq_emod_of_nonneg (by omega)]; exact hr3
  have hw3 : IntKind.u64.wrap r = r := by rw [IntKind.wrap_u64]; omega
  clear hr hs1 hs2 r0 r1 f0 f1 t0 t1
  go_enter Try.func27, Try.ntmps27
  go_wp2
  go_ret
  exact ⟨rfl, rfl⟩
set_option maxRecDepth 100000 in
set_option maxHeartbeats 4000000 in
theorem refTold_any (A : Option Addr) (n c : Nat) (ws : List Wt) (wa to k : Int) (w : World) (hx : Wts w A n c ws) (hn : n ≤ 16384) (hb : NB (wa, to, ws)) (k0 : 0 ≤ k) (k1 : k < 4294967296) :
    Calls Try.prog 17 #[.agg #[.int .u32 wa, .int .u32 to, .slice A n c], .int .u32 k] w (YesN w (toldN (wa, to, ws) k)) := by
  have FA := Lib.hid (fun (W : World) => refFar_any to k W hb.t0 hb.t1 k0 k1)
  obtain ⟨r, hr⟩ : ∃ r, far to k = r := ⟨_, rfl⟩
  rw [hr] at FA
  obtain ⟨R, hR⟩ : ∃ R, toldN (wa, to, ws) k = R := ⟨_, rfl⟩
  have hR2 : decide (2147483648 ≤ r) = R := by rw [← hR, ← hr]; rfl
  rw [hR]
  clear hx hb k0 k1 hr hR
  obtain ⟨v1, hv1⟩ : ∃ W, w.alloc (.cells #[.int .u32 wa, .int .u32 to, .slice A n c] 25) = W := ⟨_, rfl⟩
  have fr1 : Fr w v1 w.heap.size [.cells #[.int .u32 wa, .int .u32 to, .slice A n c] 25] := hv1 ▸ Fr.first w _
  have z1 : v1.heap.size = w.heap.size + 1 := by rw [← hv1, Fr.size1]
  generalize hq : w.heap.size = q at *
  have FR := Lib.hid fr1
  clear fr1
  go_enter Try.func17, Try.ntmps17
  have c00 : v1.cell? ⟨q, 0, none⟩ = some (.int .u32 wa) := FR.out.cell 0 0 rfl rfl rfl
  have c01 : v1.cell? ⟨q, 1, none⟩ = some (.int .u32 to) := FR.out.cell 0 1 rfl rfl rfl
  have c02 : v1.cell? ⟨q, 2, none⟩ = some (.slice A n c) := FR.out.cell 0 2 rfl rfl rfl
  go_wp2_with fail
  refine (FA.out _).mono ?_
  rintro e w2 ⟨rfl, rfl⟩
  clear c00 c01 c02
  go_wp2
  go_ret
  exact ⟨rfl, FR.out.out⟩
set_option maxRecDepth 100000 in
set_option maxHeartbeats 4000000 in
theorem refOut_any (A : Option Addr) (n c : Nat) (ws : List Wt) (wa to k : Int) (w : World) (hx : Wts w A n c ws) (hn : n ≤ 16384) (hb : NB (wa, to, ws)) (k0 : 0 ≤ k) (k1 : k < 4294967296) :
    Calls Try.prog 32 #[.agg #[.int .u32 wa, .int .u32 to, .slice A n c], .int .u32 k] w (YesN w (outN (wa, to, ws) k)) := by
  have FA := Lib.hid (fun (W : World) => refFar_any to k W hb.t0 hb.t1 k0 k1)
  have FB := Lib.hid (fun (W : World) => refFar_any to wa W hb.t0 hb.t1 hb.w0 hb.w1)
  obtain ⟨r, hr⟩ : ∃ r, far to k = r := ⟨_, rfl⟩
  rw [hr] at FA
  obtain ⟨r2, hr2⟩ : ∃ r, far to wa = r := ⟨_, rfl⟩
  rw [hr2] at FB
  obtain ⟨R, hR⟩ : ∃ R, outN (wa, to, ws) k = R := ⟨_, rfl⟩
  have hR2 : decide (r < r2) = R := by rw [← hR, ← hr, ← hr2]; rfl
  rw [hR]
  clear hx hb k0 k1 hr hr2 hR
  obtain ⟨v1, hv1⟩ : ∃ W, w.alloc (.cells #[.int .u32 wa, .int .u32 to, .slice A n c] 25) = W := ⟨_, rfl⟩
  have fr1 : Fr w v1 w.heap.size [.cells #[.int .u32 wa, .int .u32 to, .slice A n c] 25] := hv1 ▸ Fr.first w _
  have z1 : v1.heap.size = w.heap.size + 1 := by rw [← hv1, Fr.size1]
  generalize hq : w.heap.size = q at *
  have FR := Lib.hid fr1
  clear fr1
  have hqz : q < v1.heap.size := by have := FR.out.sz; simp only [List.length_cons, List.length_nil] at this; omega
  have c00 : v1.cell? ⟨q, 0, none⟩ = some (.int .u32 wa) := FR.out.cell 0 0 rfl rfl rfl
  have c01 : v1.cell? ⟨q, 1, none⟩ = some (.int .u32 to) := FR.out.cell 0 1 rfl rfl rfl
  have c02 : v1.cell? ⟨q, 2, none⟩ = some (.slice A n c) := FR.out.cell 0 2 rfl rfl rfl
  go_enter Try.func32, Try.ntmps32
  go_wp2
  refine wp_region_noPanic ?_
  refine wp_region_held_drew (S := (fun wv => Hid (Below v1.heap.size v1 wv))) (by kernel_rfl) (Lib.hid (Below.refl _ v1).drew) (fun hS => ?_)
  refine wpAnyH_take (i := 0) (oi := ⟨some 5, .fieldAddr 25 (.tmp 2) 1, 0, "ref.go:13", #[], none⟩) (v := ?_) rfl (by kernel_rfl) (by kernel_rfl) (by kernel_rfl) (fun _ _ _ h => h) (Or.inl ⟨by rfl, ?_⟩) hS ?_
  rotate_left
  · intro wv _; go_simp; try with_reducible rfl
  try simp only [Act.put, List.setIfInBounds_toArray, List.set_cons_zero, List.set_cons_succ]
  refine wpAnyH_take (i := 1) (oi := ⟨some 6, .load 22 (.tmp 5), 22, "ref.go:13", #[⟨0, .data⟩], none⟩) (v := ?_) rfl (by kernel_rfl) (by kernel_rfl) (by kernel_rfl) (fun _ _ _ h => h) (Or.inl ⟨by rfl, ?_⟩) hS ?_
  rotate_left
  · intro wv hS; have hrun := (hS.out.cell (p := ⟨q, 1, none⟩) hqz).trans c01; go_simp; try with_reducible rfl
  try simp only [Act.put, List.setIfInBounds_toArray, List.set_cons_zero, List.set_cons_succ]
  refine wpAnyH_take (i := 2) (oi := ⟨some 7, .move (.tmp 1), 22, "ref.go:13", #[], none⟩) (v := ?_) rfl (by kernel_rfl) (by kernel_rfl) (by kernel_rfl) (fun _ _ _ h => h) (Or.inl ⟨by rfl, ?_⟩) hS ?_
  rotate_left
  · intro wv _; go_simp; try with_reducible rfl
  try simp only [Act.put, List.setIfInBounds_toArray, List.set_cons_zero, List.set_cons_succ]
  refine wpAnyH_take (i := 4) (oi := ⟨some 9, .fieldAddr 25 (.tmp 2) 1, 0, "ref.go:13", #[], none⟩) (v := ?_) rfl (by kernel_rfl) (by kernel_rfl) (by kernel_rfl) (fun _ _ _ h => h) (Or.inl ⟨by rfl, ?_⟩) hS ?_
  rotate_left
  · intro wv _; go_simp; try with_reducible rfl
  try simp only [Act.put, List.setIfInBounds_toArray, List.set_cons_zero, List.set_cons_succ]
  refine wpAnyH_take (i := 5) (oi := ⟨some 10, .load 22 (.tmp 9), 22, "ref.go:13", #[⟨4, .data⟩], none⟩) (v := ?_) rfl (by kernel_rfl) (by kernel_rfl) (by kernel_rfl) (fun _ _ _ h => h) (Or.inl ⟨by rfl, ?_⟩) hS ?_
  rotate_left
  · intro wv hS; have hrun := (hS.out.cell (p := ⟨q, 1, none⟩) hqz).trans c01; go_simp; try with_reducible rfl
  try simp only [Act.put, List.setIfInBounds_toArray, List.set_cons_zero, List.set_cons_succ]
  refine wpAnyH_take (i := 6) (oi := ⟨some 11, .fieldAddr 25 (.tmp 2) 0, 0, "ref.go:13", #[], none⟩) (v := ?_) rfl (by kernel_rfl) (by kernel_rfl) (by kernel_rfl) (fun _ _ _ h => h) (Or.inl ⟨by rfl, ?_⟩) hS ?_
  rotate_left
  · intro wv _; go_simp; try with_reducible rfl
  try simp only [Act.put, List.setIfInBounds_toArray, List.set_cons_zero, List.set_cons_succ]
  refine wpAnyH_take (i := 7) (oi := ⟨some 12, .load 22 (.tmp 11), 22, "ref.go:13", #[⟨6, .data⟩], none⟩) (v := ?_) rfl (by kernel_rfl) (by kernel_rfl) (by kernel_rfl) (fun _ _ _ h => h) (Or.inl ⟨by rfl, ?_⟩) hS ?_
  rotate_left
  · intro wv hS; have hrun := (hS.out.cell (p := ⟨q, 0, none⟩) hqz).trans c00; go_simp; try with_reducible rfl
  try simp only [Act.put, List.setIfInBounds_toArray, List.set_cons_zero, List.set_cons_succ]
  refine wpAnyH_ready (rs := [3]) (by kernel_rfl) (by simp) (AllReadyH.cons (o := ⟨some 8, .call { callee := .value (.func 27), args := #[.tmp 6, .tmp 7], argTypes := #[22, 22] }, 49, "ref.go:13", #[⟨1, .data⟩, ⟨2, .data⟩], none⟩) rfl (fun K hK => ?_) AllReadyH.nil)
  go_simp
  refine (FA.out _).mono ?_; rintro e wa ⟨rfl, rfl⟩
  go_wp2_with fail
  refine Shut.out hK _ _ hS (fun _ => ?_)
  clear hK K
  try simp only [Act.put, List.setIfInBounds_toArray, List.set_cons_zero, List.set_cons_succ]
  refine wpAnyH_ready (rs := [8]) (by kernel_rfl) (by simp) (AllReadyH.cons (o := ⟨some 13, .call { callee := .value (.func 27), args := #[.tmp 10, .tmp 12], argTypes := #[22, 22] }, 49, "ref.go:13", #[⟨5, .data⟩, ⟨7, .data⟩, ⟨3, .chain⟩], none⟩) rfl (fun K hK => ?_) AllReadyH.nil)
  go_simp
  refine (FB.out _).mono ?_; rintro e wb ⟨rfl, rfl⟩
  go_wp2_with fail
  refine Shut.out hK _ _ hS (fun _ => ?_)
  clear hK K
  try simp only [Act.put, List.setIfInBounds_toArray, List.set_cons_zero, List.set_cons_succ]
  refine wpAnyH_take (i := 9) (oi := ⟨some 14, .binOp .lss 49 (.tmp 8) (.tmp 13) 49, 4, "ref.go:13", #[⟨3, .data⟩, ⟨8, .data⟩], none⟩) (v := ?_) rfl (by kernel_rfl) (by kernel_rfl) (by kernel_rfl) (fun _ _ _ h => h) (Or.inl ⟨by rfl, ?_⟩) hS ?_
  rotate_left
  · intro wv _; go_simp; try with_reducible rfl
  try simp only [Act.put, List.setIfInBounds_toArray, List.set_cons_zero, List.set_cons_succ]
  refine wpAnyH_take (i := 10) (oi := ⟨some 4, .assign (.tmp 14), 4, "ref.go:13", #[⟨9, .data⟩, ⟨8, .chain⟩, ⟨0, .phase⟩, ⟨1, .phase⟩, ⟨2, .phase⟩, ⟨3, .phase⟩, ⟨4, .phase⟩, ⟨5, .phase⟩, ⟨6, .phase⟩, ⟨7, .phase⟩, ⟨8, .phase⟩, ⟨9, .phase⟩], none⟩) (v := ?_) rfl (by kernel_rfl) (by kernel_rfl) (by kernel_rfl) (fun _ _ _ h => h) (Or.inl ⟨by rfl, ?_⟩) hS ?_
  rotate_left
  · intro wv _; go_simp; try with_reducible rfl
  try simp only [Act.put, List.setIfInBounds_toArray, List.set_cons_zero, List.set_cons_succ]
  refine wpAnyH_done (by kernel_rfl) ?_ _
  refine NoPanic.normal ?_
  go_wp2
  go_ret
  exact ⟨rfl, FR.out.out.trans (hS.out.mono FR.out.out.size)⟩
set_option maxRecDepth 100000 in
set_option maxHeartbeats 8000000 in
theorem refRight11_any (A : Option Addr) (n c : Nat) (ws : List Wt) (wa to : Int) (w : World) (hx : Wts w A n c ws) (hn : n ≤ 16384) (hb : NB (wa, to, ws)) :
    Calls Try.prog 15 #[.agg #[.int .u32 wa, .int .u32 to, .slice A n c]] w (YesN w (rightN (wa, to, ws))) := by
  have hlen := hx.len
  have RX := Lib.hid hx
  have HL := Lib.hid hlen
  have NBH := Lib.hid hb
  have FA := Lib.hid (fun (W : World) => refFar_any to wa W hb.t0 hb.t1 hb.w0 hb.w1)
  obtain ⟨r, hr⟩ : ∃ r, far to wa = r := ⟨_, rfl⟩
  rw [hr] at FA
  obtain ⟨R, hR⟩ : ∃ R, rightN (wa, to, ws) = R := ⟨_, rfl⟩
  rw [hR]
  clear hx hb
  obtain ⟨v1, hv1⟩ : ∃ W, w.alloc (.cells #[.int .u32 wa, .int .u32 to, .slice A n c] 25) = W := ⟨_, rfl⟩
  have fr1 : Fr w v1 w.heap.size [.cells #[.int .u32 wa, .int .u32 to, .slice A n c] 25] := hv1 ▸ Fr.first w _
  have z1 : v1.heap.size = w.heap.size + 1 := by rw [← hv1, Fr.size1]
  generalize hq : w.heap.size = q at *
  have FR := Lib.hid fr1
  clear fr1
  by_cases h1 : 1000 < r
  · have b0 : decide (1000 < r) = true := by simpa using h1
    have HE := Lib.hid (show R = false from by rw [← hR]; exact rightN_no (fun h => by have h2 : far to wa ≤ 1000 := h.1; omega))
    clear h1 hr hR hlen
    go_enter Try.func15, Try.ntmps15
    have c00 : v1.cell? ⟨q, 0, none⟩ = some (.int .u32 wa) := FR.out.cell 0 0 rfl rfl rfl
    have c01 : v1.cell? ⟨q, 1, none⟩ = some (.int .u32 to) := FR.out.cell 0 1 rfl rfl rfl
    have c02 : v1.cell? ⟨q, 2, none⟩ = some (.slice A n c) := FR.out.cell 0 2 rfl rfl rfl
    go_wp2_with fail
    refine (FA.out _).mono ?_
    rintro e w2 ⟨rfl, rfl⟩
    clear c00 c01 c02
    have c00 : w2.cell? ⟨q, 0, none⟩ = some (.int .u32 wa) := FR.out.cell 0 0 rfl rfl rfl
    have c01 : w2.cell? ⟨q, 1, none⟩ = some (.int .u32 to) := FR.out.cell 0 1 rfl rfl rfl
    have c02 : w2.cell? ⟨q, 2, none⟩ = some (.slice A n c) := FR.out.cell 0 2 rfl rfl rfl
    go_wp2
    go_ret
    rw [HE.out]
    exact ⟨rfl, FR.out.out⟩
  · have b0 : decide (1000 < r) = false := by simpa using h1
    by_cases h2 : 12 < n
    · have b1 : decide ((12 : Int) < (n : Int)) = true := by simp; omega
      have b1n : decide (12 < n) = true := by simp; omega
      have HE := Lib.hid (show R = false from by rw [← hR]; exact rightN_no (fun h => by have h3 : ws.length ≤ 12 := h.2.1; omega))
      clear h1 h2 hr hR hlen
      go_enter Try.func15, Try.ntmps15
      have c00 : v1.cell? ⟨q, 0, none⟩ = some (.int .u32 wa) := FR.out.cell 0 0 rfl rfl rfl
      have c01 : v1.cell? ⟨q, 1, none⟩ = some (.int .u32 to) := FR.out.cell 0 1 rfl rfl rfl
      have c02 : v1.cell? ⟨q, 2, none⟩ = some (.slice A n c) := FR.out.cell 0 2 rfl rfl rfl
      go_wp2_with fail
      refine (FA.out _).mono ?_
      rintro e w2 ⟨rfl, rfl⟩
      clear c00 c01 c02
      have c00 : w2.cell? ⟨q, 0, none⟩ = some (.int .u32 wa) := FR.out.cell 0 0 rfl rfl rfl
      have c01 : w2.cell? ⟨q, 1, none⟩ = some (.int .u32 to) := FR.out.cell 0 1 rfl rfl rfl
      have c02 : w2.cell? ⟨q, 2, none⟩ = some (.slice A n c) := FR.out.cell 0 2 rfl rfl rfl
      go_wp2
      go_ret
      rw [HE.out]
      exact ⟨rfl, FR.out.out⟩
    · have b1 : decide ((12 : Int) < (n : Int)) = false := by simp; omega
      have b1n : decide (12 < n) = false := by simp; omega
      have n12 : n ≤ 12 := by omega
      have HRO := Lib.hid (show okWs (wa, to, ws) n → R = true from fun h => by rw [← hR]; exact rightN_iff.2 ⟨by show far to wa ≤ 1000; omega, by show ws.length ≤ 12; omega, by show okWs (wa, to, ws) ws.length; rw [hlen]; exact h⟩)
      have HRN := Lib.hid (show ∀ i : Nat, i < n → ¬ okW (wa, to, ws) i → R = false from fun i hi h => by rw [← hR]; exact rightN_no (fun hh => h (hh.2.2 i (by show i < ws.length; omega))))
      clear h1 h2 hr hR hlen
      go_enter Try.func15, Try.ntmps15
      have c00 : v1.cell? ⟨q, 0, none⟩ = some (.int .u32 wa) := FR.out.cell 0 0 rfl rfl rfl
      have c01 : v1.cell? ⟨q, 1, none⟩ = some (.int .u32 to) := FR.out.cell 0 1 rfl rfl rfl
      have c02 : v1.cell? ⟨q, 2, none⟩ = some (.slice A n c) := FR.out.cell 0 2 rfl rfl rfl
      go_wp2_with fail
      refine (FA.out _).mono ?_
      rintro e w2 ⟨rfl, rfl⟩
      clear c00 c01 c02
      have c00 : w2.cell? ⟨q, 0, none⟩ = some (.int .u32 wa) := FR.out.cell 0 0 rfl rfl rfl
      have c01 : w2.cell? ⟨q, 1, none⟩ = some (.int .u32 to) := FR.out.cell 0 1 rfl rfl rfl
      have c02 : w2.cell? ⟨q, 2, none⟩ = some (.slice A n c) := FR.out.cell 0 2 rfl rfl rfl
      go_wp2
      clear c00 c01 c02
      clear hv1 z1
      go_loopw [3, 4, 5] (fun iv pv kv wr => ∃ (i : Nat), iv = .int .i64 (i : Int) ∧ i ≤ n ∧ Hid (okWs (wa, to, ws) i) ∧ Hid (Fr w wr q [.cells #[.int .u32 wa, .int .u32 to, .slice A n c] 25])) (fun iv _ _ _ => n - (intOf iv).toNat)
      case atStart => exact ⟨0, rfl, by omega, fun i hi => by omega, FR.out⟩
      case round =>
        clear FR
        obtain ⟨i, rfl, hi, HOK, FR⟩ := hrel
        by_cases hlt : i < n
        · have c1 : decide ((i : Int) < (n : Int)) = true := by simpa using hlt
          have i0 : (0 : Int) ≤ (i : Int) := by omega
          have i1 : (i : Int) < (n : Int) := by omega
          obtain ⟨b, off, rfl, hb0, k0, k1⟩ := Wts.look (ws := ws) (FR.out.es RX.out) i hlt
          clear hb0
          obtain ⟨⟨ti, ta⟩, hti⟩ : ∃ x, wtAt ws i = x := ⟨_, rfl⟩
          rw [hti] at k0 k1
          simp only at k0 k1
          have hm := NBH.out.ws (wtAt ws i) (show wtAt ws i ∈ ws from wtAt_mem (by have := HL.out; omega))
          rw [hti] at hm
          have HB := Lib.hid hm
          have HTI := Lib.hid hti
          have HLT := Lib.hid hlt
          clear hm hti hlt
          have c00 : wr.cell? ⟨q, 0, none⟩ = some (.int .u32 wa) := FR.out.cell 0 0 rfl rfl rfl
          have c01 : wr.cell? ⟨q, 1, none⟩ = some (.int .u32 to) := FR.out.cell 0 1 rfl rfl rfl
          have c02 : wr.cell? ⟨q, 2, none⟩ = some (.slice (some ⟨b, off, none⟩) n c) := FR.out.cell 0 2 rfl rfl rfl
          have ged := FR.out.sz
          simp only [List.length_cons, List.length_nil] at ged
          obtain ⟨w3, hw3⟩ : ∃ W, wr.alloc (.cells #[.int .u32 ti, .int .i64 ta] 53) = W := ⟨_, rfl⟩
          have hb : Below wr.heap.size wr w3 := hw3 ▸ (Below.refl _ _).alloc (Nat.le_refl _) _
          have hv : w3.heap[wr.heap.size]? = some (.cells #[.int .u32 ti, .int .i64 ta] 53) := hw3 ▸ heap_alloc_new _ _
          replace FR := Lib.hid (FR.out.step hb)
          have Vd := Lib.hid hv
          generalize hsd : wr.heap.size = sd at *
          clear hb hv
          have nc00 : w3.cell? ⟨q, 0, none⟩ = some (.int .u32 wa) := FR.out.cell 0 0 rfl rfl rfl
          have nc01 : w3.cell? ⟨q, 1, none⟩ = some (.int .u32 to) := FR.out.cell 0 1 rfl rfl rfl
          have nc02 : w3.cell? ⟨q, 2, none⟩ = some (.slice (some ⟨b, off, none⟩) n c) := FR.out.cell 0 2 rfl rfl rfl
          have ncd0 : w3.cell? ⟨sd, 0, none⟩ = some (.int .u32 ti) := (blk_cell Vd.out 0).trans rfl
          have ncd1 : w3.cell? ⟨sd, 1, none⟩ = some (.int .i64 ta) := (blk_cell Vd.out 1).trans rfl
          by_cases h3 : ta < 0
          · have c2 : decide (ta < 0) = true := by simpa using h3
            have HE := Lib.hid (HRN.out i HLT.out (fun h => by have h4 := h.1; rw [show (wa, to, ws).2.2 = ws from rfl, HTI.out] at h4; simp only at h4; omega))
            clear h3
            go_wp2
            go_ret
            rw [HE.out]
            exact ⟨rfl, FR.out.out⟩
          · have c2 : decide (ta < 0) = false := by simpa using h3
            have OU := fun (W : World) (h : Wts W (some ⟨b, off, none⟩) n c ws) => refOut_any (some ⟨b, off, none⟩) n c ws wa to ti W h hn NBH.out HB.out.1 HB.out.2
            cases ho : outN (wa, to, ws) ti
            · rw [ho] at OU
              replace OU := Lib.hid OU
              have HE := Lib.hid (HRN.out i HLT.out (fun h => by have h4 := h.2.1; rw [show (wa, to, ws).2.2 = ws from rfl, HTI.out] at h4; exact absurd (decide_eq_true h4) (by unfold outN at ho; rw [ho]; simp)))
              clear h3 ho
              go_wp2_with fail
              refine (OU.out _ (FR.out.es RX.out)).mono ?_
              rintro e w4 ⟨rfl, hb⟩
              clear c00 c01 c02 nc00 nc01 nc02 ncd0 ncd1
              replace FR := Lib.hid (FR.out.step hb)
              replace Vd := Lib.hid (blk_below Vd.out hb (blk_lt Vd.out))
              clear hb
              go_wp2
              go_ret
              rw [HE.out]
              exact ⟨rfl, FR.out.out⟩
            · rw [ho] at OU
              replace OU := Lib.hid OU
              have HOU := Lib.hid (of_decide_eq_true ho)
              have HT0 := Lib.hid (show 0 ≤ ta by omega)
              clear h3 ho
              go_wp2_with fail
              refine (OU.out _ (FR.out.es RX.out)).mono ?_
              rintro e w4 ⟨rfl, hb⟩
              clear c00 c01 c02 nc00 nc01 nc02 ncd0 ncd1
              replace FR := Lib.hid (FR.out.step hb)
              replace Vd := Lib.hid (blk_below Vd.out hb (blk_lt Vd.out))
              clear hb
              have c00 : w4.cell? ⟨q, 0, none⟩ = some (.int .u32 wa) := FR.out.cell 0 0 rfl rfl rfl
              have c01 : w4.cell? ⟨q, 1, none⟩ = some (.int .u32 to) := FR.out.cell 0 1 rfl rfl rfl
              have c02 : w4.cell? ⟨q, 2, none⟩ = some (.slice (some ⟨b, off, none⟩) n c) := FR.out.cell 0 2 rfl rfl rfl
              have cd0 : w4.cell? ⟨sd, 0, none⟩ = some (.int .u32 ti) := (blk_cell Vd.out 0).trans rfl
              have cd1 : w4.cell? ⟨sd, 1, none⟩ = some (.int .i64 ta) := (blk_cell Vd.out 1).trans rfl
              go_wp2
              clear c00 c01 c02 cd0 cd1
              clear k0 k1 
              obtain ⟨wo, hwo⟩ : ∃ x, x = wr := ⟨_, rfl⟩
              subst hwo
              go_loopw [5] (fun kv wr => ∃ (k : Nat), kv = .int .i64 (k : Int) ∧ k ≤ i ∧ Hid (∀ j : Nat, j < k → (wtAt ws j).1 ≠ ti ∧ (wtAt ws j).2 ≠ ta) ∧ Hid (Fr w wr q [.cells #[.int .u32 wa, .int .u32 to, .slice (some ⟨b, off, none⟩) n c] 25]) ∧ Hid (wr.heap[sd]? = some (.cells #[.int .u32 ti, .int .i64 ta] 53))) (fun kv _ => i - (intOf kv).toNat)
              case atStart => exact ⟨0, rfl, by omega, fun j hj => by omega, FR.out, Vd.out⟩
              case round =>
                clear FR Vd
                obtain ⟨k, rfl, hk, HK, FR, Vd⟩ := hrel
                by_cases hkl : k < i
                · have c3 : decide ((k : Int) < (i : Int)) = true := by simpa using hkl
                  have kk0 : (0 : Int) ≤ (k : Int) := by omega
                  have kk1 : (k : Int) < (n : Int) := by omega
                  obtain ⟨b2, off2, he2, hb0, k0, k1⟩ := Wts.look (ws := ws) (FR.out.es RX.out) k (by have := HLT.out; omega)
                  injection he2 with he2
                  injection he2 with he2 he3
                  subst he2; subst he3
                  clear hb0
                  obtain ⟨⟨tk, tb⟩, htk⟩ : ∃ x, wtAt ws k = x := ⟨_, rfl⟩
                  rw [htk] at k0 k1
                  simp only at k0 k1
                  by_cases h5 : tk = ti
                  · have c4 : (tk == ti) = true := by simp [h5]
                    have HE := Lib.hid (HRN.out i HLT.out (fun h => by
                      have h7 := h.2.2 k hkl
                      rw [show (wa, to, ws).2.2 = ws from rfl, HTI.out, htk] at h7
                      exact h7.1 h5))
                    clear h5 htk
                    have c00 : wr.cell? ⟨q, 0, none⟩ = some (.int .u32 wa) := FR.out.cell 0 0 rfl rfl rfl
                    have c01 : wr.cell? ⟨q, 1, none⟩ = some (.int .u32 to) := FR.out.cell 0 1 rfl rfl rfl
                    have c02 : wr.cell? ⟨q, 2, none⟩ = some (.slice (some ⟨b, off, none⟩) n c) := FR.out.cell 0 2 rfl rfl rfl
                    have cd0 : wr.cell? ⟨sd, 0, none⟩ = some (.int .u32 ti) := (blk_cell Vd.out 0).trans rfl
                    have cd1 : wr.cell? ⟨sd, 1, none⟩ = some (.int .i64 ta) := (blk_cell Vd.out 1).trans rfl
                    go_wp2
                    go_quiet (fail)
                    go_wp2
                    go_ret
                    rw [HE.out]
                    exact ⟨rfl, bel_drewN FR.out.out _⟩
                  · have c4 : (tk == ti) = false := by simp [h5]
                    by_cases h6 : tb = ta
                    · have c5 : (tb == ta) = true := by simp [h6]
                      have HE := Lib.hid (HRN.out i HLT.out (fun h => by
                        have h7 := h.2.2 k hkl
                        rw [show (wa, to, ws).2.2 = ws from rfl, HTI.out, htk] at h7
                        exact h7.2 h6))
                      clear h5 h6 htk
                      have c00 : wr.cell? ⟨q, 0, none⟩ = some (.int .u32 wa) := FR.out.cell 0 0 rfl rfl rfl
                      have c01 : wr.cell? ⟨q, 1, none⟩ = some (.int .u32 to) := FR.out.cell 0 1 rfl rfl rfl
                      have c02 : wr.cell? ⟨q, 2, none⟩ = some (.slice (some ⟨b, off, none⟩) n c) := FR.out.cell 0 2 rfl rfl rfl
                      have cd0 : wr.cell? ⟨sd, 0, none⟩ = some (.int .u32 ti) := (blk_cell Vd.out 0).trans rfl
                      have cd1 : wr.cell? ⟨sd, 1, none⟩ = some (.int .i64 ta) := (blk_cell Vd.out 1).trans rfl
                      go_wp2
                      go_quiet (fail)
                      go_wp2
                      go_ret
                      rw [HE.out]
                      exact ⟨rfl, bel_drewN FR.out.out _⟩
                    · have c5 : (tb == ta) = false := by simp [h6]
                      have HK2 := Lib.hid (show ∀ j : Nat, j < k + 1 → (wtAt ws j).1 ≠ ti ∧ (wtAt ws j).2 ≠ ta from fun j hj => by
                        rcases Nat.lt_or_ge j k with h8 | h8
                        · exact HK.out j h8
                        · have : j = k := by omega
                          subst this; rw [htk]; exact ⟨h5, h6⟩)
                      clear h5 h6 htk HK
                      have c00 : wr.cell? ⟨q, 0, none⟩ = some (.int .u32 wa) := FR.out.cell 0 0 rfl rfl rfl
                      have c01 : wr.cell? ⟨q, 1, none⟩ = some (.int .u32 to) := FR.out.cell 0 1 rfl rfl rfl
                      have c02 : wr.cell? ⟨q, 2, none⟩ = some (.slice (some ⟨b, off, none⟩) n c) := FR.out.cell 0 2 rfl rfl rfl
                      have cd0 : wr.cell? ⟨sd, 0, none⟩ = some (.int .u32 ti) := (blk_cell Vd.out 0).trans rfl
                      have cd1 : wr.cell? ⟨sd, 1, none⟩ = some (.int .i64 ta) := (blk_cell Vd.out 1).trans rfl
                      go_wp2
                      go_quiet (fail)
                      go_wp2
                      go_roundw
                      case rel => exact ⟨k + 1, by go_num, by omega, HK2.out, ⟨FR.out.blk, bel_drewN FR.out.bel _, FR.out.sz, FR.out.q0⟩, Vd.out⟩
                      case measure => simp [intOf]; omega
                · have ek : k = i := by omega
                  have c3 : decide ((k : Int) < (i : Int)) = false := by simp; omega
                  have c3n : decide (k < i) = false := by simp; omega
                  have HOK2 := Lib.hid (show okWs (wa, to, ws) (i + 1) from fun j hj => by
                    rcases Nat.lt_or_ge j i with h8 | h8
                    · exact HOK.out j h8
                    · have : j = i := by omega
                      subst this
                      refine ⟨?_, ?_, fun k2 hk2 => ?_⟩
                      · rw [show (wa, to, ws).2.2 = ws from rfl, HTI.out]; exact HT0.out
                      · rw [show (wa, to, ws).2.2 = ws from rfl, HTI.out]; exact HOU.out
                      · have h9 := HK.out k2 (by omega); rw [show (wa, to, ws).2.2 = ws from rfl, HTI.out]; exact h9)
                  have HLI := HLT.out
                  clear ek hkl hk HK
                  go_wp2
                  go_roundw
                  case rel => exact ⟨i + 1, by go_num, by omega, HOK2, FR⟩
                  case measure => simp [intOf]; omega
        · have en : i = n := by omega
          have c1 : decide ((i : Int) < (n : Int)) = false := by simp; omega
          have c1n : decide (i < n) = false := by simp; omega
          have HE := Lib.hid (HRO.out (en ▸ HOK.out))
          clear en hlt hi
          have c00 : wr.cell? ⟨q, 0, none⟩ = some (.int .u32 wa) := FR.out.cell 0 0 rfl rfl rfl
          have c01 : wr.cell? ⟨q, 1, none⟩ = some (.int .u32 to) := FR.out.cell 0 1 rfl rfl rfl
          have c02 : wr.cell? ⟨q, 2, none⟩ = some (.slice A n c) := FR.out.cell 0 2 rfl rfl rfl
          go_wp2
          go_ret
          rw [HE.out]
          exact ⟨rfl, FR.out.out⟩
end Go.Proofs.Ytjpgmkbcjedhfaa
