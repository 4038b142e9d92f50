/- What the landed notify's own countOut, isOut, Told and Right answer; for lists of up to 16384 who wait. -/
import Derived.Test.YtjpgmkbcjedhfaaNotB
import Derived.Test.YtjpgmkbcjedhfaaCm
namespace Go.Proofs.Ytjpgmkbcjedhfaa
set_option linter.unusedVariables false
set_option linter.unusedSimpArgs false
open Go.RowKit
/-- how many tickets are out. -/
def NumN (w : World) (r : Int) (e : Ending) (w' : World) : Prop := e = .returned (.int .u32 r) ∧ Below w.heap.size w w'
theorem map_step {f : Wt → Int} {ws : List Wt} {i : Nat} (h : i < ws.length) : (ws.take (i + 1)).map f = (ws.take i).map f ++ [f (wtAt ws i)] := by
  rw [List.take_add_one, List.getElem?_eq_getElem h, List.map_append]
  show _ ++ [f _] = _
  unfold wtAt
  rw [List.getD_eq_getElem?_getD, List.getElem?_eq_getElem h]; rfl
theorem count_no {f : Wt → Int} {ws : List Wt} {i : Nat} {y : Int} (hi : i ≤ ws.length) : ((ws.take i).map f).count y = 0 ↔ ∀ k : Nat, k < i → f (wtAt ws k) ≠ y := by
  rw [List.count_eq_zero]
  constructor
  · intro h k hk e
    refine h (List.mem_map.2 ⟨wtAt ws k, ?_, e⟩)
    unfold wtAt
    rw [List.getD_eq_getElem?_getD, List.getElem?_eq_getElem (show k < ws.length by omega), List.mem_take_iff_getElem]
    exact ⟨k, by omega, rfl⟩
  · intro h hm
    obtain ⟨x, hx, e⟩ := List.mem_map.1 hm
    obtain ⟨k, hk, e2⟩ := List.mem_take_iff_getElem.1 hx
    refine h k (by omega) ?_
    unfold wtAt
    rw [List.getD_eq_getElem?_getD, List.getElem?_eq_getElem (show k < ws.length by omega)]
    show f ws[k] = y
    rw [e2]; exact e
theorem count_end {l : List Int} {y : Int} : ((l ++ [y]).count y : Nat) = l.count y + 1 := by rw [List.count_append]; simp
theorem okW_iff {n : Nf} {i : Nat} (hi : i ≤ n.2.2.length) : okW n i ↔ 0 ≤ (wtAt n.2.2 i).2 ∧ outP n (wtAt n.2.2 i).1 ∧ ((n.2.2.take i).map Prod.fst).count (wtAt n.2.2 i).1 = 0 ∧ ((n.2.2.take i).map Prod.snd).count (wtAt n.2.2 i).2 = 0 := by
  rw [count_no hi, count_no hi]
  unfold okW
  exact ⟨fun h => ⟨h.1, h.2.1, fun k hk => (h.2.2 k hk).1, fun k hk => (h.2.2 k hk).2⟩, fun h => ⟨h.1, h.2.1, fun k hk => ⟨h.2.2.1 k hk, h.2.2.2 k hk⟩⟩⟩
theorem far_wrap {f t : Int} : IntKind.u32.wrap (t - f) = far f t := by rw [IntKind.wrap_u32]; unfold far; omega
set_option maxRecDepth 100000 in
set_option maxHeartbeats 4000000 in
theorem ntCount_any (A : Option Addr) (n c : Nat) (ws : List Wt) (wa to : Int) (w : World) (hx : Wts w A n c ws) (hn : n ≤ 16384) (hb : NB (wa, to, ws)) :
    Calls Try.prog 26 #[.agg #[.int .u32 wa, .int .u32 to, .slice A n c]] w (NumN w (far to wa)) := by
  have hr := far_wrap (f := to) (t := wa)
  obtain ⟨r, hr2⟩ : ∃ r, far to wa = r := ⟨_, rfl⟩
  rw [hr2] at hr ⊢
  clear hx hb hr2
  obtain ⟨v1, hv1⟩ : ∃ W, w.alloc (.cells #[.int .u32 wa, .int .u32 to, .slice A n c] 25) = W := ⟨_, rfl⟩
  have fr1 : Fr w v1 w.heap.size [.cells #[.int .u32 wa, .int .u32 to, .slice A n c] 25] := hv1 ▸ Fr.first w _
  have z1 : v1.heap.size = w.heap.size + 1 := by rw [← hv1, Fr.size1]
  generalize hq : w.heap.size = q at *
  have FR := Lib.hid fr1
  clear fr1
  have c00 : v1.cell? ⟨q, 0, none⟩ = some (.int .u32 wa) := FR.out.cell 0 0 rfl rfl rfl
  have c01 : v1.cell? ⟨q, 1, none⟩ = some (.int .u32 to) := FR.out.cell 0 1 rfl rfl rfl
  have c02 : v1.cell? ⟨q, 2, none⟩ = some (.slice A n c) := FR.out.cell 0 2 rfl rfl rfl
  go_enter Try.func26, Try.ntmps26
  go_wp2
  go_ret
  exact ⟨rfl, FR.out.out⟩
set_option maxRecDepth 100000 in
set_option maxHeartbeats 4000000 in
theorem ntOut_any (A : Option Addr) (n c : Nat) (ws : List Wt) (wa to k : Int) (w : World) (hx : Wts w A n c ws) (hn : n ≤ 16384) (hb : NB (wa, to, ws)) (k0 : 0 ≤ k) (k1 : k < 4294967296) :
    Calls Try.prog 28 #[.agg #[.int .u32 wa, .int .u32 to, .slice A n c], .int .u32 k] w (YesN w (outN (wa, to, ws) k)) := by
  have RX := Lib.hid hx
  have FB := Lib.hid (fun (W : World) (h : Wts W A n c ws) => ntCount_any A n c ws wa to W h hn hb)
  have hr := far_wrap (f := to) (t := k)
  obtain ⟨r, hr1⟩ : ∃ r, far to k = r := ⟨_, rfl⟩
  rw [hr1] at hr
  obtain ⟨r2, hr2⟩ : ∃ r, far to wa = r := ⟨_, rfl⟩
  rw [hr2] at FB
  obtain ⟨R, hR⟩ : ∃ R, outN (wa, to, ws) k = R := ⟨_, rfl⟩
  have hR2 : decide (r < r2) = R := by rw [← hR, ← hr1, ← hr2]; rfl
  rw [hR]
  clear hx hb k0 k1 hr1 hr2 hR
  obtain ⟨v1, hv1⟩ : ∃ W, w.alloc (.cells #[.int .u32 wa, .int .u32 to, .slice A n c] 25) = W := ⟨_, rfl⟩
  have fr1 : Fr w v1 w.heap.size [.cells #[.int .u32 wa, .int .u32 to, .slice A n c] 25] := hv1 ▸ Fr.first w _
  have z1 : v1.heap.size = w.heap.size + 1 := by rw [← hv1, Fr.size1]
  generalize hq : w.heap.size = q at *
  have FR := Lib.hid fr1
  clear fr1
  have hqz : q < v1.heap.size := by have := FR.out.sz; simp only [List.length_cons, List.length_nil] at this; omega
  have c00 : v1.cell? ⟨q, 0, none⟩ = some (.int .u32 wa) := FR.out.cell 0 0 rfl rfl rfl
  have c01 : v1.cell? ⟨q, 1, none⟩ = some (.int .u32 to) := FR.out.cell 0 1 rfl rfl rfl
  have c02 : v1.cell? ⟨q, 2, none⟩ = some (.slice A n c) := FR.out.cell 0 2 rfl rfl rfl
  go_enter Try.func28, Try.ntmps28
  go_wp2
  refine wp_region_noPanic ?_
  refine wp_region_held_drew (S := (fun wv => Hid (Fr w wv q [.cells #[.int .u32 wa, .int .u32 to, .slice A n c] 25]))) (by kernel_rfl) (Lib.hid FR.out.drew) (fun hS => ?_)
  refine wpAnyH_take (i := 0) (oi := ⟨some 5, .move (.tmp 1), 22, "notify.go:104", #[], none⟩) (v := ?_) rfl (by kernel_rfl) (by kernel_rfl) (by kernel_rfl) (fun _ _ _ h => h) (Or.inl ⟨by rfl, ?_⟩) hS ?_
  rotate_left
  · intro wv _; go_simp; try with_reducible rfl
  try simp only [Act.put, List.setIfInBounds_toArray, List.set_cons_zero, List.set_cons_succ]
  refine wpAnyH_take (i := 1) (oi := ⟨some 6, .fieldAddr 25 (.tmp 2) 1, 0, "notify.go:104", #[], none⟩) (v := ?_) rfl (by kernel_rfl) (by kernel_rfl) (by kernel_rfl) (fun _ _ _ h => h) (Or.inl ⟨by rfl, ?_⟩) hS ?_
  rotate_left
  · intro wv _; go_simp; try with_reducible rfl
  try simp only [Act.put, List.setIfInBounds_toArray, List.set_cons_zero, List.set_cons_succ]
  refine wpAnyH_take (i := 2) (oi := ⟨some 7, .load 22 (.tmp 6), 22, "notify.go:104", #[⟨1, .data⟩], none⟩) (v := ?_) rfl (by kernel_rfl) (by kernel_rfl) (by kernel_rfl) (fun _ _ _ h => h) (Or.inl ⟨by rfl, ?_⟩) hS ?_
  rotate_left
  · intro wv hS; have hrun := (show wv.cell? ⟨q, 1, none⟩ = some (.int .u32 to) from hS.out.cell 0 1 rfl rfl rfl); go_simp; try with_reducible rfl
  try simp only [Act.put, List.setIfInBounds_toArray, List.set_cons_zero, List.set_cons_succ]
  refine wpAnyH_take (i := 3) (oi := ⟨some 8, .binOp .sub 22 (.tmp 5) (.tmp 7) 22, 22, "notify.go:104", #[⟨0, .data⟩, ⟨2, .data⟩], none⟩) (v := ?_) rfl (by kernel_rfl) (by kernel_rfl) (by kernel_rfl) (fun _ _ _ h => h) (Or.inl ⟨by rfl, ?_⟩) hS ?_
  rotate_left
  · intro wv _; go_simp; try with_reducible rfl
  try simp only [Act.put, List.setIfInBounds_toArray, List.set_cons_zero, List.set_cons_succ]
  refine wpAnyH_take (i := 4) (oi := ⟨some 9, .load 25 (.tmp 2), 25, "notify.go:104", #[], none⟩) (v := .agg (([.int .u32 wa, .int .u32 to, .slice A n c] : List Value)).toArray) rfl (by kernel_rfl) (by kernel_rfl) (by kernel_rfl) (fun _ _ _ h => h) (yieldsIf_load_mid (by rfl) _ _ (by rfl) (q) (0) (by rfl) (([.int .u32 wa, .int .u32 to, .slice A n c] : List Value)) _ (fun wv hS => hS.out.rng 0 rfl rfl) Try.underlying25 (by rfl) (by kernel_rfl)) hS ?_
  try simp only [Act.put, List.setIfInBounds_toArray, List.set_cons_zero, List.set_cons_succ]
  refine wpAnyH_ready (rs := [5]) (by kernel_rfl) (by simp) (AllReadyH.cons (o := ⟨some 10, .call { callee := .value (.func 26), args := #[.tmp 9], argTypes := #[25] }, 22, "notify.go:104", #[⟨4, .data⟩], none⟩) rfl (fun K hK => ?_) AllReadyH.nil)
  go_simp
  refine (FB.out _ (hS.out.es RX.out)).mono ?_; rintro e wb ⟨rfl, hb⟩; replace hS := Lib.hid (hS.out.step hb); clear hb
  go_wp2_with fail
  refine Shut.out hK _ _ hS (fun _ => ?_)
  clear hK K
  try simp only [Act.put, List.setIfInBounds_toArray, List.set_cons_zero, List.set_cons_succ]
  refine wpAnyH_take (i := 6) (oi := ⟨some 11, .binOp .lss 22 (.tmp 8) (.tmp 10) 22, 4, "notify.go:104", #[⟨3, .data⟩, ⟨5, .data⟩], none⟩) (v := ?_) rfl (by kernel_rfl) (by kernel_rfl) (by kernel_rfl) (fun _ _ _ h => h) (Or.inl ⟨by rfl, ?_⟩) hS ?_
  rotate_left
  · intro wv _; go_simp; try with_reducible rfl
  try simp only [Act.put, List.setIfInBounds_toArray, List.set_cons_zero, List.set_cons_succ]
  refine wpAnyH_take (i := 7) (oi := ⟨some 4, .assign (.tmp 11), 4, "notify.go:104", #[⟨6, .data⟩, ⟨5, .chain⟩, ⟨0, .phase⟩, ⟨1, .phase⟩, ⟨2, .phase⟩, ⟨3, .phase⟩, ⟨4, .phase⟩, ⟨5, .phase⟩, ⟨6, .phase⟩], none⟩) (v := ?_) rfl (by kernel_rfl) (by kernel_rfl) (by kernel_rfl) (fun _ _ _ h => h) (Or.inl ⟨by rfl, ?_⟩) hS ?_
  rotate_left
  · intro wv _; go_simp; try with_reducible rfl
  try simp only [Act.put, List.setIfInBounds_toArray, List.set_cons_zero, List.set_cons_succ]
  refine wpAnyH_done (by kernel_rfl) ?_ _
  refine NoPanic.normal ?_
  go_wp2
  go_ret
  exact ⟨rfl, hS.out.out⟩
set_option maxRecDepth 100000 in
set_option maxHeartbeats 4000000 in
theorem ntToldL (A : Option Addr) (n c : Nat) (ws : List Wt) (wa to k : Int) (w : World) (hx : Wts w A n c ws) (hn : n ≤ 16384) (hb : NB (wa, to, ws)) (k0 : 0 ≤ k) (k1 : k < 4294967296) :
    Calls Try.prog 16 #[.agg #[.int .u32 wa, .int .u32 to, .slice A n c], .int .u32 k] w (YesN w (toldN (wa, to, ws) k)) := by
  have hr := far_wrap (f := to) (t := k)
  have h0 := far_ge to k
  have h1 := far_lt to k
  obtain ⟨r, hr1⟩ : ∃ r, far to k = r := ⟨_, rfl⟩
  rw [hr1] at hr h0 h1
  obtain ⟨R, hR⟩ : ∃ R, toldN (wa, to, ws) k = R := ⟨_, rfl⟩
  have hR2 : decide (2147483648 ≤ r) = R := by rw [← hR, ← hr1]; rfl
  obtain ⟨s, hs⟩ : ∃ s, IntKind.i32.wrap r = s := ⟨_, rfl⟩
  have hcv : ∀ W : World, (convert 22 21 (.int .u32 r)).run Try.prog W = .ok (.int .i32 s) W := fun W => by rw [← hs]; kernel_rfl
  have hR3 : decide (s < 0) = R := by rw [← hR2, ← hs, IntKind.wrap_i32]; apply decide_eq_decide.2; omega
  rw [hR]
  clear hx hb k0 k1 hr1 hR hR2 hs h0 h1
  obtain ⟨v1, hv1⟩ : ∃ W, w.alloc (.cells #[.int .u32 wa, .int .u32 to, .slice A n c] 25) = W := ⟨_, rfl⟩
  have fr1 : Fr w v1 w.heap.size [.cells #[.int .u32 wa, .int .u32 to, .slice A n c] 25] := hv1 ▸ Fr.first w _
  have z1 : v1.heap.size = w.heap.size + 1 := by rw [← hv1, Fr.size1]
  generalize hq : w.heap.size = q at *
  have FR := Lib.hid fr1
  clear fr1
  have c00 : v1.cell? ⟨q, 0, none⟩ = some (.int .u32 wa) := FR.out.cell 0 0 rfl rfl rfl
  have c01 : v1.cell? ⟨q, 1, none⟩ = some (.int .u32 to) := FR.out.cell 0 1 rfl rfl rfl
  have c02 : v1.cell? ⟨q, 2, none⟩ = some (.slice A n c) := FR.out.cell 0 2 rfl rfl rfl
  go_enter Try.func16, Try.ntmps16
  go_wp2
  go_ret
  exact ⟨rfl, FR.out.out⟩
set_option maxRecDepth 100000 in
set_option maxHeartbeats 8000000 in
theorem ntRight_any (A : Option Addr) (n c : Nat) (ws : List Wt) (wa to : Int) (w : World) (hx : Wts w A n c ws) (hn : n ≤ 16384) (hb : NB (wa, to, ws)) :
    Calls Try.prog 14 #[.agg #[.int .u32 wa, .int .u32 to, .slice A n c]] w (YesN w (rightN (wa, to, ws))) := by
  have hlen := hx.len
  have RX := Lib.hid hx
  have HL := Lib.hid hlen
  have NBH := Lib.hid hb
  have FA := Lib.hid (fun (W : World) (h : Wts W A n c ws) => ntCount_any A n c ws wa to W h hn hb)
  obtain ⟨r, hr⟩ : ∃ r, far to wa = r := ⟨_, rfl⟩
  rw [hr] at FA
  obtain ⟨R, hR⟩ : ∃ R, rightN (wa, to, ws) = R := ⟨_, rfl⟩
  rw [hR]
  have hmm := @run_makeMap Try.prog
  clear hx hb
  obtain ⟨v1, hv1⟩ : ∃ W, w.alloc (.cells #[.int .u32 wa, .int .u32 to, .slice A n c] 25) = W := ⟨_, rfl⟩
  have fr1 : Fr w v1 w.heap.size [.cells #[.int .u32 wa, .int .u32 to, .slice A n c] 25] := hv1 ▸ Fr.first w _
  have z1 : v1.heap.size = w.heap.size + 1 := by rw [← hv1, Fr.size1]
  generalize hq : w.heap.size = q at *
  have FR := Lib.hid fr1
  clear fr1
  by_cases h1 : 1000 < r
  · have b0 : decide (1000 < r) = true := by simpa using h1
    have HE := Lib.hid (show R = false from by rw [← hR]; exact rightN_no (fun h => by have h2 : far to wa ≤ 1000 := h.1; omega))
    clear h1 hr hR hlen
    go_enter Try.func14, Try.ntmps14
    have c00 : v1.cell? ⟨q, 0, none⟩ = some (.int .u32 wa) := FR.out.cell 0 0 rfl rfl rfl
    have c01 : v1.cell? ⟨q, 1, none⟩ = some (.int .u32 to) := FR.out.cell 0 1 rfl rfl rfl
    have c02 : v1.cell? ⟨q, 2, none⟩ = some (.slice A n c) := FR.out.cell 0 2 rfl rfl rfl
    go_wp2_with fail
    refine ((FA.out _ (FR.out.es RX.out))).mono ?_
    rintro e w2 ⟨rfl, hb⟩
    clear c00 c01 c02
    replace FR := Lib.hid (FR.out.step hb)
    clear hb
    have c00 : w2.cell? ⟨q, 0, none⟩ = some (.int .u32 wa) := FR.out.cell 0 0 rfl rfl rfl
    have c01 : w2.cell? ⟨q, 1, none⟩ = some (.int .u32 to) := FR.out.cell 0 1 rfl rfl rfl
    have c02 : w2.cell? ⟨q, 2, none⟩ = some (.slice A n c) := FR.out.cell 0 2 rfl rfl rfl
    go_wp2
    go_ret
    rw [HE.out]
    exact ⟨rfl, FR.out.out⟩
  · have b0 : decide (1000 < r) = false := by simpa using h1
    by_cases h2 : 12 < n
    · have b1 : decide ((12 : Int) < (n : Int)) = true := by simp; omega
      have b1n : decide (12 < n) = true := by simp; omega
      have HE := Lib.hid (show R = false from by rw [← hR]; exact rightN_no (fun h => by have h3 : ws.length ≤ 12 := h.2.1; omega))
      clear h1 h2 hr hR hlen
      go_enter Try.func14, Try.ntmps14
      have c00 : v1.cell? ⟨q, 0, none⟩ = some (.int .u32 wa) := FR.out.cell 0 0 rfl rfl rfl
      have c01 : v1.cell? ⟨q, 1, none⟩ = some (.int .u32 to) := FR.out.cell 0 1 rfl rfl rfl
      have c02 : v1.cell? ⟨q, 2, none⟩ = some (.slice A n c) := FR.out.cell 0 2 rfl rfl rfl
      go_wp2_with fail
      refine ((FA.out _ (FR.out.es RX.out))).mono ?_
      rintro e w2 ⟨rfl, hb⟩
      clear c00 c01 c02
      replace FR := Lib.hid (FR.out.step hb)
      clear hb
      have c00 : w2.cell? ⟨q, 0, none⟩ = some (.int .u32 wa) := FR.out.cell 0 0 rfl rfl rfl
      have c01 : w2.cell? ⟨q, 1, none⟩ = some (.int .u32 to) := FR.out.cell 0 1 rfl rfl rfl
      have c02 : w2.cell? ⟨q, 2, none⟩ = some (.slice A n c) := FR.out.cell 0 2 rfl rfl rfl
      go_wp2
      go_ret
      rw [HE.out]
      exact ⟨rfl, FR.out.out⟩
    · have b1 : decide ((12 : Int) < (n : Int)) = false := by simp; omega
      have b1n : decide (12 < n) = false := by simp; omega
      have n12 : n ≤ 12 := by omega
      have HRO := Lib.hid (show okWs (wa, to, ws) n → R = true from fun h => by rw [← hR]; exact rightN_iff.2 ⟨by show far to wa ≤ 1000; omega, by show ws.length ≤ 12; omega, by show okWs (wa, to, ws) ws.length; rw [hlen]; exact h⟩)
      have HRN := Lib.hid (show ∀ i : Nat, i < n → ¬ okW (wa, to, ws) i → R = false from fun i hi h => by rw [← hR]; exact rightN_no (fun hh => h (hh.2.2 i (by show i < ws.length; omega))))
      clear h1 h2 hr hR hlen
      go_enter Try.func14, Try.ntmps14
      have c00 : v1.cell? ⟨q, 0, none⟩ = some (.int .u32 wa) := FR.out.cell 0 0 rfl rfl rfl
      have c01 : v1.cell? ⟨q, 1, none⟩ = some (.int .u32 to) := FR.out.cell 0 1 rfl rfl rfl
      have c02 : v1.cell? ⟨q, 2, none⟩ = some (.slice A n c) := FR.out.cell 0 2 rfl rfl rfl
      go_wp2_with fail
      refine ((FA.out _ (FR.out.es RX.out))).mono ?_
      rintro e w2 ⟨rfl, hb⟩
      clear c00 c01 c02
      replace FR := Lib.hid (FR.out.step hb)
      clear hb
      have oc00 : w2.cell? ⟨q, 0, none⟩ = some (.int .u32 wa) := FR.out.cell 0 0 rfl rfl rfl
      have oc01 : w2.cell? ⟨q, 1, none⟩ = some (.int .u32 to) := FR.out.cell 0 1 rfl rfl rfl
      have oc02 : w2.cell? ⟨q, 2, none⟩ = some (.slice A n c) := FR.out.cell 0 2 rfl rfl rfl
      have gem := FR.out.sz
      simp only [List.length_cons, List.length_nil] at gem
      obtain ⟨wm, hwm⟩ : ∃ W, (w2.alloc (.map #[] 0)).alloc (.map #[] 0) = W := ⟨_, rfl⟩
      have hbm : Below w2.heap.size w2 wm := hwm ▸ ((Below.refl _ _).alloc (Nat.le_refl _) _).alloc (by simp) _
      have M1 := Lib.hid (show Cm 22 .u32 wm w2.heap.size [] from hwm ▸ (Cm.made _ _ _).alloc _)
      have M2 := Lib.hid (show Cm 3 .i64 wm (w2.heap.size + 1) [] from by have := Cm.made 3 .i64 (w2.alloc (.map #[] 0)); rw [hwm] at this; simpa using this)
      replace FR := Lib.hid (FR.out.step hbm)
      generalize hsm : w2.heap.size = sm at *
      clear hbm
      have c00 : wm.cell? ⟨q, 0, none⟩ = some (.int .u32 wa) := FR.out.cell 0 0 rfl rfl rfl
      have c01 : wm.cell? ⟨q, 1, none⟩ = some (.int .u32 to) := FR.out.cell 0 1 rfl rfl rfl
      have c02 : wm.cell? ⟨q, 2, none⟩ = some (.slice A n c) := FR.out.cell 0 2 rfl rfl rfl
      go_wp2
      clear oc00 oc01 oc02 c00 c01 c02
      clear hv1 z1 hwm
      go_loopw [21] (fun iv wr => ∃ (i : Nat), iv = .int .i64 (i : Int) ∧ i ≤ n ∧ Hid (okWs (wa, to, ws) i) ∧ Hid (Fr w wr q [.cells #[.int .u32 wa, .int .u32 to, .slice A n c] 25]) ∧ Hid (Cm 22 .u32 wr sm ((ws.take i).map Prod.fst)) ∧ Hid (Cm 3 .i64 wr (sm + 1) ((ws.take i).map Prod.snd))) (fun iv _ => n - (intOf iv).toNat)
      case atStart => exact ⟨0, rfl, by omega, fun i hi => by omega, FR.out, M1.out, M2.out⟩
      case round =>
        clear FR M1 M2
        obtain ⟨i, rfl, hi, HOK, FR, M1, M2⟩ := hrel
        by_cases hlt : i < n
        · have c1 : decide ((i : Int) < (n : Int)) = true := by simpa using hlt
          have i0 : (0 : Int) ≤ (i : Int) := by omega
          have i1 : (i : Int) < (n : Int) := by omega
          obtain ⟨b, off, rfl, hb0, k0, k1⟩ := Wts.look (ws := ws) (FR.out.es RX.out) i hlt
          clear hb0
          have hs1 := map_step (f := Prod.fst) (ws := ws) (i := i) (by have := HL.out; omega)
          have hs2 := map_step (f := Prod.snd) (ws := ws) (i := i) (by have := HL.out; omega)
          have hok := okW_iff (n := (wa, to, ws)) (i := i) (by show i ≤ ws.length; have := HL.out; omega)
          simp only at hok
          have hm := NBH.out.ws (wtAt ws i) (show wtAt ws i ∈ ws from wtAt_mem (by have := HL.out; omega))
          have hm2 := NBH.out.ts (wtAt ws i) (show wtAt ws i ∈ ws from wtAt_mem (by have := HL.out; omega))
          obtain ⟨⟨ti, ta⟩, hti⟩ : ∃ x, wtAt ws i = x := ⟨_, rfl⟩
          rw [hti] at k0 k1 hm hm2 hs1 hs2 hok
          simp only at k0 k1 hs1 hs2 hok
          have HB := Lib.hid hm
          have HBT := Lib.hid hm2
          have HTI := Lib.hid hti
          have HLT := Lib.hid hlt
          clear hm hm2 hti hlt
          have hl1 : ((ws.take i).map Prod.fst).length = i := by rw [List.length_map, List.length_take]; have := HL.out; omega
          have hl2 : ((ws.take i).map Prod.snd).length = i := by rw [List.length_map, List.length_take]; have := HL.out; omega
          obtain ⟨T1, hT1⟩ : ∃ l, ((ws.take i).map Prod.fst) = l := ⟨_, rfl⟩
          obtain ⟨T2, hT2⟩ : ∃ l, ((ws.take i).map Prod.snd) = l := ⟨_, rfl⟩
          rw [hT1] at M1 hs1 hok hl1
          rw [hT2] at M2 hs2 hok hl2
          have HS1 := Lib.hid hs1; have HS2 := Lib.hid hs2; have HOKI := Lib.hid hok
          clear hs1 hs2 hT1 hT2 hok
          have hq1 : T1.count ti ≤ T1.length := List.count_le_length
          have hq2 : T2.count ta ≤ T2.length := List.count_le_length
          have c00 : wr.cell? ⟨q, 0, none⟩ = some (.int .u32 wa) := FR.out.cell 0 0 rfl rfl rfl
          have c01 : wr.cell? ⟨q, 1, none⟩ = some (.int .u32 to) := FR.out.cell 0 1 rfl rfl rfl
          have c02 : wr.cell? ⟨q, 2, none⟩ = some (.slice (some ⟨b, off, none⟩) n c) := FR.out.cell 0 2 rfl rfl rfl
          have ged := FR.out.sz
          simp only [List.length_cons, List.length_nil] at ged
          obtain ⟨w3, hw3⟩ : ∃ W, wr.alloc (.cells #[.int .u32 ti, .int .i64 ta] 53) = W := ⟨_, rfl⟩
          have hb : Below wr.heap.size wr w3 := hw3 ▸ (Below.refl _ _).alloc (Nat.le_refl _) _
          have hv : w3.heap[wr.heap.size]? = some (.cells #[.int .u32 ti, .int .i64 ta] 53) := hw3 ▸ heap_alloc_new _ _
          replace FR := Lib.hid (FR.out.step hb)
          replace M2 := Lib.hid (M2.out.below hb)
          replace M1 := Lib.hid (M1.out.below hb)
          have Vd := Lib.hid hv
          generalize hsd : wr.heap.size = sd at *
          clear hb hv
          have w3d0 : w3.cell? ⟨sd, 0, none⟩ = some (.int .u32 ti) := (blk_cell Vd.out 0).trans rfl
          have w3d1 : w3.cell? ⟨sd, 1, none⟩ = some (.int .i64 ta) := (blk_cell Vd.out 1).trans rfl
          have hmd : sm ≠ sd := by intro h; subst h; exact absurd Vd.out (by obtain ⟨D, ⟨es, ck, hh, _⟩, _⟩ := M1.out; rw [hh]; simp)
          have hmd2 : sm + 1 ≠ sd := by intro h; subst h; exact absurd Vd.out (by obtain ⟨D, ⟨es, ck, hh, _⟩, _⟩ := M2.out; rw [hh]; simp)
          have wf1 : (Lit.int .u32 ti).wf = true := by have h1 : IntKind.u32.min = 0 := rfl; have h2 : IntKind.u32.max = 4294967295 := rfl; have h3 := HB.out; simp only [Lit.wf, h1, h2, Bool.and_eq_true, decide_eq_true_eq]; omega
          have HW2 := Lib.hid (show (Lit.int .i64 ta).wf = true from by have h1 : IntKind.i64.min = -9223372036854775808 := rfl; have h2 : IntKind.i64.max = 9223372036854775807 := rfl; have h3 := HBT.out; simp only [Lit.wf, h1, h2, Bool.and_eq_true, decide_eq_true_eq]; omega)
          obtain ⟨d1, hd1⟩ : ∃ d : Int, d = ((T1.count ti : Nat) : Int) + 1 := ⟨_, rfl⟩
          obtain ⟨d2, hd2⟩ : ∃ d : Int, d = ((T2.count ta : Nat) : Int) + 1 := ⟨_, rfl⟩
          have LK1 := M1.out.look Try.underlying57 Try.underlying22 wf1
          obtain ⟨w5, UP1, MM1, hg1⟩ := M1.out.put Try.underlying57 Try.underlying22 wf1 (by omega) hd1
          replace M1 := Lib.hid MM1
          replace M2 := Lib.hid (M2.out.kept hg1 (by simp))
          replace FR := Lib.hid (FR.out.grown hg1 (fun k hk => by cases hk; simp only [List.length_cons, List.length_nil]; omega))
          replace Vd := Lib.hid (blk_grown Vd.out hg1 (fun k hk => by cases hk; exact hmd))
          clear MM1 hg1
          have w5d0 : w5.cell? ⟨sd, 0, none⟩ = some (.int .u32 ti) := (blk_cell Vd.out 0).trans rfl
          have w5d1 : w5.cell? ⟨sd, 1, none⟩ = some (.int .i64 ta) := (blk_cell Vd.out 1).trans rfl
          have LK2 := M2.out.look Try.underlying58 Try.underlying3 HW2.out
          obtain ⟨w6, UP2, MM2, hg2⟩ := M2.out.put Try.underlying58 Try.underlying3 HW2.out (by omega) hd2
          replace M2 := Lib.hid MM2
          replace M1 := Lib.hid (M1.out.kept hg2 (by simp))
          replace FR := Lib.hid (FR.out.grown hg2 (fun k hk => by cases hk; simp only [List.length_cons, List.length_nil]; omega))
          replace Vd := Lib.hid (blk_grown Vd.out hg2 (fun k hk => by cases hk; exact hmd2))
          clear MM2 hg2
          have w6d0 : w6.cell? ⟨sd, 0, none⟩ = some (.int .u32 ti) := (blk_cell Vd.out 0).trans rfl
          have w6d1 : w6.cell? ⟨sd, 1, none⟩ = some (.int .i64 ta) := (blk_cell Vd.out 1).trans rfl
          have w6q0 : w6.cell? ⟨q, 0, none⟩ = some (.int .u32 wa) := FR.out.cell 0 0 rfl rfl rfl
          have w6q1 : w6.cell? ⟨q, 1, none⟩ = some (.int .u32 to) := FR.out.cell 0 1 rfl rfl rfl
          have w6q2 : w6.cell? ⟨q, 2, none⟩ = some (.slice (some ⟨b, off, none⟩) n c) := FR.out.cell 0 2 rfl rfl rfl
          have hx1 : (((T1 ++ [ti]).count ti : Nat) : Int) = d1 := by rw [count_end, hd1]; simp
          have hx2 : (((T2 ++ [ta]).count ta : Nat) : Int) = d2 := by rw [count_end, hd2]; simp
          have HX1 := Lib.hid hx1; have HX2 := Lib.hid hx2
          clear hx1 hx2
          obtain ⟨g1, hg1⟩ : ∃ g : Int, ((T1.count ti : Nat) : Int) = g := ⟨_, rfl⟩
          obtain ⟨g2, hg2⟩ : ∃ g : Int, ((T2.count ta : Nat) : Int) = g := ⟨_, rfl⟩
          rw [hg1] at LK1 hd1
          rw [hg2] at LK2 hd2
          have hv1 : IntKind.i64.wrap (g1 + 1) = d1 := by rw [hd1, IntKind.wrap_i64]; omega
          have hv2 : IntKind.i64.wrap (g2 + 1) = d2 := by rw [hd2, IntKind.wrap_i64]; omega
          have HC1 := Lib.hid (show 1 < d1 ↔ T1.count ti ≠ 0 by omega)
          have HC2 := Lib.hid (show 1 < d2 ↔ T2.count ta ≠ 0 by omega)
          clear hd1 hd2 hg1 hg2 hq1 hq2 hl1 hl2 wf1 hmd hmd2
          by_cases h3 : ta < 0
          · have c2 : decide (ta < 0) = true := by simpa using h3
            have HE := Lib.hid (HRN.out i HLT.out (fun h => by have h4 := HOKI.out.1 h; exact absurd h4.1 (by omega)))
            clear h3
            go_wp2
            go_ret
            rw [HE.out]
            exact ⟨rfl, FR.out.out⟩
          · have c2 : decide (ta < 0) = false := by simpa using h3
            have OU := fun (W : World) (h : Wts W (some ⟨b, off, none⟩) n c ws) => ntOut_any (some ⟨b, off, none⟩) n c ws wa to ti W h hn NBH.out HB.out.1 HB.out.2
            cases ho : outN (wa, to, ws) ti
            · rw [ho] at OU
              replace OU := Lib.hid OU
              have HE := Lib.hid (HRN.out i HLT.out (fun h => by have h4 := HOKI.out.1 h; exact absurd (decide_eq_true h4.2.1) (by unfold outN at ho; rw [ho]; simp)))
              clear h3 ho
              go_wp2_with fail
              refine (OU.out _ (FR.out.es RX.out)).mono ?_
              rintro e w7 ⟨rfl, hb⟩
              clear k0 k1 c00 c01 c02 LK1 LK2 UP1 UP2 hv1 hv2 w3d0 w3d1 w5d0 w5d1 w6d0 w6d1 w6q0 w6q1 w6q2
              replace M1 := Lib.hid (M1.out.below hb); replace M2 := Lib.hid (M2.out.below hb)
              replace FR := Lib.hid (FR.out.step hb)
              replace Vd := Lib.hid (blk_below Vd.out hb (blk_lt Vd.out))
              clear hb
              go_wp2
              go_ret
              rw [HE.out]
              exact ⟨rfl, FR.out.out⟩
            · rw [ho] at OU
              replace OU := Lib.hid OU
              have HOU := Lib.hid (of_decide_eq_true ho)
              have HT0 := Lib.hid (show 0 ≤ ta by omega)
              clear h3 ho
              go_wp2_with fail
              refine (OU.out _ (FR.out.es RX.out)).mono ?_
              rintro e w7 ⟨rfl, hb⟩
              clear k0 k1 c00 c01 c02 LK1 LK2 UP1 UP2 hv1 hv2 w3d0 w3d1 w5d0 w5d1 w6d0 w6d1 w6q0 w6q1 w6q2
              replace M1 := Lib.hid (M1.out.below hb); replace M2 := Lib.hid (M2.out.below hb)
              replace FR := Lib.hid (FR.out.step hb)
              replace Vd := Lib.hid (blk_below Vd.out hb (blk_lt Vd.out))
              clear hb
              have wf1 : (Lit.int .u32 ti).wf = true := by have h1 : IntKind.u32.min = 0 := rfl; have h2 : IntKind.u32.max = 4294967295 := rfl; have h3 := HB.out; simp only [Lit.wf, h1, h2, Bool.and_eq_true, decide_eq_true_eq]; omega
              have LK3 := M1.out.look Try.underlying57 Try.underlying22 wf1
              have LK4 := M2.out.look Try.underlying58 Try.underlying3 HW2.out
              rw [HX1.out] at LK3
              rw [HX2.out] at LK4
              clear wf1
              have c00 : w7.cell? ⟨q, 0, none⟩ = some (.int .u32 wa) := FR.out.cell 0 0 rfl rfl rfl
              have c01 : w7.cell? ⟨q, 1, none⟩ = some (.int .u32 to) := FR.out.cell 0 1 rfl rfl rfl
              have c02 : w7.cell? ⟨q, 2, none⟩ = some (.slice (some ⟨b, off, none⟩) n c) := FR.out.cell 0 2 rfl rfl rfl
              have cd0 : w7.cell? ⟨sd, 0, none⟩ = some (.int .u32 ti) := (blk_cell Vd.out 0).trans rfl
              have cd1 : w7.cell? ⟨sd, 1, none⟩ = some (.int .i64 ta) := (blk_cell Vd.out 1).trans rfl
              by_cases h5 : 1 < d1
              · have c3 : decide (1 < d1) = true := by simpa using h5
                have HE := Lib.hid (HRN.out i HLT.out (fun h => by have h4 := HOKI.out.1 h; exact HC1.out.1 h5 h4.2.2.1))
                clear h5
                go_wp2
                go_ret
                rw [HE.out]
                exact ⟨rfl, FR.out.out⟩
              · have c3 : decide (1 < d1) = false := by simpa using h5
                by_cases h6 : 1 < d2
                · have c4 : decide (1 < d2) = true := by simpa using h6
                  have HE := Lib.hid (HRN.out i HLT.out (fun h => by have h4 := HOKI.out.1 h; exact HC2.out.1 h6 h4.2.2.2))
                  clear h5 h6
                  go_wp2
                  go_ret
                  rw [HE.out]
                  exact ⟨rfl, FR.out.out⟩
                · have c4 : decide (1 < d2) = false := by simpa using h6
                  have HOK2 := Lib.hid (show okWs (wa, to, ws) (i + 1) from fun j hj => by
                    rcases Nat.lt_or_ge j i with h8 | h8
                    · exact HOK.out j h8
                    · have : j = i := by omega
                      subst this
                      exact HOKI.out.2 ⟨HT0.out, HOU.out, by have := HC1.out; omega, by have := HC2.out; omega⟩)
                  have HLI := HLT.out
                  clear h5 h6
                  go_wp2
                  go_roundw
                  case rel => exact ⟨i + 1, by go_num, by omega, HOK2, FR, HS1.out ▸ M1, HS2.out ▸ M2⟩
                  case measure => simp [intOf]; omega
        · have en : i = n := by omega
          have c1 : decide ((i : Int) < (n : Int)) = false := by simp; omega
          have c1n : decide (i < n) = false := by simp; omega
          have HE := Lib.hid (HRO.out (en ▸ HOK.out))
          clear en hlt hi
          have c00 : wr.cell? ⟨q, 0, none⟩ = some (.int .u32 wa) := FR.out.cell 0 0 rfl rfl rfl
          have c01 : wr.cell? ⟨q, 1, none⟩ = some (.int .u32 to) := FR.out.cell 0 1 rfl rfl rfl
          have c02 : wr.cell? ⟨q, 2, none⟩ = some (.slice A n c) := FR.out.cell 0 2 rfl rfl rfl
          go_wp2
          go_ret
          rw [HE.out]
          exact ⟨rfl, FR.out.out⟩
end Go.Proofs.Ytjpgmkbcjedhfaa
