/- What slices.Delete and the landed notify's own One and All answer; for lists of up to 16384 who wait. -/
import Derived.Test.YtjpgmkbcjedhfaaNotI
import Derived.Test.YtjpgmkbcjedhfaaNotD
import Derived.Test.YtjpgmkbcjedhfaaDel
namespace Go.Proofs.Ytjpgmkbcjedhfaa
set_option linter.unusedVariables false
set_option linter.unusedSimpArgs false
open Go.RowKit
theorem zeroWt (w : World) : (zeroValue 53).run Try.prog w = .ok (.agg #[.int .u32 0, .int .i64 0]) w := by kernel_rfl
theorem wtC_take : ∀ (ws : List Wt) (i : Nat), (wtC ws).take (i * 2) = wtC (ws.take i)
  | [], i => by simp [wtC]
  | x :: ws, 0 => by simp [wtC]
  | x :: ws, i + 1 => by rw [show (i + 1) * 2 = i * 2 + 2 by omega]; simp only [wtC, List.take_succ_cons]; rw [wtC_take ws i]
theorem wtC_drop : ∀ (ws : List Wt) (i : Nat), (wtC ws).drop (i * 2) = wtC (ws.drop i)
  | [], i => by simp [wtC]
  | x :: ws, 0 => by simp [wtC]
  | x :: ws, i + 1 => by rw [show (i + 1) * 2 = i * 2 + 2 by omega]; simp only [wtC, List.drop_succ_cons]; rw [wtC_drop ws i]
theorem szWts (W : World) : (sizeOf (Try.prog.elem 23)).run Try.prog W = .ok 2 W := by kernel_rfl
theorem unWts : Try.prog.underlying 23 = some (.slice (Try.prog.elem 23)) := by kernel_rfl
/-- the row but for its element i. -/
def DelN (w : World) (base n d i : Nat) (B : Option Addr) (ws : List Wt) (e : Ending) (w' : World) : Prop :=
  ∃ B' d', e = .returned (.slice B' (n - 1) d') ∧ w'.ownsRow base 53 2 (.slice B' (n - 1) d') (n - 1) (wtC (ws.take i ++ ws.drop (i + 1))) ∧ w.grownBy w' (Value.slice B n d).ownBlock
set_option maxRecDepth 100000 in
set_option maxHeartbeats 4000000 in
theorem delete11_any (B : Option Addr) (n d i base : Nat) (j : Int) (ws : List Wt) (w : World) (ho : w.ownsRow base 53 2 (.slice B n d) n (wtC ws)) (hi : i < n) (hn : n ≤ 16384) (hj : j = (i : Int) + 1) :
    Calls Try.prog 34 #[.slice B n d, .int .i64 (i : Int), .int .i64 j] w (DelN w base n d i B ws) := by
  obtain ⟨i5, hi5, hz0, hz1, hz2⟩ := info_of infoWt
  obtain ⟨g, w1, w2, rfl, hbg, hnd, hap, hcl, hown, hgr⟩ := del_one (P := Try.prog) (w := w.drew) (t := 23) Try.underlying23 hi5 hz1 zeroWt rfl rfl (wtC_one _) (by intro u hu; have hu2 : u ∈ ([.int .u32 0, .int .i64 0] : List Value) := hu; simp only [List.mem_cons, List.not_mem_nil, or_false] at hu2; rcases hu2 with rfl | rfl <;> rfl) (show w.drew.ownsRow base 53 2 (.slice B n d) n (wtC ws) from ⟨ho.1, ho.2⟩) hi
  rw [wtC_take, wtC_drop, ← wtC_app] at hown
  obtain ⟨m, hm⟩ : ∃ m, n - 1 = m := ⟨_, rfl⟩
  rw [show i + (n - (i + 1)) = m by omega] at hap
  rw [hm] at hcl
  have S1 : ∀ W : World, ∃ v, (Instr.slice 23 (.slice (some ⟨g, 0, none⟩) n d) (some (.int .i64 (i : Int))) (some (.int .i64 j)) (some (.int .i64 (n : Int)))).run Try.prog W = .ok v W := fun W => ⟨_, by rw [run_slice_lhm W _ _ _ _ unWts .i64 .i64 .i64 _ _ _ (by omega) (by omega) (by omega) (by omega), szWts]; rfl⟩
  have S2 : ∀ W : World, (Instr.slice 23 (.slice (some ⟨g, 0, none⟩) n d) none (some (.int .i64 (i : Int))) none).run Try.prog W = .ok (.slice (some ⟨g, 0, none⟩) i d) W := fun W => by rw [run_slice_h W _ _ _ _ unWts .i64 _ (by omega) (by omega), szWts]; simp [sliced, Result.andThen, add_plain]
  have S3 : ∀ W : World, (Instr.slice 23 (.slice (some ⟨g, 0, none⟩) n d) (some (.int .i64 j)) none none).run Try.prog W = .ok (.slice (some (if d = i + 1 then ⟨g, 0, none⟩ else ⟨g, (i + 1) * 2, none⟩)) (n - (i + 1)) (d - (i + 1))) W := fun W => by
    rw [run_slice_l W _ _ _ _ unWts .i64 _ (by omega) (by omega), szWts]
    have e1 : j.toNat = i + 1 := by omega
    simp only [Result.andThen, sliced, e1]
    by_cases h : d = i + 1
    · rw [if_pos h, if_pos h]
    · rw [if_neg h, if_neg h]; simp [add_plain]
  have S4 : ∀ W : World, (Instr.slice 23 (.slice (some ⟨g, 0, none⟩) m d) (some (.int .i64 (m : Int))) (some (.int .i64 (n : Int))) none).run Try.prog W = .ok (.slice (some ⟨g, m * 2, none⟩) 1 (d - m)) W := fun W => by
    rw [run_slice_lh W _ _ _ _ unWts .i64 .i64 _ _ (by omega) (by omega) (by omega), szWts]
    have e1 : (n : Int).toNat - (m : Int).toNat = 1 := by omega
    simp only [Result.andThen, sliced, e1]
    rw [if_neg (by omega)]; simp [add_plain]
  obtain ⟨A3, hA3⟩ : ∃ A : Addr, (if d = i + 1 then (⟨g, 0, none⟩ : Addr) else ⟨g, (i + 1) * 2, none⟩) = A := ⟨_, rfl⟩
  rw [hA3] at hap S3
  replace hgr : w.grownBy w2 (some g) := ⟨hgr.os, hgr.tape, hgr.output, hgr.size, hgr.block⟩
  unfold DelN
  rw [hm] at hown ⊢
  have S1w := S1 w
  obtain ⟨v1, S1v⟩ := S1w
  have b0 : ((i : Int) == j) = false := by simp; omega
  have HAP := Lib.hid hap; have HO := Lib.hid hown; have HG := Lib.hid hgr; have S5 := Lib.hid S4
  have HM := Lib.hid hm; have HCL := Lib.hid hcl; have S2h := Lib.hid S2; have S3h := Lib.hid S3
  clear S1 ho hap hown hgr hi5 hz0 hz1 hz2 hm hj hbg hcl S2 S3 S4 hA3
  go_enter Try.func34, Try.ntmps34
  go_wp2
  refine wp_region_noPanic ?_
  refine wp_region_held_drew (S := (fun wv => True)) (by kernel_rfl) (trivial) (fun hS => ?_)
  refine wpAnyH_take (i := 0) (oi := ⟨some 20, .move (.tmp 0), 23, "slices.go:232", #[], none⟩) (v := ?_) rfl (by kernel_rfl) (by kernel_rfl) (by kernel_rfl) (fun _ _ _ h => h) (Or.inl ⟨by rfl, ?_⟩) hS ?_
  rotate_left
  · intro wv _; go_simp; try with_reducible rfl
  try simp only [Act.put, List.setIfInBounds_toArray, List.set_cons_zero, List.set_cons_succ]
  refine wpAnyH_take (i := 1) (oi := ⟨some 21, .move (.tmp 1), 3, "slices.go:232", #[], none⟩) (v := ?_) rfl (by kernel_rfl) (by kernel_rfl) (by kernel_rfl) (fun _ _ _ h => h) (Or.inl ⟨by rfl, ?_⟩) hS ?_
  rotate_left
  · intro wv _; go_simp; try with_reducible rfl
  try simp only [Act.put, List.setIfInBounds_toArray, List.set_cons_zero, List.set_cons_succ]
  refine wpAnyH_take (i := 2) (oi := ⟨some 22, .slice 23 (.tmp 20) none (some (.tmp 21)) none, 23, "slices.go:232", #[⟨0, .data⟩, ⟨1, .data⟩], none⟩) (v := ?_) rfl (by kernel_rfl) (by kernel_rfl) (by kernel_rfl) (fun _ _ _ h => h) (Or.inl ⟨by rfl, ?_⟩) hS ?_
  rotate_left
  · intro wv hS; have hrun := S2h.out wv; go_simp; try with_reducible rfl
  try simp only [Act.put, List.setIfInBounds_toArray, List.set_cons_zero, List.set_cons_succ]
  refine wpAnyH_take (i := 3) (oi := ⟨some 23, .move (.tmp 0), 23, "slices.go:232", #[], none⟩) (v := ?_) rfl (by kernel_rfl) (by kernel_rfl) (by kernel_rfl) (fun _ _ _ h => h) (Or.inl ⟨by rfl, ?_⟩) hS ?_
  rotate_left
  · intro wv _; go_simp; try with_reducible rfl
  try simp only [Act.put, List.setIfInBounds_toArray, List.set_cons_zero, List.set_cons_succ]
  refine wpAnyH_take (i := 4) (oi := ⟨some 24, .move (.tmp 2), 3, "slices.go:232", #[], none⟩) (v := ?_) rfl (by kernel_rfl) (by kernel_rfl) (by kernel_rfl) (fun _ _ _ h => h) (Or.inl ⟨by rfl, ?_⟩) hS ?_
  rotate_left
  · intro wv _; go_simp; try with_reducible rfl
  try simp only [Act.put, List.setIfInBounds_toArray, List.set_cons_zero, List.set_cons_succ]
  refine wpAnyH_take (i := 5) (oi := ⟨some 25, .slice 23 (.tmp 23) (some (.tmp 24)) none none, 23, "slices.go:232", #[⟨3, .data⟩, ⟨4, .data⟩], none⟩) (v := ?_) rfl (by kernel_rfl) (by kernel_rfl) (by kernel_rfl) (fun _ _ _ h => h) (Or.inl ⟨by rfl, ?_⟩) hS ?_
  rotate_left
  · intro wv hS; have hrun := S3h.out wv; go_simp; try with_reducible rfl
  try simp only [Act.put, List.setIfInBounds_toArray, List.set_cons_zero, List.set_cons_succ]
  refine wpAnyH_ready (rs := [6]) (by kernel_rfl) (by simp) (AllReadyH.cons (o := ⟨some 26, .call { callee := .builtin .append, args := #[.tmp 22, .tmp 25], argTypes := #[23, 23] }, 23, "slices.go:232", #[⟨2, .data⟩, ⟨5, .data⟩], none⟩) rfl (fun K hK => ?_) AllReadyH.nil)
  refine op_app_run7 (by rfl) rfl rfl rfl (HAP.out _) ?_
  refine Shut.out hK _ _ hS (fun _ => ?_)
  clear hK K
  try simp only [Act.put, List.setIfInBounds_toArray, List.set_cons_zero, List.set_cons_succ]
  refine wpAnyH_take (i := 7) (oi := ⟨some 0, .assign (.tmp 26), 23, "slices.go:232", #[⟨6, .data⟩, ⟨6, .chain⟩, ⟨0, .phase⟩, ⟨1, .phase⟩, ⟨2, .phase⟩, ⟨3, .phase⟩, ⟨4, .phase⟩, ⟨5, .phase⟩, ⟨6, .phase⟩], none⟩) (v := ?_) rfl (by kernel_rfl) (by kernel_rfl) (by kernel_rfl) (fun _ _ _ h => h) (Or.inl ⟨by rfl, ?_⟩) hS ?_
  rotate_left
  · intro wv _; go_simp; try with_reducible rfl
  try simp only [Act.put, List.setIfInBounds_toArray, List.set_cons_zero, List.set_cons_succ]
  refine wpAnyH_done (by kernel_rfl) ?_ _
  refine NoPanic.normal ?_
  have S4 := S5.out
  have hcl := HCL.out
  go_wp2
  go_ret
  exact ⟨_, d, rfl, HO.out, HG.out⟩
theorem oneT_no {t : Int} : ∀ {ws : List Wt} {acc : Int}, (∀ x ∈ ws, x.1 ≠ t) → oneT t ws acc = acc
  | [], acc, _ => rfl
  | x :: ws, acc, h => by
    show oneT t ws (if x.1 = t then x.2 else acc) = acc
    rw [if_neg (h x (by simp)), oneT_no (fun y hy => h y (by simp [hy]))]
theorem butT_no {t : Int} : ∀ {ws : List Wt}, (∀ x ∈ ws, x.1 ≠ t) → butT t ws = ws
  | [], _ => rfl
  | x :: ws, h => by
    unfold butT
    rw [if_neg (h x (by simp)), butT_no (fun y hy => h y (by simp [hy]))]
theorem wt_of {ws : List Wt} {x : Wt} (h : x ∈ ws) : ∃ i : Nat, i < ws.length ∧ wtAt ws i = x := by
  obtain ⟨i, hi, e⟩ := List.mem_iff_getElem.1 h
  exact ⟨i, hi, by unfold wtAt; rw [List.getD_eq_getElem?_getD, List.getElem?_eq_getElem hi, e]; rfl⟩
theorem one_at {t : Int} : ∀ {ws : List Wt} {j : Nat} {acc : Int}, j < ws.length → (wtAt ws j).1 = t → (∀ i : Nat, i < ws.length → i ≠ j → (wtAt ws i).1 ≠ t) → oneT t ws acc = (wtAt ws j).2 ∧ butT t ws = ws.take j ++ ws.drop (j + 1)
  | [], j, acc, h, _, _ => by simp at h
  | x :: ws, 0, acc, h, h1, h2 => by
    have hno : ∀ y ∈ ws, y.1 ≠ t := fun y hy => by
      obtain ⟨i, hi, e⟩ := wt_of hy
      have := h2 (i + 1) (by simpa using hi) (by omega)
      rw [wtAt_cons, e] at this; exact this
    have h1 : x.1 = t := h1
    refine ⟨?_, ?_⟩
    · show oneT t ws (if x.1 = t then x.2 else acc) = x.2
      rw [if_pos h1, oneT_no hno]
    · unfold butT
      rw [if_pos h1, butT_no hno]; rfl
  | x :: ws, j + 1, acc, h, h1, h2 => by
    have h0 : x.1 ≠ t := h2 0 (by simp) (by omega)
    have ih := one_at (t := t) (ws := ws) (j := j) (acc := acc) (by simpa using h) (by rw [wtAt_cons] at h1; exact h1) (fun i hi hne => by have := h2 (i + 1) (by simpa using hi) (by omega); rw [wtAt_cons] at this; exact this)
    refine ⟨?_, ?_⟩
    · show oneT t ws (if x.1 = t then x.2 else acc) = _
      rw [if_neg h0]; exact ih.1
    · unfold butT
      rw [if_neg h0, ih.2]; rfl
theorem one_of {n : Nf} {j : Nat} (hr : rightN n = true) (hj : j < n.2.2.length) (h : (wtAt n.2.2 j).1 = n.2.1) : oneT n.2.1 n.2.2 (-1) = (wtAt n.2.2 j).2 ∧ butT n.2.1 n.2.2 = n.2.2.take j ++ n.2.2.drop (j + 1) := by
  have ho := (rightN_iff.1 hr).2.2
  refine one_at hj h (fun i hi hne e => ?_)
  rcases Nat.lt_or_ge i j with h1 | h1
  · exact ((ho j hj).2.2 i h1).1 (by rw [e, h])
  · exact ((ho i hi).2.2 j (by omega)).1 (by rw [e, h])
theorem far_zero {wa to : Int} (hb0 : 0 ≤ wa) (hb1 : wa < 4294967296) (h0 : 0 ≤ to) (h1 : to < 4294967296) : far to wa = 0 ↔ to = wa := by unfold far; omega
set_option maxRecDepth 100000 in
set_option maxHeartbeats 16000000 in
theorem ntOne_any (A : Option Addr) (n c : Nat) (ws : List Wt) (wa to : Int) (w : World) (hx : Wts w A n c ws) (hn : n ≤ 16384) (hb : NB (wa, to, ws)) :
    Calls Try.prog 18 #[.agg #[.int .u32 wa, .int .u32 to, .slice A n c]] w (OGotN w A n c (oneN (wa, to, ws))) := by
  have hlen := hx.len
  have RX := Lib.hid hx
  have HL := Lib.hid hlen
  have CP := Lib.hid (fun (W : World) (h : Wts W A n c ws) => ntCopied_any A n c ws wa to W h hn hb)
  have RT := fun (B : Option Addr) (d : Nat) (W : World) (h : Wts W B n d ws) => ntRight_any B n d ws wa to W h hn hb
  have CN := Lib.hid (fun (B : Option Addr) (d : Nat) (W : World) (h : Wts W B n d ws) => ntCount_any B n d ws wa to W h hn hb)
  obtain ⟨R, hR⟩ : ∃ R, oneN (wa, to, ws) = R := ⟨_, rfl⟩
  rw [hR]
  have hfz := far_zero hb.w0 hb.w1 hb.t0 hb.t1
  have ht0 := hb.t0; have ht1 := hb.t1
  clear hx
  obtain ⟨v1, hv1⟩ : ∃ W, w.alloc (.cells #[.int .u32 wa, .int .u32 to, .slice A n c] 25) = W := ⟨_, rfl⟩
  have fr1 : Fr w v1 w.heap.size [.cells #[.int .u32 wa, .int .u32 to, .slice A n c] 25] := hv1 ▸ Fr.first w _
  have z1 : v1.heap.size = w.heap.size + 1 := by rw [← hv1, Fr.size1]
  obtain ⟨v2, hv2⟩ : ∃ W, v1.alloc (.cells #[.int .u32 0, .int .u32 0, .slice none 0 0] 25) = W := ⟨_, rfl⟩
  have fr2 : Fr w v2 w.heap.size [.cells #[.int .u32 wa, .int .u32 to, .slice A n c] 25, .cells #[.int .u32 0, .int .u32 0, .slice none 0 0] 25] := hv2 ▸ fr1.more z1 _
  have z2 : v2.heap.size = w.heap.size + 2 := by rw [← hv2, Fr.size1, z1]
  generalize hq : w.heap.size = q at *
  have FR := Lib.hid fr2
  clear fr1 fr2
  cases hr : rightN (wa, to, ws)
  · rw [hr] at RT
    replace RT := Lib.hid RT
    have HE := Lib.hid (show R = ((wa, to, ws), 0, 1) by rw [← hR]; unfold oneN; rw [if_pos hr])
    clear hr hR hlen hfz hb ht0 ht1
    go_enter Try.func18, Try.ntmps18
    have CP2 := Lib.hid (CP.out _ (FR.out.es RX.out))
    have c00 : v2.cell? ⟨q, 0, none⟩ = some (.int .u32 wa) := FR.out.cell 0 0 rfl rfl rfl
    have c01 : v2.cell? ⟨q, 1, none⟩ = some (.int .u32 to) := FR.out.cell 0 1 rfl rfl rfl
    have c02 : v2.cell? ⟨q, 2, none⟩ = some (.slice A n c) := FR.out.cell 0 2 rfl rfl rfl
    have c10 : v2.cell? ⟨q + 1, 0, none⟩ = some (.int .u32 0) := FR.out.cell 1 0 rfl rfl rfl
    have c11 : v2.cell? ⟨q + 1, 1, none⟩ = some (.int .u32 0) := FR.out.cell 1 1 rfl rfl rfl
    have c12 : v2.cell? ⟨q + 1, 2, none⟩ = some (.slice none 0 0) := FR.out.cell 1 2 rfl rfl rfl
    go_wp2_with fail
    refine CP2.out.mono ?_
    rintro e w3 ⟨B, d, rfl, hown, hb⟩
    clear c00 c01 c02 c10 c11 c12
    have hsz := FR.out.sz
    simp only [List.length_cons, List.length_nil] at hsz
    replace FR := Lib.hid (FR.out.step hb)
    have OW := Lib.hid (own_base hown hsz)
    clear hb hown hsz
    have pc00 : w3.cell? ⟨q, 0, none⟩ = some (.int .u32 wa) := FR.out.cell 0 0 rfl rfl rfl
    have pf00 : w3.frozen? ⟨q, 0, none⟩ = false := FR.out.frozen 0 0 rfl rfl
    have pc01 : w3.cell? ⟨q, 1, none⟩ = some (.int .u32 to) := FR.out.cell 0 1 rfl rfl rfl
    have pf01 : w3.frozen? ⟨q, 1, none⟩ = false := FR.out.frozen 0 1 rfl rfl
    have pc02 : w3.cell? ⟨q, 2, none⟩ = some (.slice A n c) := FR.out.cell 0 2 rfl rfl rfl
    have pf02 : w3.frozen? ⟨q, 2, none⟩ = false := FR.out.frozen 0 2 rfl rfl
    have hszw4 := FR.out.sz
    simp only [List.length_cons, List.length_nil] at hszw4
    obtain ⟨w4, hw4⟩ : ∃ W, (((w3.setCell ⟨q, 0, none⟩ (.int .u32 wa)).setCell ⟨q, 1, none⟩ (.int .u32 to)).setCell ⟨q, 2, none⟩ (.slice B n d)) = W := ⟨_, rfl⟩
    replace FR := Lib.hid (show Fr w w4 q [.cells #[.int .u32 wa, .int .u32 to, .slice B n d] 25, .cells #[.int .u32 0, .int .u32 0, .slice none 0 0] 25] from hw4 ▸ (((FR.out.set 0 0 rfl rfl (.int .u32 wa)).set 0 1 rfl rfl (.int .u32 to)).set 0 2 rfl rfl (.slice B n d)))
    replace OW := Lib.hid (hw4 ▸ (own_apart (own_apart (own_apart OW.out (k := q) (o := 0) (u := .int .u32 wa) (by omega)) (k := q) (o := 1) (u := .int .u32 to) (by omega)) (k := q) (o := 2) (u := .slice B n d) (by omega)))
    have RX2 := Lib.hid (wts_own OW.out)
    have c00 : w4.cell? ⟨q, 0, none⟩ = some (.int .u32 wa) := FR.out.cell 0 0 rfl rfl rfl
    have c01 : w4.cell? ⟨q, 1, none⟩ = some (.int .u32 to) := FR.out.cell 0 1 rfl rfl rfl
    have c02 : w4.cell? ⟨q, 2, none⟩ = some (.slice B n d) := FR.out.cell 0 2 rfl rfl rfl
    go_wp2_with fail
    refine ((RT.out _ _ _ RX2.out)).mono ?_
    rintro e w5 ⟨rfl, hb⟩
    clear c00 c01 c02
    replace FR := Lib.hid (FR.out.step hb)
    replace OW := Lib.hid (own_below OW.out hb)
    clear hb
    replace RX2 := Lib.hid (wts_own OW.out)
    have c00 : w5.cell? ⟨q, 0, none⟩ = some (.int .u32 wa) := FR.out.cell 0 0 rfl rfl rfl
    have f00 : w5.frozen? ⟨q, 0, none⟩ = false := FR.out.frozen 0 0 rfl rfl
    have c01 : w5.cell? ⟨q, 1, none⟩ = some (.int .u32 to) := FR.out.cell 0 1 rfl rfl rfl
    have f01 : w5.frozen? ⟨q, 1, none⟩ = false := FR.out.frozen 0 1 rfl rfl
    have c02 : w5.cell? ⟨q, 2, none⟩ = some (.slice B n d) := FR.out.cell 0 2 rfl rfl rfl
    have f02 : w5.frozen? ⟨q, 2, none⟩ = false := FR.out.frozen 0 2 rfl rfl
    have c10 : w5.cell? ⟨q + 1, 0, none⟩ = some (.int .u32 0) := FR.out.cell 1 0 rfl rfl rfl
    have f10 : w5.frozen? ⟨q + 1, 0, none⟩ = false := FR.out.frozen 1 0 rfl rfl
    have c11 : w5.cell? ⟨q + 1, 1, none⟩ = some (.int .u32 0) := FR.out.cell 1 1 rfl rfl rfl
    have f11 : w5.frozen? ⟨q + 1, 1, none⟩ = false := FR.out.frozen 1 1 rfl rfl
    have c12 : w5.cell? ⟨q + 1, 2, none⟩ = some (.slice none 0 0) := FR.out.cell 1 2 rfl rfl rfl
    have f12 : w5.frozen? ⟨q + 1, 2, none⟩ = false := FR.out.frozen 1 2 rfl rfl
    go_wp2
    have FZ : Fr w (((w5.setCell ⟨q + 1, 0, none⟩ (.int .u32 wa)).setCell ⟨q + 1, 1, none⟩ (.int .u32 to)).setCell ⟨q + 1, 2, none⟩ (.slice B n d)) q [.cells #[.int .u32 wa, .int .u32 to, .slice B n d] 25, .cells #[.int .u32 wa, .int .u32 to, .slice B n d] 25] := (((FR.out.set 1 0 rfl rfl (.int .u32 wa)).set 1 1 rfl rfl (.int .u32 to)).set 1 2 rfl rfl (.slice B n d))
    refine bodyPost_ret (res_css Try.results18 (by rfl) (FZ.load 1 rfl rfl Try.underlying25 (by kernel_rfl))) rfl ?_
    rw [HE.out]
    have hrs := own_base (own_apart (own_apart (own_apart (OW.out) (k := q + 1) (o := 0) (u := .int .u32 wa) (by omega)) (k := q + 1) (o := 1) (u := .int .u32 to) (by omega)) (k := q + 1) (o := 2) (u := .slice B n d) (by omega)) (show w.heap.size ≤ _ from by rw [hq]; omega)
    exact ⟨_, _, _, rfl, wts_own hrs, FZ.out, Or.inl hrs⟩
  · rw [hr] at RT
    replace RT := Lib.hid RT
    have hE : R = if to = wa then ((wa, to, ws), 0, 7) else ((wa, next32 to, butT to ws), oneT to ws (-1), 0) := by rw [← hR]; unfold oneN; exact if_neg (by rw [hr]; simp)
    have HOF := Lib.hid (fun (j : Nat) (h1 : j < ws.length) (h2 : (wtAt ws j).1 = to) => one_of (n := (wa, to, ws)) hr h1 h2)
    obtain ⟨r, hfr⟩ : ∃ r, far to wa = r := ⟨_, rfl⟩
    rw [hfr] at CN hfz
    by_cases h1 : r = 0
    · have b1 : (r == 0) = true := by simp [h1]
      have HE := Lib.hid (show R = ((wa, to, ws), 0, 7) by rw [hE, if_pos (hfz.1 h1)])
      clear hE h1 hr hR hlen hfz hfr hb ht0 ht1
      go_enter Try.func18, Try.ntmps18
      have CP2 := Lib.hid (CP.out _ (FR.out.es RX.out))
      have c00 : v2.cell? ⟨q, 0, none⟩ = some (.int .u32 wa) := FR.out.cell 0 0 rfl rfl rfl
      have c01 : v2.cell? ⟨q, 1, none⟩ = some (.int .u32 to) := FR.out.cell 0 1 rfl rfl rfl
      have c02 : v2.cell? ⟨q, 2, none⟩ = some (.slice A n c) := FR.out.cell 0 2 rfl rfl rfl
      have c10 : v2.cell? ⟨q + 1, 0, none⟩ = some (.int .u32 0) := FR.out.cell 1 0 rfl rfl rfl
      have c11 : v2.cell? ⟨q + 1, 1, none⟩ = some (.int .u32 0) := FR.out.cell 1 1 rfl rfl rfl
      have c12 : v2.cell? ⟨q + 1, 2, none⟩ = some (.slice none 0 0) := FR.out.cell 1 2 rfl rfl rfl
      go_wp2_with fail
      refine CP2.out.mono ?_
      rintro e w3 ⟨B, d, rfl, hown, hb⟩
      clear c00 c01 c02 c10 c11 c12
      have hsz := FR.out.sz
      simp only [List.length_cons, List.length_nil] at hsz
      replace FR := Lib.hid (FR.out.step hb)
      have OW := Lib.hid (own_base hown hsz)
      clear hb hown hsz
      have pc00 : w3.cell? ⟨q, 0, none⟩ = some (.int .u32 wa) := FR.out.cell 0 0 rfl rfl rfl
      have pf00 : w3.frozen? ⟨q, 0, none⟩ = false := FR.out.frozen 0 0 rfl rfl
      have pc01 : w3.cell? ⟨q, 1, none⟩ = some (.int .u32 to) := FR.out.cell 0 1 rfl rfl rfl
      have pf01 : w3.frozen? ⟨q, 1, none⟩ = false := FR.out.frozen 0 1 rfl rfl
      have pc02 : w3.cell? ⟨q, 2, none⟩ = some (.slice A n c) := FR.out.cell 0 2 rfl rfl rfl
      have pf02 : w3.frozen? ⟨q, 2, none⟩ = false := FR.out.frozen 0 2 rfl rfl
      have hszw4 := FR.out.sz
      simp only [List.length_cons, List.length_nil] at hszw4
      obtain ⟨w4, hw4⟩ : ∃ W, (((w3.setCell ⟨q, 0, none⟩ (.int .u32 wa)).setCell ⟨q, 1, none⟩ (.int .u32 to)).setCell ⟨q, 2, none⟩ (.slice B n d)) = W := ⟨_, rfl⟩
      replace FR := Lib.hid (show Fr w w4 q [.cells #[.int .u32 wa, .int .u32 to, .slice B n d] 25, .cells #[.int .u32 0, .int .u32 0, .slice none 0 0] 25] from hw4 ▸ (((FR.out.set 0 0 rfl rfl (.int .u32 wa)).set 0 1 rfl rfl (.int .u32 to)).set 0 2 rfl rfl (.slice B n d)))
      replace OW := Lib.hid (hw4 ▸ (own_apart (own_apart (own_apart OW.out (k := q) (o := 0) (u := .int .u32 wa) (by omega)) (k := q) (o := 1) (u := .int .u32 to) (by omega)) (k := q) (o := 2) (u := .slice B n d) (by omega)))
      have RX2 := Lib.hid (wts_own OW.out)
      have c00 : w4.cell? ⟨q, 0, none⟩ = some (.int .u32 wa) := FR.out.cell 0 0 rfl rfl rfl
      have c01 : w4.cell? ⟨q, 1, none⟩ = some (.int .u32 to) := FR.out.cell 0 1 rfl rfl rfl
      have c02 : w4.cell? ⟨q, 2, none⟩ = some (.slice B n d) := FR.out.cell 0 2 rfl rfl rfl
      go_wp2_with fail
      refine ((RT.out _ _ _ RX2.out)).mono ?_
      rintro e w5 ⟨rfl, hb⟩
      clear c00 c01 c02
      replace FR := Lib.hid (FR.out.step hb)
      replace OW := Lib.hid (own_below OW.out hb)
      clear hb
      replace RX2 := Lib.hid (wts_own OW.out)
      have c00 : w5.cell? ⟨q, 0, none⟩ = some (.int .u32 wa) := FR.out.cell 0 0 rfl rfl rfl
      have c01 : w5.cell? ⟨q, 1, none⟩ = some (.int .u32 to) := FR.out.cell 0 1 rfl rfl rfl
      have c02 : w5.cell? ⟨q, 2, none⟩ = some (.slice B n d) := FR.out.cell 0 2 rfl rfl rfl
      go_wp2_with fail
      refine ((CN.out _ _ _ RX2.out)).mono ?_
      rintro e w6 ⟨rfl, hb⟩
      clear c00 c01 c02
      replace FR := Lib.hid (FR.out.step hb)
      replace OW := Lib.hid (own_below OW.out hb)
      clear hb
      replace RX2 := Lib.hid (wts_own OW.out)
      have c00 : w6.cell? ⟨q, 0, none⟩ = some (.int .u32 wa) := FR.out.cell 0 0 rfl rfl rfl
      have f00 : w6.frozen? ⟨q, 0, none⟩ = false := FR.out.frozen 0 0 rfl rfl
      have c01 : w6.cell? ⟨q, 1, none⟩ = some (.int .u32 to) := FR.out.cell 0 1 rfl rfl rfl
      have f01 : w6.frozen? ⟨q, 1, none⟩ = false := FR.out.frozen 0 1 rfl rfl
      have c02 : w6.cell? ⟨q, 2, none⟩ = some (.slice B n d) := FR.out.cell 0 2 rfl rfl rfl
      have f02 : w6.frozen? ⟨q, 2, none⟩ = false := FR.out.frozen 0 2 rfl rfl
      have c10 : w6.cell? ⟨q + 1, 0, none⟩ = some (.int .u32 0) := FR.out.cell 1 0 rfl rfl rfl
      have f10 : w6.frozen? ⟨q + 1, 0, none⟩ = false := FR.out.frozen 1 0 rfl rfl
      have c11 : w6.cell? ⟨q + 1, 1, none⟩ = some (.int .u32 0) := FR.out.cell 1 1 rfl rfl rfl
      have f11 : w6.frozen? ⟨q + 1, 1, none⟩ = false := FR.out.frozen 1 1 rfl rfl
      have c12 : w6.cell? ⟨q + 1, 2, none⟩ = some (.slice none 0 0) := FR.out.cell 1 2 rfl rfl rfl
      have f12 : w6.frozen? ⟨q + 1, 2, none⟩ = false := FR.out.frozen 1 2 rfl rfl
      go_wp2
      have FZ : Fr w (((w6.setCell ⟨q + 1, 0, none⟩ (.int .u32 wa)).setCell ⟨q + 1, 1, none⟩ (.int .u32 to)).setCell ⟨q + 1, 2, none⟩ (.slice B n d)) q [.cells #[.int .u32 wa, .int .u32 to, .slice B n d] 25, .cells #[.int .u32 wa, .int .u32 to, .slice B n d] 25] := (((FR.out.set 1 0 rfl rfl (.int .u32 wa)).set 1 1 rfl rfl (.int .u32 to)).set 1 2 rfl rfl (.slice B n d))
      refine bodyPost_ret (res_css Try.results18 (by rfl) (FZ.load 1 rfl rfl Try.underlying25 (by kernel_rfl))) rfl ?_
      rw [HE.out]
      have hrs := own_base (own_apart (own_apart (own_apart (OW.out) (k := q + 1) (o := 0) (u := .int .u32 wa) (by omega)) (k := q + 1) (o := 1) (u := .int .u32 to) (by omega)) (k := q + 1) (o := 2) (u := .slice B n d) (by omega)) (show w.heap.size ≤ _ from by rw [hq]; omega)
      exact ⟨_, _, _, rfl, wts_own hrs, FZ.out, Or.inl hrs⟩
    · have b1 : (r == 0) = false := by simp [h1]
      obtain ⟨nx, hnx⟩ : ∃ x, next32 to = x := ⟨_, rfl⟩
      have HE0 := Lib.hid (show R = ((wa, nx, butT to ws), oneT to ws (-1), 0) by rw [hE, if_neg (fun e => h1 (hfz.2 e)), hnx])
      have hw1 : IntKind.u32.wrap (to + 1) = nx := by rw [← hnx, IntKind.wrap_u32]; unfold next32; omega
      clear hE h1 hr hR hlen hfz hfr hb hnx ht0 ht1
      go_enter Try.func18, Try.ntmps18
      have CP2 := Lib.hid (CP.out _ (FR.out.es RX.out))
      have c00 : v2.cell? ⟨q, 0, none⟩ = some (.int .u32 wa) := FR.out.cell 0 0 rfl rfl rfl
      have c01 : v2.cell? ⟨q, 1, none⟩ = some (.int .u32 to) := FR.out.cell 0 1 rfl rfl rfl
      have c02 : v2.cell? ⟨q, 2, none⟩ = some (.slice A n c) := FR.out.cell 0 2 rfl rfl rfl
      have c10 : v2.cell? ⟨q + 1, 0, none⟩ = some (.int .u32 0) := FR.out.cell 1 0 rfl rfl rfl
      have c11 : v2.cell? ⟨q + 1, 1, none⟩ = some (.int .u32 0) := FR.out.cell 1 1 rfl rfl rfl
      have c12 : v2.cell? ⟨q + 1, 2, none⟩ = some (.slice none 0 0) := FR.out.cell 1 2 rfl rfl rfl
      go_wp2_with fail
      refine CP2.out.mono ?_
      rintro e w3 ⟨B, d, rfl, hown, hb⟩
      clear c00 c01 c02 c10 c11 c12
      have hsz := FR.out.sz
      simp only [List.length_cons, List.length_nil] at hsz
      replace FR := Lib.hid (FR.out.step hb)
      have OW := Lib.hid (own_base hown hsz)
      clear hb hown hsz
      have pc00 : w3.cell? ⟨q, 0, none⟩ = some (.int .u32 wa) := FR.out.cell 0 0 rfl rfl rfl
      have pf00 : w3.frozen? ⟨q, 0, none⟩ = false := FR.out.frozen 0 0 rfl rfl
      have pc01 : w3.cell? ⟨q, 1, none⟩ = some (.int .u32 to) := FR.out.cell 0 1 rfl rfl rfl
      have pf01 : w3.frozen? ⟨q, 1, none⟩ = false := FR.out.frozen 0 1 rfl rfl
      have pc02 : w3.cell? ⟨q, 2, none⟩ = some (.slice A n c) := FR.out.cell 0 2 rfl rfl rfl
      have pf02 : w3.frozen? ⟨q, 2, none⟩ = false := FR.out.frozen 0 2 rfl rfl
      have hszw4 := FR.out.sz
      simp only [List.length_cons, List.length_nil] at hszw4
      obtain ⟨w4, hw4⟩ : ∃ W, (((w3.setCell ⟨q, 0, none⟩ (.int .u32 wa)).setCell ⟨q, 1, none⟩ (.int .u32 to)).setCell ⟨q, 2, none⟩ (.slice B n d)) = W := ⟨_, rfl⟩
      replace FR := Lib.hid (show Fr w w4 q [.cells #[.int .u32 wa, .int .u32 to, .slice B n d] 25, .cells #[.int .u32 0, .int .u32 0, .slice none 0 0] 25] from hw4 ▸ (((FR.out.set 0 0 rfl rfl (.int .u32 wa)).set 0 1 rfl rfl (.int .u32 to)).set 0 2 rfl rfl (.slice B n d)))
      replace OW := Lib.hid (hw4 ▸ (own_apart (own_apart (own_apart OW.out (k := q) (o := 0) (u := .int .u32 wa) (by omega)) (k := q) (o := 1) (u := .int .u32 to) (by omega)) (k := q) (o := 2) (u := .slice B n d) (by omega)))
      have RX2 := Lib.hid (wts_own OW.out)
      have c00 : w4.cell? ⟨q, 0, none⟩ = some (.int .u32 wa) := FR.out.cell 0 0 rfl rfl rfl
      have c01 : w4.cell? ⟨q, 1, none⟩ = some (.int .u32 to) := FR.out.cell 0 1 rfl rfl rfl
      have c02 : w4.cell? ⟨q, 2, none⟩ = some (.slice B n d) := FR.out.cell 0 2 rfl rfl rfl
      go_wp2_with fail
      refine ((RT.out _ _ _ RX2.out)).mono ?_
      rintro e w5 ⟨rfl, hb⟩
      clear c00 c01 c02
      replace FR := Lib.hid (FR.out.step hb)
      replace OW := Lib.hid (own_below OW.out hb)
      clear hb
      replace RX2 := Lib.hid (wts_own OW.out)
      have c00 : w5.cell? ⟨q, 0, none⟩ = some (.int .u32 wa) := FR.out.cell 0 0 rfl rfl rfl
      have c01 : w5.cell? ⟨q, 1, none⟩ = some (.int .u32 to) := FR.out.cell 0 1 rfl rfl rfl
      have c02 : w5.cell? ⟨q, 2, none⟩ = some (.slice B n d) := FR.out.cell 0 2 rfl rfl rfl
      go_wp2_with fail
      refine ((CN.out _ _ _ RX2.out)).mono ?_
      rintro e w6 ⟨rfl, hb⟩
      clear c00 c01 c02
      replace FR := Lib.hid (FR.out.step hb)
      replace OW := Lib.hid (own_below OW.out hb)
      clear hb
      replace RX2 := Lib.hid (wts_own OW.out)
      have c00 : w6.cell? ⟨q, 0, none⟩ = some (.int .u32 wa) := FR.out.cell 0 0 rfl rfl rfl
      have c01 : w6.cell? ⟨q, 1, none⟩ = some (.int .u32 to) := FR.out.cell 0 1 rfl rfl rfl
      have c02 : w6.cell? ⟨q, 2, none⟩ = some (.slice B n d) := FR.out.cell 0 2 rfl rfl rfl
      go_wp2
      refine wp_region_noPanic ?_
      refine wp_region_held_drew (S := (fun wv => Hid (Fr w wv q [.cells #[.int .u32 wa, .int .u32 to, .slice B n d] 25, .cells #[.int .u32 0, .int .u32 0, .slice none 0 0] 25] ∧ wv.ownsRow (q + 2) 53 2 (.slice B n d) n (wtC ws)))) (by kernel_rfl) (Lib.hid ⟨FR.out.drew, ⟨OW.out.1, OW.out.2⟩⟩) (fun hS => ?_)
      refine wpAnyH_take (i := 0) (oi := ⟨some 19, .fieldAddr 25 (.tmp 1) 2, 0, "notify.go:74", #[], none⟩) (v := ?_) rfl (by kernel_rfl) (by kernel_rfl) (by kernel_rfl) (fun _ _ _ h => h) (Or.inl ⟨by rfl, ?_⟩) hS ?_
      rotate_left
      · intro wv _; go_simp; try with_reducible rfl
      try simp only [Act.put, List.setIfInBounds_toArray, List.set_cons_zero, List.set_cons_succ]
      refine wpAnyH_take (i := 1) (oi := ⟨some 20, .load 23 (.tmp 19), 23, "notify.go:74", #[⟨0, .data⟩], none⟩) (v := ?_) rfl (by kernel_rfl) (by kernel_rfl) (by kernel_rfl) (fun _ _ _ h => h) (Or.inl ⟨by rfl, ?_⟩) hS ?_
      rotate_left
      · intro wv hS; have hrun := (show wv.cell? ⟨q, 2, none⟩ = some (.slice B n d) from hS.out.1.cell 0 2 rfl rfl rfl); go_simp; try with_reducible rfl
      try simp only [Act.put, List.setIfInBounds_toArray, List.set_cons_zero, List.set_cons_succ]
      refine wpAnyH_take (i := 2) (oi := ⟨some 21, .fieldAddr 25 (.tmp 1) 1, 0, "notify.go:74", #[], none⟩) (v := ?_) rfl (by kernel_rfl) (by kernel_rfl) (by kernel_rfl) (fun _ _ _ h => h) (Or.inl ⟨by rfl, ?_⟩) hS ?_
      rotate_left
      · intro wv _; go_simp; try with_reducible rfl
      try simp only [Act.put, List.setIfInBounds_toArray, List.set_cons_zero, List.set_cons_succ]
      refine wpAnyH_take (i := 3) (oi := ⟨some 22, .load 22 (.tmp 21), 22, "notify.go:74", #[⟨2, .data⟩], none⟩) (v := ?_) rfl (by kernel_rfl) (by kernel_rfl) (by kernel_rfl) (fun _ _ _ h => h) (Or.inl ⟨by rfl, ?_⟩) hS ?_
      rotate_left
      · intro wv hS; have hrun := (show wv.cell? ⟨q, 1, none⟩ = some (.int .u32 to) from hS.out.1.cell 0 1 rfl rfl rfl); go_simp; try with_reducible rfl
      try simp only [Act.put, List.setIfInBounds_toArray, List.set_cons_zero, List.set_cons_succ]
      refine wpAnyH_ready (rs := [4]) (by kernel_rfl) (by simp) (AllReadyH.cons (o := ⟨some 23, .call { callee := .value (.func 31), args := #[.tmp 22], argTypes := #[22] }, 54, "notify.go:74", #[⟨3, .data⟩], none⟩) rfl (fun K hK => ?_) AllReadyH.nil)
      go_simp
      refine (ntTick_any to _).mono ?_; rintro e wx ⟨b, rfl, hcb, hbq, hb⟩
      replace hS := Lib.hid (And.intro (hS.out.1.step hb) (own_below hS.out.2 hb))
      go_wp2_with fail
      refine Shut.out hK _ _ hS (fun _ => ?_)
      clear hK K
      try simp only [Act.put, List.setIfInBounds_toArray, List.set_cons_zero, List.set_cons_succ]
      refine wpAnyH_ready (rs := [5]) (by kernel_rfl) (by simp) (AllReadyH.cons (o := ⟨some 24, .call { callee := .value (.func 33), args := #[.tmp 20, .tmp 23], argTypes := #[23, 54] }, 3, "notify.go:74", #[⟨1, .data⟩, ⟨4, .data⟩, ⟨4, .chain⟩], none⟩) rfl (fun K hK => ?_) AllReadyH.nil)
      go_simp
      refine (ntTickIndex_any _ _ _ ws _ to _ (wts_own hS.out.2) hcb hn).mono ?_; rintro e wc ⟨ix, rfl, hix, hb⟩
      replace hS := Lib.hid (And.intro (hS.out.1.step hb) (own_below hS.out.2 hb))
      go_wp2_with fail
      refine Shut.out hK _ _ hS (fun _ => ?_)
      clear hK K
      try simp only [Act.put, List.setIfInBounds_toArray, List.set_cons_zero, List.set_cons_succ]
      refine wpAnyH_take (i := 6) (oi := ⟨some 5, .assign (.tmp 24), 3, "notify.go:74", #[⟨5, .data⟩, ⟨5, .chain⟩, ⟨0, .phase⟩, ⟨1, .phase⟩, ⟨2, .phase⟩, ⟨3, .phase⟩, ⟨4, .phase⟩, ⟨5, .phase⟩], none⟩) (v := ?_) rfl (by kernel_rfl) (by kernel_rfl) (by kernel_rfl) (fun _ _ _ h => h) (Or.inl ⟨by rfl, ?_⟩) hS ?_
      rotate_left
      · intro wv _; go_simp; try with_reducible rfl
      try simp only [Act.put, List.setIfInBounds_toArray, List.set_cons_zero, List.set_cons_succ]
      refine wpAnyH_done (by kernel_rfl) ?_ _
      refine NoPanic.normal ?_
      clear c00 c01 c02
      clear FR OW
      have FR := Lib.hid hS.out.1
      have OW := Lib.hid hS.out.2
      clear hS hb hcb hbq RX2
      have c00 : wc.cell? ⟨q, 0, none⟩ = some (.int .u32 wa) := FR.out.cell 0 0 rfl rfl rfl
      have f00 : wc.frozen? ⟨q, 0, none⟩ = false := FR.out.frozen 0 0 rfl rfl
      have c01 : wc.cell? ⟨q, 1, none⟩ = some (.int .u32 to) := FR.out.cell 0 1 rfl rfl rfl
      have f01 : wc.frozen? ⟨q, 1, none⟩ = false := FR.out.frozen 0 1 rfl rfl
      have c02 : wc.cell? ⟨q, 2, none⟩ = some (.slice B n d) := FR.out.cell 0 2 rfl rfl rfl
      have f02 : wc.frozen? ⟨q, 2, none⟩ = false := FR.out.frozen 0 2 rfl rfl
      have hszx7 := FR.out.sz
      simp only [List.length_cons, List.length_nil] at hszx7
      obtain ⟨x7, hx7⟩ : ∃ W, wc.setCell ⟨q, 1, none⟩ (.int .u32 nx) = W := ⟨_, rfl⟩
      replace FR := Lib.hid (show Fr w x7 q [.cells #[.int .u32 wa, .int .u32 nx, .slice B n d] 25, .cells #[.int .u32 0, .int .u32 0, .slice none 0 0] 25] from hx7 ▸ FR.out.set 0 1 rfl rfl (.int .u32 nx))
      replace OW := Lib.hid (hx7 ▸ own_apart OW.out (k := q) (o := 1) (u := .int .u32 nx) (by omega))
      rcases hix with ⟨j, rfl, hj, hp, _⟩ | ⟨rfl, hno⟩
      · have b2 : decide ((j : Int) < 0) = false := by simp
        have hjn : j < n := by rw [← HL.out]; exact hj
        have hof := HOF.out j hj (by have h := hp; unfold ntTickP at h; simpa using h)
        have HE := Lib.hid (show R = ((wa, nx, ws.take j ++ ws.drop (j + 1)), (wtAt ws j).2, 0) by rw [HE0.out, hof.1, hof.2])
        clear hof hp HE0 HOF
        obtain ⟨b, off, rfl, hb0, k0, k1⟩ := Wts.look (ws := ws) (wts_own OW.out) j hjn
        clear hb0 k0
        obtain ⟨tb, htb⟩ : ∃ x, (wtAt ws j).2 = x := ⟨_, rfl⟩
        rw [htb] at k1 HE
        have i0 : (0 : Int) ≤ (j : Int) := by omega
        have i1 : (j : Int) < (n : Int) := by omega
        have c00 : x7.cell? ⟨q, 0, none⟩ = some (.int .u32 wa) := FR.out.cell 0 0 rfl rfl rfl
        have c01 : x7.cell? ⟨q, 1, none⟩ = some (.int .u32 nx) := FR.out.cell 0 1 rfl rfl rfl
        have c02 : x7.cell? ⟨q, 2, none⟩ = some (.slice (some ⟨b, off, none⟩) n d) := FR.out.cell 0 2 rfl rfl rfl
        have c10 : x7.cell? ⟨q + 1, 0, none⟩ = some (.int .u32 0) := FR.out.cell 1 0 rfl rfl rfl
        have c11 : x7.cell? ⟨q + 1, 1, none⟩ = some (.int .u32 0) := FR.out.cell 1 1 rfl rfl rfl
        have c12 : x7.cell? ⟨q + 1, 2, none⟩ = some (.slice none 0 0) := FR.out.cell 1 2 rfl rfl rfl
        go_wp2_with fail
        refine (delete11_any _ n d j (q + 2) _ ws _ OW.out hjn hn (by omega)).mono ?_
        rintro e w9 ⟨B2, d2, rfl, hown, hgr⟩
        clear c00 c01 c02 c10 c11 c12
        replace FR := Lib.hid (FR.out.grown hgr (fun k hk => (OW.out.lt k hk).1))
        have OW9 := Lib.hid hown
        clear OW hown hgr k1 htb
        have c00 : w9.cell? ⟨q, 0, none⟩ = some (.int .u32 wa) := FR.out.cell 0 0 rfl rfl rfl
        have f00 : w9.frozen? ⟨q, 0, none⟩ = false := FR.out.frozen 0 0 rfl rfl
        have c01 : w9.cell? ⟨q, 1, none⟩ = some (.int .u32 nx) := FR.out.cell 0 1 rfl rfl rfl
        have f01 : w9.frozen? ⟨q, 1, none⟩ = false := FR.out.frozen 0 1 rfl rfl
        have c02 : w9.cell? ⟨q, 2, none⟩ = some (.slice (some ⟨b, off, none⟩) n d) := FR.out.cell 0 2 rfl rfl rfl
        have f02 : w9.frozen? ⟨q, 2, none⟩ = false := FR.out.frozen 0 2 rfl rfl
        have c10 : w9.cell? ⟨q + 1, 0, none⟩ = some (.int .u32 0) := FR.out.cell 1 0 rfl rfl rfl
        have f10 : w9.frozen? ⟨q + 1, 0, none⟩ = false := FR.out.frozen 1 0 rfl rfl
        have c11 : w9.cell? ⟨q + 1, 1, none⟩ = some (.int .u32 0) := FR.out.cell 1 1 rfl rfl rfl
        have f11 : w9.frozen? ⟨q + 1, 1, none⟩ = false := FR.out.frozen 1 1 rfl rfl
        have c12 : w9.cell? ⟨q + 1, 2, none⟩ = some (.slice none 0 0) := FR.out.cell 1 2 rfl rfl rfl
        have f12 : w9.frozen? ⟨q + 1, 2, none⟩ = false := FR.out.frozen 1 2 rfl rfl
        go_wp2
        have FZ : Fr w ((((w9.setCell ⟨q, 2, none⟩ (.slice B2 (n - 1) d2)).setCell ⟨q + 1, 0, none⟩ (.int .u32 wa)).setCell ⟨q + 1, 1, none⟩ (.int .u32 nx)).setCell ⟨q + 1, 2, none⟩ (.slice B2 (n - 1) d2)) q [.cells #[.int .u32 wa, .int .u32 nx, .slice B2 (n - 1) d2] 25, .cells #[.int .u32 wa, .int .u32 nx, .slice B2 (n - 1) d2] 25] := ((((FR.out.set 0 2 rfl rfl (.slice B2 (n - 1) d2)).set 1 0 rfl rfl (.int .u32 wa)).set 1 1 rfl rfl (.int .u32 nx)).set 1 2 rfl rfl (.slice B2 (n - 1) d2))
        refine bodyPost_ret (res_css Try.results18 (by rfl) (FZ.load 1 rfl rfl Try.underlying25 (by kernel_rfl))) rfl ?_
        rw [HE.out]
        have hrs := own_base (own_apart (own_apart (own_apart (own_apart (OW9.out) (k := q) (o := 2) (u := .slice B2 (n - 1) d2) (by omega)) (k := q + 1) (o := 0) (u := .int .u32 wa) (by omega)) (k := q + 1) (o := 1) (u := .int .u32 nx) (by omega)) (k := q + 1) (o := 2) (u := .slice B2 (n - 1) d2) (by omega)) (show w.heap.size ≤ _ from by rw [hq]; omega)
        exact ⟨_, _, _, rfl, wts_own hrs, FZ.out, Or.inl hrs⟩
      · have hno2 : ∀ x ∈ ws, x.1 ≠ to := fun x hx e => by
          obtain ⟨i, hi, e2⟩ := wt_of hx
          have h3 := hno i hi
          unfold ntTickP at h3
          rw [e2] at h3
          simp [e] at h3
        have HE := Lib.hid (show R = ((wa, nx, ws), -1, 0) by rw [HE0.out, oneT_no hno2, butT_no hno2])
        clear hno hno2 HE0 HOF
        have c00 : x7.cell? ⟨q, 0, none⟩ = some (.int .u32 wa) := FR.out.cell 0 0 rfl rfl rfl
        have f00 : x7.frozen? ⟨q, 0, none⟩ = false := FR.out.frozen 0 0 rfl rfl
        have c01 : x7.cell? ⟨q, 1, none⟩ = some (.int .u32 nx) := FR.out.cell 0 1 rfl rfl rfl
        have f01 : x7.frozen? ⟨q, 1, none⟩ = false := FR.out.frozen 0 1 rfl rfl
        have c02 : x7.cell? ⟨q, 2, none⟩ = some (.slice B n d) := FR.out.cell 0 2 rfl rfl rfl
        have f02 : x7.frozen? ⟨q, 2, none⟩ = false := FR.out.frozen 0 2 rfl rfl
        have c10 : x7.cell? ⟨q + 1, 0, none⟩ = some (.int .u32 0) := FR.out.cell 1 0 rfl rfl rfl
        have f10 : x7.frozen? ⟨q + 1, 0, none⟩ = false := FR.out.frozen 1 0 rfl rfl
        have c11 : x7.cell? ⟨q + 1, 1, none⟩ = some (.int .u32 0) := FR.out.cell 1 1 rfl rfl rfl
        have f11 : x7.frozen? ⟨q + 1, 1, none⟩ = false := FR.out.frozen 1 1 rfl rfl
        have c12 : x7.cell? ⟨q + 1, 2, none⟩ = some (.slice none 0 0) := FR.out.cell 1 2 rfl rfl rfl
        have f12 : x7.frozen? ⟨q + 1, 2, none⟩ = false := FR.out.frozen 1 2 rfl rfl
        go_wp2
        have FZ : Fr w (((x7.setCell ⟨q + 1, 0, none⟩ (.int .u32 wa)).setCell ⟨q + 1, 1, none⟩ (.int .u32 nx)).setCell ⟨q + 1, 2, none⟩ (.slice B n d)) q [.cells #[.int .u32 wa, .int .u32 nx, .slice B n d] 25, .cells #[.int .u32 wa, .int .u32 nx, .slice B n d] 25] := (((FR.out.set 1 0 rfl rfl (.int .u32 wa)).set 1 1 rfl rfl (.int .u32 nx)).set 1 2 rfl rfl (.slice B n d))
        refine bodyPost_ret (res_css Try.results18 (by rfl) (FZ.load 1 rfl rfl Try.underlying25 (by kernel_rfl))) rfl ?_
        rw [HE.out]
        have hrs := own_base (own_apart (own_apart (own_apart (OW.out) (k := q + 1) (o := 0) (u := .int .u32 wa) (by omega)) (k := q + 1) (o := 1) (u := .int .u32 nx) (by omega)) (k := q + 1) (o := 2) (u := .slice B n d) (by omega)) (show w.heap.size ≤ _ from by rw [hq]; omega)
        exact ⟨_, _, _, rfl, wts_own hrs, FZ.out, Or.inl hrs⟩
set_option maxRecDepth 100000 in
set_option maxHeartbeats 8000000 in
theorem ntAll_any (A : Option Addr) (n c : Nat) (ws : List Wt) (wa to : Int) (w : World) (hx : Wts w A n c ws) (hn : n ≤ 16384) (hb : NB (wa, to, ws)) :
    Calls Try.prog 20 #[.agg #[.int .u32 wa, .int .u32 to, .slice A n c]] w (LGotN w A n c (allN (wa, to, ws))) := by
  obtain ⟨i5, hi5, hz0, hz1, hz2⟩ := info_of infoInt
  have HI := Lib.hid hi5; have HZ0 := Lib.hid hz0; have HZ1 := Lib.hid hz1; have HZ2 := Lib.hid hz2
  clear hi5 hz0 hz1 hz2
  have hlen := hx.len
  have RX := Lib.hid hx
  have HL := Lib.hid hlen
  have CP := Lib.hid (fun (W : World) (h : Wts W A n c ws) => ntCopied_any A n c ws wa to W h hn hb)
  have RT := fun (B : Option Addr) (d : Nat) (W : World) (h : Wts W B n d ws) => ntRight_any B n d ws wa to W h hn hb
  have CN := Lib.hid (fun (B : Option Addr) (d : Nat) (W : World) (h : Wts W B n d ws) => ntCount_any B n d ws wa to W h hn hb)
  obtain ⟨R, hR⟩ : ∃ R, allN (wa, to, ws) = R := ⟨_, rfl⟩
  rw [hR]
  clear hx hb
  obtain ⟨v1, hv1⟩ : ∃ W, w.alloc (.cells #[.int .u32 wa, .int .u32 to, .slice A n c] 25) = W := ⟨_, rfl⟩
  have fr1 : Fr w v1 w.heap.size [.cells #[.int .u32 wa, .int .u32 to, .slice A n c] 25] := hv1 ▸ Fr.first w _
  have z1 : v1.heap.size = w.heap.size + 1 := by rw [← hv1, Fr.size1]
  obtain ⟨v2, hv2⟩ : ∃ W, v1.alloc (.cells #[.int .u32 0, .int .u32 0, .slice none 0 0] 25) = W := ⟨_, rfl⟩
  have fr2 : Fr w v2 w.heap.size [.cells #[.int .u32 wa, .int .u32 to, .slice A n c] 25, .cells #[.int .u32 0, .int .u32 0, .slice none 0 0] 25] := hv2 ▸ fr1.more z1 _
  have z2 : v2.heap.size = w.heap.size + 2 := by rw [← hv2, Fr.size1, z1]
  generalize hq : w.heap.size = q at *
  have FR := Lib.hid fr2
  clear fr1 fr2
  cases hr : rightN (wa, to, ws)
  · rw [hr] at RT
    replace RT := Lib.hid RT
    have HE := Lib.hid (show R = ((wa, to, ws), [], 1) by rw [← hR]; unfold allN; rw [if_pos hr])
    clear hr hR hlen
    go_enter Try.func20, Try.ntmps20
    have c00 : v2.cell? ⟨q, 0, none⟩ = some (.int .u32 wa) := FR.out.cell 0 0 rfl rfl rfl
    have c01 : v2.cell? ⟨q, 1, none⟩ = some (.int .u32 to) := FR.out.cell 0 1 rfl rfl rfl
    have c02 : v2.cell? ⟨q, 2, none⟩ = some (.slice A n c) := FR.out.cell 0 2 rfl rfl rfl
    have c10 : v2.cell? ⟨q + 1, 0, none⟩ = some (.int .u32 0) := FR.out.cell 1 0 rfl rfl rfl
    have c11 : v2.cell? ⟨q + 1, 1, none⟩ = some (.int .u32 0) := FR.out.cell 1 1 rfl rfl rfl
    have c12 : v2.cell? ⟨q + 1, 2, none⟩ = some (.slice none 0 0) := FR.out.cell 1 2 rfl rfl rfl
    go_wp2_with fail
    refine ((RT.out _ _ _ (FR.out.es RX.out))).mono ?_
    rintro e w3 ⟨rfl, hb⟩
    clear c00 c01 c02 c10 c11 c12
    replace FR := Lib.hid (FR.out.step hb)
    clear hb
    have c00 : w3.cell? ⟨q, 0, none⟩ = some (.int .u32 wa) := FR.out.cell 0 0 rfl rfl rfl
    have c01 : w3.cell? ⟨q, 1, none⟩ = some (.int .u32 to) := FR.out.cell 0 1 rfl rfl rfl
    have c02 : w3.cell? ⟨q, 2, none⟩ = some (.slice A n c) := FR.out.cell 0 2 rfl rfl rfl
    have c10 : w3.cell? ⟨q + 1, 0, none⟩ = some (.int .u32 0) := FR.out.cell 1 0 rfl rfl rfl
    have c11 : w3.cell? ⟨q + 1, 1, none⟩ = some (.int .u32 0) := FR.out.cell 1 1 rfl rfl rfl
    have c12 : w3.cell? ⟨q + 1, 2, none⟩ = some (.slice none 0 0) := FR.out.cell 1 2 rfl rfl rfl
    go_wp2_with fail
    refine (CP.out _ (FR.out.es RX.out)).mono ?_
    rintro e w9 ⟨B, d, rfl, hown, hb⟩
    clear c00 c01 c02 c10 c11 c12
    have hsz := FR.out.sz
    simp only [List.length_cons, List.length_nil] at hsz
    replace FR := Lib.hid (FR.out.step hb)
    have OW := Lib.hid (own_base hown hsz)
    clear hb hown hsz
    have c00 : w9.cell? ⟨q, 0, none⟩ = some (.int .u32 wa) := FR.out.cell 0 0 rfl rfl rfl
    have f00 : w9.frozen? ⟨q, 0, none⟩ = false := FR.out.frozen 0 0 rfl rfl
    have c01 : w9.cell? ⟨q, 1, none⟩ = some (.int .u32 to) := FR.out.cell 0 1 rfl rfl rfl
    have f01 : w9.frozen? ⟨q, 1, none⟩ = false := FR.out.frozen 0 1 rfl rfl
    have c02 : w9.cell? ⟨q, 2, none⟩ = some (.slice A n c) := FR.out.cell 0 2 rfl rfl rfl
    have f02 : w9.frozen? ⟨q, 2, none⟩ = false := FR.out.frozen 0 2 rfl rfl
    have c10 : w9.cell? ⟨q + 1, 0, none⟩ = some (.int .u32 0) := FR.out.cell 1 0 rfl rfl rfl
    have f10 : w9.frozen? ⟨q + 1, 0, none⟩ = false := FR.out.frozen 1 0 rfl rfl
    have c11 : w9.cell? ⟨q + 1, 1, none⟩ = some (.int .u32 0) := FR.out.cell 1 1 rfl rfl rfl
    have f11 : w9.frozen? ⟨q + 1, 1, none⟩ = false := FR.out.frozen 1 1 rfl rfl
    have c12 : w9.cell? ⟨q + 1, 2, none⟩ = some (.slice none 0 0) := FR.out.cell 1 2 rfl rfl rfl
    have f12 : w9.frozen? ⟨q + 1, 2, none⟩ = false := FR.out.frozen 1 2 rfl rfl
    go_wp2
    have FZ : Fr w (((w9.setCell ⟨q + 1, 0, none⟩ (.int .u32 wa)).setCell ⟨q + 1, 1, none⟩ (.int .u32 to)).setCell ⟨q + 1, 2, none⟩ (.slice B n d)) q [.cells #[.int .u32 wa, .int .u32 to, .slice A n c] 25, .cells #[.int .u32 wa, .int .u32 to, .slice B n d] 25] := (((FR.out.set 1 0 rfl rfl (.int .u32 wa)).set 1 1 rfl rfl (.int .u32 to)).set 1 2 rfl rfl (.slice B n d))
    refine bodyPost_ret (res_css Try.results20 (by rfl) (FZ.load 1 rfl rfl Try.underlying25 (by kernel_rfl))) rfl ?_
    rw [HE.out]
    have hrs := own_base (own_apart (own_apart (own_apart (OW.out) (k := q + 1) (o := 0) (u := .int .u32 wa) (by omega)) (k := q + 1) (o := 1) (u := .int .u32 to) (by omega)) (k := q + 1) (o := 2) (u := .slice B n d) (by omega)) (show w.heap.size ≤ _ from by rw [hq]; omega)
    exact ⟨_, _, _, none, 0, 0, rfl, wts_own hrs, World.ownsRow_nil _ _ _ _, FZ.out, Or.inl hrs⟩
  · rw [hr] at RT
    replace RT := Lib.hid RT
    have HE := Lib.hid (show R = ((wa, wa, []), ws.map (·.2), 0) by rw [← hR]; unfold allN; exact if_neg (by rw [hr]; simp))
    clear hr hR hlen
    go_enter Try.func20, Try.ntmps20
    have c00 : v2.cell? ⟨q, 0, none⟩ = some (.int .u32 wa) := FR.out.cell 0 0 rfl rfl rfl
    have c01 : v2.cell? ⟨q, 1, none⟩ = some (.int .u32 to) := FR.out.cell 0 1 rfl rfl rfl
    have c02 : v2.cell? ⟨q, 2, none⟩ = some (.slice A n c) := FR.out.cell 0 2 rfl rfl rfl
    have c10 : v2.cell? ⟨q + 1, 0, none⟩ = some (.int .u32 0) := FR.out.cell 1 0 rfl rfl rfl
    have c11 : v2.cell? ⟨q + 1, 1, none⟩ = some (.int .u32 0) := FR.out.cell 1 1 rfl rfl rfl
    have c12 : v2.cell? ⟨q + 1, 2, none⟩ = some (.slice none 0 0) := FR.out.cell 1 2 rfl rfl rfl
    go_wp2_with fail
    refine ((RT.out _ _ _ (FR.out.es RX.out))).mono ?_
    rintro e w3 ⟨rfl, hb⟩
    clear c00 c01 c02 c10 c11 c12
    replace FR := Lib.hid (FR.out.step hb)
    clear hb
    have c00 : w3.cell? ⟨q, 0, none⟩ = some (.int .u32 wa) := FR.out.cell 0 0 rfl rfl rfl
    have c01 : w3.cell? ⟨q, 1, none⟩ = some (.int .u32 to) := FR.out.cell 0 1 rfl rfl rfl
    have c02 : w3.cell? ⟨q, 2, none⟩ = some (.slice A n c) := FR.out.cell 0 2 rfl rfl rfl
    have c10 : w3.cell? ⟨q + 1, 0, none⟩ = some (.int .u32 0) := FR.out.cell 1 0 rfl rfl rfl
    have c11 : w3.cell? ⟨q + 1, 1, none⟩ = some (.int .u32 0) := FR.out.cell 1 1 rfl rfl rfl
    have c12 : w3.cell? ⟨q + 1, 2, none⟩ = some (.slice none 0 0) := FR.out.cell 1 2 rfl rfl rfl
    go_wp2
    clear c00 c01 c02 c10 c11 c12
    clear hv1 hv2 z1 z2
    go_loopw [5, 16] (fun ov iv wr => ∃ (i : Nat), iv = .int .i64 (i : Int) ∧ i ≤ n ∧ lenV ov = i ∧ Hid (Fr w wr q [.cells #[.int .u32 wa, .int .u32 to, .slice A n c] 25, .cells #[.int .u32 0, .int .u32 0, .slice none 0 0] 25]) ∧ Hid (wr.ownsRow (q + 2) 3 1 ov i (intC ((ws.map (·.2)).take i)))) (fun _ iv _ => n - (intOf iv).toNat)
    case atStart => exact ⟨0, rfl, by omega, rfl, FR.out, World.ownsRow_nil _ _ _ _⟩
    case round =>
      clear FR
      obtain ⟨i, rfl, hi, hlv, FR, OW⟩ := hrel
      obtain ⟨C2, d2, rfl, hit⟩ := Es.of_own OW.out (intC_one _)
      clear hit hlv
      by_cases hlt : i < n
      · have c1 : decide ((i : Int) < (n : Int)) = true := by simpa using hlt
        have i0 : (0 : Int) ≤ (i : Int) := by omega
        have i1 : (i : Int) < (n : Int) := by omega
        obtain ⟨b, off, rfl, hb0, k0, k1⟩ := Wts.look (ws := ws) (FR.out.es RX.out) i hlt
        clear hb0
        have htk : (ws.map (·.2)).take (i + 1) = (ws.map (·.2)).take i ++ [(wtAt ws i).2] := by rw [← List.map_take, take_wt (by have := HL.out; omega), List.map_append, List.map_take]; rfl
        obtain ⟨⟨ti, tb⟩, htb⟩ : ∃ x, wtAt ws i = x := ⟨_, rfl⟩
        rw [htb] at k0 k1 htk
        simp only at k0 k1 htk
        have c00 : wr.cell? ⟨q, 0, none⟩ = some (.int .u32 wa) := FR.out.cell 0 0 rfl rfl rfl
        have c01 : wr.cell? ⟨q, 1, none⟩ = some (.int .u32 to) := FR.out.cell 0 1 rfl rfl rfl
        have c02 : wr.cell? ⟨q, 2, none⟩ = some (.slice (some ⟨b, off, none⟩) n c) := FR.out.cell 0 2 rfl rfl rfl
        have c10 : wr.cell? ⟨q + 1, 0, none⟩ = some (.int .u32 0) := FR.out.cell 1 0 rfl rfl rfl
        have c11 : wr.cell? ⟨q + 1, 1, none⟩ = some (.int .u32 0) := FR.out.cell 1 1 rfl rfl rfl
        have c12 : wr.cell? ⟨q + 1, 2, none⟩ = some (.slice none 0 0) := FR.out.cell 1 2 rfl rfl rfl
        have ged := FR.out.sz
        simp only [List.length_cons, List.length_nil] at ged
        obtain ⟨w4, hw4⟩ : ∃ W, wr.alloc (.cells #[.int .u32 ti, .int .i64 tb] 53) = W := ⟨_, rfl⟩
        have hb : Below wr.heap.size wr w4 := hw4 ▸ (Below.refl _ _).alloc (Nat.le_refl _) _
        have hv : w4.heap[wr.heap.size]? = some (.cells #[.int .u32 ti, .int .i64 tb] 53) := hw4 ▸ heap_alloc_new _ _
        replace FR := Lib.hid (FR.out.step hb)
        replace OW := Lib.hid (own_below OW.out hb)
        have Vd := Lib.hid hv
        generalize hsd : wr.heap.size = sd at *
        clear hb hv
        have hsz := FR.out.sz
        simp only [List.length_cons, List.length_nil] at hsz
        obtain ⟨A4, c4, w9, hap4, hown4, hbel4⟩ := eapp_lit (P := Try.prog) (ty := 39) (w0 := w4) (base := q + 2) (W := w4) Try.underlying39 HI.out HZ0.out HZ1.out HZ2.out rfl (by decide) OW.out (intC_one _) (intC [tb]) (intC_one _) (m := 1) rfl (by unfold maxLen; omega) (by omega) (Below.refl _ w4) hsz
        rw [← intC_app, ← htk] at hown4
        have FR9 := Lib.hid (show Fr w w9 q [.cells #[.int .u32 wa, .int .u32 to, .slice (some ⟨b, off, none⟩) n c] 25, .cells #[.int .u32 0, .int .u32 0, .slice none 0 0] 25] from FR.out.over hbel4)
        have HO4 := Lib.hid hown4
        have w4d1 : w4.cell? ⟨sd, 1, none⟩ = some (.int .i64 tb) := (blk_cell Vd.out 1).trans rfl
        have d02 : w9.cell? ⟨q, 2, none⟩ = some (.slice (some ⟨b, off, none⟩) n c) := FR9.out.cell 0 2 rfl rfl rfl
        clear hown4 hbel4 OW htk htb Vd
        replace hap4 : (Builtin.append_ #[39, 39] 39 #[_, .slice (some ⟨w4.heap.size, 0, none⟩) 1 1]).run Try.prog (w4.alloc (.cells #[.int .i64 tb] 3)) = _ := hap4
        go_wp2_with (at_builtin; refine eapp_run (by rfl) rfl rfl rfl hap4 ?_)
        go_roundw
        case rel => exact ⟨i + 1, by go_num, by omega, rfl, FR9.out, HO4.out⟩
        case measure => simp [intOf]; omega
      · have en : i = n := by omega
        have c1 : decide ((i : Int) < (n : Int)) = false := by simp; omega
        have c1n : decide (i < n) = false := by simp; omega
        have OWn := Lib.hid (show wr.ownsRow (q + 2) 3 1 (.slice C2 i d2) i (intC (ws.map (·.2))) by have h := OW.out; rw [List.take_of_length_le (by rw [List.length_map, HL.out]; omega)] at h; exact h)
        replace OW := OWn
        clear OWn en hlt hi
        have c00 : wr.cell? ⟨q, 0, none⟩ = some (.int .u32 wa) := FR.out.cell 0 0 rfl rfl rfl
        have f00 : wr.frozen? ⟨q, 0, none⟩ = false := FR.out.frozen 0 0 rfl rfl
        have c01 : wr.cell? ⟨q, 1, none⟩ = some (.int .u32 to) := FR.out.cell 0 1 rfl rfl rfl
        have f01 : wr.frozen? ⟨q, 1, none⟩ = false := FR.out.frozen 0 1 rfl rfl
        have c02 : wr.cell? ⟨q, 2, none⟩ = some (.slice A n c) := FR.out.cell 0 2 rfl rfl rfl
        have f02 : wr.frozen? ⟨q, 2, none⟩ = false := FR.out.frozen 0 2 rfl rfl
        have c10 : wr.cell? ⟨q + 1, 0, none⟩ = some (.int .u32 0) := FR.out.cell 1 0 rfl rfl rfl
        have f10 : wr.frozen? ⟨q + 1, 0, none⟩ = false := FR.out.frozen 1 0 rfl rfl
        have c11 : wr.cell? ⟨q + 1, 1, none⟩ = some (.int .u32 0) := FR.out.cell 1 1 rfl rfl rfl
        have f11 : wr.frozen? ⟨q + 1, 1, none⟩ = false := FR.out.frozen 1 1 rfl rfl
        have c12 : wr.cell? ⟨q + 1, 2, none⟩ = some (.slice none 0 0) := FR.out.cell 1 2 rfl rfl rfl
        have f12 : wr.frozen? ⟨q + 1, 2, none⟩ = false := FR.out.frozen 1 2 rfl rfl
        go_wp2
        have FZ : Fr w (((wr.setCell ⟨q + 1, 0, none⟩ (.int .u32 wa)).setCell ⟨q + 1, 1, none⟩ (.int .u32 wa)).setCell ⟨q + 1, 2, none⟩ (.slice none 0 0)) q [.cells #[.int .u32 wa, .int .u32 to, .slice A n c] 25, .cells #[.int .u32 wa, .int .u32 wa, .slice none 0 0] 25] := (((FR.out.set 1 0 rfl rfl (.int .u32 wa)).set 1 1 rfl rfl (.int .u32 wa)).set 1 2 rfl rfl (.slice none 0 0))
        refine bodyPost_ret (res_css Try.results20 (by rfl) (FZ.load 1 rfl rfl Try.underlying25 (by kernel_rfl))) rfl ?_
        rw [HE.out]
        have hrs := own_base (own_apart (own_apart (own_apart (OW.out) (k := q + 1) (o := 0) (u := .int .u32 wa) (by omega)) (k := q + 1) (o := 1) (u := .int .u32 wa) (by omega)) (k := q + 1) (o := 2) (u := .slice none 0 0) (by omega)) (show w.heap.size ≤ _ from by rw [hq]; omega)
        exact ⟨none, 0, 0, _, _, _, rfl, Es.nil _ _ _ _, hrs, FZ.out, Or.inl (World.ownsRow_nil _ _ _ _)⟩
end Go.Proofs.Ytjpgmkbcjedhfaa
