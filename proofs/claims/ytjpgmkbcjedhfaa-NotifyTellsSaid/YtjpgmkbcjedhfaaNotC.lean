/- What the document's own Copy, Add and Park of layer 11 answer; for lists of up to 16384 who wait. -/
import Derived.Test.YtjpgmkbcjedhfaaNotB
namespace Go.Proofs.Ytjpgmkbcjedhfaa
set_option linter.unusedVariables false
set_option linter.unusedSimpArgs false
open Go.RowKit
/-- a list whose row is the call's own. -/
def CopyPostN (w : World) (n : Nat) (ws : List Wt) (wa to : Int) (e : Ending) (w' : World) : Prop :=
  ∃ B d, e = .returned (.agg #[.int .u32 wa, .int .u32 to, .slice B n d]) ∧ w'.ownsRow w.heap.size 53 2 (.slice B n d) n (wtC ws) ∧ Below w.heap.size w w'
/-- a list, a ticket, and what was wrong. -/
def AGotN (w : World) (A : Option Addr) (n c : Nat) (r : Nf × Int × Int) (e : Ending) (w' : World) : Prop :=
  ∃ B m d, e = .returned (.tuple #[.agg #[.int .u32 r.1.1, .int .u32 r.1.2.1, .slice B m d], .int .u32 r.2.1, .int .i64 r.2.2]) ∧ Wts w' B m d r.1.2.2 ∧ Below w.heap.size w w' ∧ (w'.ownsRow w.heap.size 53 2 (.slice B m d) m (wtC r.1.2.2) ∨ Value.slice B m d = .slice A n c)
/-- a list, and what was wrong. -/
def NGotN (w : World) (A : Option Addr) (n c : Nat) (r : Nf × Int) (e : Ending) (w' : World) : Prop :=
  ∃ B m d, e = .returned (.tuple #[.agg #[.int .u32 r.1.1, .int .u32 r.1.2.1, .slice B m d], .int .i64 r.2]) ∧ Wts w' B m d r.1.2.2 ∧ Below w.heap.size w w' ∧ (w'.ownsRow w.heap.size 53 2 (.slice B m d) m (wtC r.1.2.2) ∨ Value.slice B m d = .slice A n c)
set_option maxRecDepth 100000 in
set_option maxHeartbeats 4000000 in
theorem refCopy11_any (A : Option Addr) (n c : Nat) (ws : List Wt) (wa to : Int) (w : World) (hx : Wts w A n c ws) (hn : n ≤ 16384) :
    Calls Try.prog 8 #[.agg #[.int .u32 wa, .int .u32 to, .slice A n c]] w (CopyPostN w n ws wa to) := by
  obtain ⟨i5, hi5, hz0, hz1, hz2⟩ := info_of infoWt
  have RX := Lib.hid hx
  clear hx
  obtain ⟨v1, hv1⟩ : ∃ W, w.alloc (.cells #[.int .u32 wa, .int .u32 to, .slice A n c] 25) = W := ⟨_, rfl⟩
  have fr1 : Fr w v1 w.heap.size [.cells #[.int .u32 wa, .int .u32 to, .slice A n c] 25] := hv1 ▸ Fr.first w _
  have z1 : v1.heap.size = w.heap.size + 1 := by rw [← hv1, Fr.size1]
  obtain ⟨v2, hv2⟩ : ∃ W, v1.alloc (.cells #[.int .u32 0, .int .u32 0, .slice none 0 0] 25) = W := ⟨_, rfl⟩
  have fr2 : Fr w v2 w.heap.size [.cells #[.int .u32 wa, .int .u32 to, .slice A n c] 25, .cells #[.int .u32 0, .int .u32 0, .slice none 0 0] 25] := hv2 ▸ fr1.more z1 _
  have z2 : v2.heap.size = w.heap.size + 2 := by rw [← hv2, Fr.size1, z1]
  generalize hq : w.heap.size = q at *
  have FR := Lib.hid fr2
  clear fr1 fr2
  have own0 : (v2.drew.alloc (.cells #[] 53)).ownsRow (q + 2) 53 2 (.slice (some ⟨v2.drew.heap.size, 0, none⟩) 0 0) 0 [] := World.ownsRow_lit v2.drew #[] 0 (by show q + 2 ≤ v2.heap.size; omega) (by unfold maxLen; omega) (by simp)
  obtain ⟨v, w3, hap, hown, hgr, hvk⟩ := eapp_own (P := Try.prog) (v2.drew.alloc (.cells #[] 53)) (q + 2) 23 23 53 i5 _ 2 16 Try.underlying23 hi5 hz0 hz1 hz2 rfl (by decide) _ 0 _ own0 A n c _ (Es.alloc (Es.drew (FR.out.es RX.out)) _) (by unfold maxLen; omega) (by omega) (by simp; omega)
  rw [Nat.zero_add, List.nil_append] at hown
  have hb3 : Below (q + 2) v2 w3 := ((Below.refl _ _).drew.alloc (by show q + 2 ≤ v2.heap.size; omega) _).grown hgr (by simp; omega) (by simp [Value.ownBlock]; omega)
  obtain ⟨B, d, rfl, _⟩ := (show ∃ B d, v = .slice B n d ∧ True from by obtain ⟨B, d, h, _⟩ := Es.of_own hown (wtC_one _); exact ⟨B, d, h, trivial⟩)
  rw [show v2.drew.heap.size = q + 2 from z2] at hap
  have FR3 := Lib.hid (FR.out.step (show Below v2.heap.size v2 w3 by rw [z2]; exact hb3))
  have OW := Lib.hid hown; have HB3 := Lib.hid hb3; have HZ := Lib.hid z2
  clear hown hgr hb3 own0 hi5 hz0 hz1 hz2 hvk
  have c00 : v2.cell? ⟨q, 0, none⟩ = some (.int .u32 wa) := FR.out.cell 0 0 rfl rfl rfl
  have c01 : v2.cell? ⟨q, 1, none⟩ = some (.int .u32 to) := FR.out.cell 0 1 rfl rfl rfl
  have c02 : v2.cell? ⟨q, 2, none⟩ = some (.slice A n c) := FR.out.cell 0 2 rfl rfl rfl
  go_enter Try.func8, Try.ntmps8
  go_wp2
  refine wp_region_noPanic ?_
  refine wp_region_held_drew (S := (fun wv => Below (q + 1) v2 wv)) (by kernel_rfl) ((Below.refl (q + 1) v2).drew) (fun hS => ?_)
  refine wpAnyH_take (i := 0) (oi := ⟨some 3, .fieldAddr 25 (.tmp 1) 0, 0, "ref.go:113", #[], none⟩) (v := ?_) rfl (by kernel_rfl) (by kernel_rfl) (by kernel_rfl) (fun _ _ _ h => h) (Or.inl ⟨by rfl, ?_⟩) hS ?_
  rotate_left
  · intro wv _; go_simp; try with_reducible rfl
  try simp only [Act.put, List.setIfInBounds_toArray, List.set_cons_zero, List.set_cons_succ]
  refine wpAnyH_take (i := 1) (oi := ⟨some 4, .load 22 (.tmp 3), 22, "ref.go:113", #[⟨0, .data⟩], none⟩) (v := ?_) rfl (by kernel_rfl) (by kernel_rfl) (by kernel_rfl) (fun _ _ _ h => h) (Or.inl ⟨by rfl, ?_⟩) hS ?_
  rotate_left
  · intro wv hS; have hrun := (hS.cell (p := ⟨q, 0, none⟩) (by simp only; omega)).trans c00; go_simp; try with_reducible rfl
  try simp only [Act.put, List.setIfInBounds_toArray, List.set_cons_zero, List.set_cons_succ]
  refine wpAnyH_take (i := 2) (oi := ⟨some 5, .fieldAddr 25 (.tmp 1) 1, 0, "ref.go:113", #[], none⟩) (v := ?_) rfl (by kernel_rfl) (by kernel_rfl) (by kernel_rfl) (fun _ _ _ h => h) (Or.inl ⟨by rfl, ?_⟩) hS ?_
  rotate_left
  · intro wv _; go_simp; try with_reducible rfl
  try simp only [Act.put, List.setIfInBounds_toArray, List.set_cons_zero, List.set_cons_succ]
  refine wpAnyH_take (i := 3) (oi := ⟨some 6, .load 22 (.tmp 5), 22, "ref.go:113", #[⟨2, .data⟩], none⟩) (v := ?_) rfl (by kernel_rfl) (by kernel_rfl) (by kernel_rfl) (fun _ _ _ h => h) (Or.inl ⟨by rfl, ?_⟩) hS ?_
  rotate_left
  · intro wv hS; have hrun := (hS.cell (p := ⟨q, 1, none⟩) (by simp only; omega)).trans c01; go_simp; try with_reducible rfl
  try simp only [Act.put, List.setIfInBounds_toArray, List.set_cons_zero, List.set_cons_succ]
  refine wpAnyH_take (i := 5) (oi := ⟨some 8, .fieldAddr 25 (.tmp 1) 2, 0, "ref.go:113", #[], none⟩) (v := ?_) rfl (by kernel_rfl) (by kernel_rfl) (by kernel_rfl) (fun _ _ _ h => h) (Or.inl ⟨by rfl, ?_⟩) hS ?_
  rotate_left
  · intro wv _; go_simp; try with_reducible rfl
  try simp only [Act.put, List.setIfInBounds_toArray, List.set_cons_zero, List.set_cons_succ]
  refine wpAnyH_take (i := 6) (oi := ⟨some 9, .load 23 (.tmp 8), 23, "ref.go:113", #[⟨5, .data⟩], none⟩) (v := ?_) rfl (by kernel_rfl) (by kernel_rfl) (by kernel_rfl) (fun _ _ _ h => h) (Or.inl ⟨by rfl, ?_⟩) hS ?_
  rotate_left
  · intro wv hS; have hrun := (hS.cell (p := ⟨q, 2, none⟩) (by simp only; omega)).trans c02; go_simp; try with_reducible rfl
  try simp only [Act.put, List.setIfInBounds_toArray, List.set_cons_zero, List.set_cons_succ]
  refine wpAnyH_ready (rs := [4]) (by kernel_rfl) (by simp) (AllReadyH.cons (o := ⟨some 7, .buildSlice 23 0 #[], 23, "ref.go:113", #[], none⟩) rfl (fun K hK => ?_) AllReadyH.nil)
  go_simp
  replace hS := hS.alloc (by show q + 1 ≤ v2.heap.size; have := HZ.out; omega) (.cells #[] 53)
  refine Shut.out hK _ _ hS (fun _ => ?_)
  clear hK K
  try simp only [Act.put, List.setIfInBounds_toArray, List.set_cons_zero, List.set_cons_succ]
  refine wpAnyH_ready (rs := [7]) (by kernel_rfl) (by simp) (AllReadyH.cons (o := ⟨some 10, .call { callee := .builtin .append, args := #[.tmp 7, .tmp 9], argTypes := #[23, 23] }, 23, "ref.go:113", #[⟨4, .data⟩, ⟨6, .data⟩], none⟩) rfl (fun K hK => ?_) AllReadyH.nil)
  refine op_app_run7 (by rfl) rfl rfl rfl hap ?_
  replace hS := HB3.out.mono (show q + 1 ≤ q + 2 by omega)
  replace FR := FR3
  clear c00 c01 c02
  have c10 : w3.cell? ⟨q + 1, 0, none⟩ = some (.int .u32 0) := FR.out.cell 1 0 rfl rfl rfl
  have f10 : w3.frozen? ⟨q + 1, 0, none⟩ = false := FR.out.frozen 1 0 rfl rfl
  have c11 : w3.cell? ⟨q + 1, 1, none⟩ = some (.int .u32 0) := FR.out.cell 1 1 rfl rfl rfl
  have f11 : w3.frozen? ⟨q + 1, 1, none⟩ = false := FR.out.frozen 1 1 rfl rfl
  have c12 : w3.cell? ⟨q + 1, 2, none⟩ = some (.slice none 0 0) := FR.out.cell 1 2 rfl rfl rfl
  have f12 : w3.frozen? ⟨q + 1, 2, none⟩ = false := FR.out.frozen 1 2 rfl rfl
  refine Shut.out hK _ _ hS (fun _ => ?_)
  clear hK K
  try simp only [Act.put, List.setIfInBounds_toArray, List.set_cons_zero, List.set_cons_succ]
  refine wpAnyH_take (i := 8) (oi := ⟨some 11, .build 25 #[(0, .tmp 4), (1, .tmp 6), (2, .tmp 10)], 25, "ref.go:113", #[⟨1, .data⟩, ⟨3, .data⟩, ⟨7, .data⟩], none⟩) (v := ?_) rfl (by kernel_rfl) (by kernel_rfl) (by kernel_rfl) (fun _ _ _ h => h) (Or.inl ⟨by rfl, ?_⟩) hS ?_
  rotate_left
  · intro wv _; go_simp; try with_reducible rfl
  try simp only [Act.put, List.setIfInBounds_toArray, List.set_cons_zero, List.set_cons_succ]
  refine wpAnyH_ready (rs := [9]) (by kernel_rfl) (by simp) (AllReadyH.cons (o := ⟨none, .store 25 (.tmp 2) (.tmp 11), 0, "ref.go:113", #[⟨8, .data⟩, ⟨7, .chain⟩, ⟨0, .phase⟩, ⟨1, .phase⟩, ⟨2, .phase⟩, ⟨3, .phase⟩, ⟨4, .phase⟩, ⟨5, .phase⟩, ⟨6, .phase⟩, ⟨7, .phase⟩, ⟨8, .phase⟩], none⟩) rfl (fun K hK => ?_) AllReadyH.nil)
  go_simp
  replace hS := ((hS.setCell (by simp) (p := ⟨q + 1, 0, none⟩) (.int .u32 wa)).setCell (by simp) (p := ⟨q + 1, 1, none⟩) (.int .u32 to)).setCell (by simp) (p := ⟨q + 1, 2, none⟩) (.slice B n d)
  refine Shut.out hK _ _ hS (fun _ => ?_)
  clear hK K
  try simp only [Act.put, List.setIfInBounds_toArray, List.set_cons_zero, List.set_cons_succ]
  refine wpAnyH_done (by kernel_rfl) ?_ _
  refine NoPanic.normal ?_
  go_wp2
  have FZ : Fr w (((w3.setCell ⟨q + 1, 0, none⟩ (.int .u32 wa)).setCell ⟨q + 1, 1, none⟩ (.int .u32 to)).setCell ⟨q + 1, 2, none⟩ (.slice B n d)) q [.cells #[.int .u32 wa, .int .u32 to, .slice A n c] 25, .cells #[.int .u32 wa, .int .u32 to, .slice B n d] 25] := (((FR.out.set 1 0 rfl rfl (.int .u32 wa)).set 1 1 rfl rfl (.int .u32 to)).set 1 2 rfl rfl (.slice B n d))
  refine bodyPost_ret (res_c Try.results8 (by rfl) (FZ.load 1 rfl rfl Try.underlying25 (by kernel_rfl))) rfl ?_
  exact ⟨_, _, rfl, own_base (own_apart (own_apart (own_apart (OW.out) (k := q + 1) (o := 0) (u := .int .u32 wa) (by omega)) (k := q + 1) (o := 1) (u := .int .u32 to) (by omega)) (k := q + 1) (o := 2) (u := .slice B n d) (by omega)) (by rw [hq]; omega), FZ.out⟩
set_option maxRecDepth 100000 in
set_option maxHeartbeats 4000000 in
theorem refAdd11_any (A : Option Addr) (n c : Nat) (ws : List Wt) (wa to : Int) (w : World) (hx : Wts w A n c ws) (hn : n ≤ 16384) (hb : NB (wa, to, ws)) :
    Calls Try.prog 10 #[.agg #[.int .u32 wa, .int .u32 to, .slice A n c]] w (AGotN w A n c (addN (wa, to, ws))) := by
  have hlen := hx.len
  have RX := Lib.hid hx
  have HL := Lib.hid hlen
  have RT := fun (W : World) (h : Wts W A n c ws) => refRight11_any A n c ws wa to W h hn hb
  obtain ⟨R, hR⟩ : ∃ R, addN (wa, to, ws) = R := ⟨_, rfl⟩
  rw [hR]
  have FA := fun (W : World) => refFar_any to wa W hb.t0 hb.t1 hb.w0 hb.w1
  have hw0 := hb.w0
  clear hx
  obtain ⟨v1, hv1⟩ : ∃ W, w.alloc (.cells #[.int .u32 wa, .int .u32 to, .slice A n c] 25) = W := ⟨_, rfl⟩
  have fr1 : Fr w v1 w.heap.size [.cells #[.int .u32 wa, .int .u32 to, .slice A n c] 25] := hv1 ▸ Fr.first w _
  have z1 : v1.heap.size = w.heap.size + 1 := by rw [← hv1, Fr.size1]
  obtain ⟨v2, hv2⟩ : ∃ W, v1.alloc (.cells #[.int .u32 0, .int .u32 0, .slice none 0 0] 25) = W := ⟨_, rfl⟩
  have fr2 : Fr w v2 w.heap.size [.cells #[.int .u32 wa, .int .u32 to, .slice A n c] 25, .cells #[.int .u32 0, .int .u32 0, .slice none 0 0] 25] := hv2 ▸ fr1.more z1 _
  have z2 : v2.heap.size = w.heap.size + 2 := by rw [← hv2, Fr.size1, z1]
  generalize hq : w.heap.size = q at *
  have FR := Lib.hid fr2
  clear fr1 fr2
  cases hr : rightN (wa, to, ws)
  · rw [hr] at RT
    replace RT := Lib.hid RT
    have HE := Lib.hid (show R = ((wa, to, ws), 0, 1) by rw [← hR]; unfold addN; rw [if_pos hr])
    clear hr hR hlen FA hb hw0
    go_enter Try.func10, Try.ntmps10
    have c00 : v2.cell? ⟨q, 0, none⟩ = some (.int .u32 wa) := FR.out.cell 0 0 rfl rfl rfl
    have c01 : v2.cell? ⟨q, 1, none⟩ = some (.int .u32 to) := FR.out.cell 0 1 rfl rfl rfl
    have c02 : v2.cell? ⟨q, 2, none⟩ = some (.slice A n c) := FR.out.cell 0 2 rfl rfl rfl
    have c10 : v2.cell? ⟨q + 1, 0, none⟩ = some (.int .u32 0) := FR.out.cell 1 0 rfl rfl rfl
    have c11 : v2.cell? ⟨q + 1, 1, none⟩ = some (.int .u32 0) := FR.out.cell 1 1 rfl rfl rfl
    have c12 : v2.cell? ⟨q + 1, 2, none⟩ = some (.slice none 0 0) := FR.out.cell 1 2 rfl rfl rfl
    go_wp2_with fail
    refine ((RT.out _ (FR.out.es RX.out))).mono ?_
    rintro e w3 ⟨rfl, hb⟩
    clear c00 c01 c02 c10 c11 c12
    replace FR := Lib.hid (FR.out.step hb)
    clear hb
    have c00 : w3.cell? ⟨q, 0, none⟩ = some (.int .u32 wa) := FR.out.cell 0 0 rfl rfl rfl
    have c01 : w3.cell? ⟨q, 1, none⟩ = some (.int .u32 to) := FR.out.cell 0 1 rfl rfl rfl
    have c02 : w3.cell? ⟨q, 2, none⟩ = some (.slice A n c) := FR.out.cell 0 2 rfl rfl rfl
    have c10 : w3.cell? ⟨q + 1, 0, none⟩ = some (.int .u32 0) := FR.out.cell 1 0 rfl rfl rfl
    have f10 : w3.frozen? ⟨q + 1, 0, none⟩ = false := FR.out.frozen 1 0 rfl rfl
    have c11 : w3.cell? ⟨q + 1, 1, none⟩ = some (.int .u32 0) := FR.out.cell 1 1 rfl rfl rfl
    have f11 : w3.frozen? ⟨q + 1, 1, none⟩ = false := FR.out.frozen 1 1 rfl rfl
    have c12 : w3.cell? ⟨q + 1, 2, none⟩ = some (.slice none 0 0) := FR.out.cell 1 2 rfl rfl rfl
    have f12 : w3.frozen? ⟨q + 1, 2, none⟩ = false := FR.out.frozen 1 2 rfl rfl
    go_wp2
    have FZ : Fr w (((w3.setCell ⟨q + 1, 0, none⟩ (.int .u32 wa)).setCell ⟨q + 1, 1, none⟩ (.int .u32 to)).setCell ⟨q + 1, 2, none⟩ (.slice A n c)) q [.cells #[.int .u32 wa, .int .u32 to, .slice A n c] 25, .cells #[.int .u32 wa, .int .u32 to, .slice A n c] 25] := (((FR.out.set 1 0 rfl rfl (.int .u32 wa)).set 1 1 rfl rfl (.int .u32 to)).set 1 2 rfl rfl (.slice A n c))
    refine bodyPost_ret (res_css Try.results10 (by rfl) (FZ.load 1 rfl rfl Try.underlying25 (by kernel_rfl))) rfl ?_
    rw [HE.out]
    exact ⟨_, _, _, rfl, FZ.es RX.out, FZ.out, Or.inr rfl⟩
  · rw [hr] at RT
    replace RT := Lib.hid RT
    have hE : R = if far to wa = 1000 then ((wa, to, ws), 0, 6) else ((next32 wa, to, ws), wa, 0) := by rw [← hR]; unfold addN; exact if_neg (by rw [hr]; simp)
    obtain ⟨r, hfr⟩ : ∃ r, far to wa = r := ⟨_, rfl⟩
    rw [hfr] at FA hE
    replace FA := Lib.hid FA
    by_cases h1 : r = 1000
    · have b1 : (r == 1000) = true := by simp [h1]
      have HE := Lib.hid (show R = ((wa, to, ws), 0, 6) by rw [hE, if_pos h1])
      clear hE h1 hfr hr hR hlen hb hw0
      go_enter Try.func10, Try.ntmps10
      have c00 : v2.cell? ⟨q, 0, none⟩ = some (.int .u32 wa) := FR.out.cell 0 0 rfl rfl rfl
      have c01 : v2.cell? ⟨q, 1, none⟩ = some (.int .u32 to) := FR.out.cell 0 1 rfl rfl rfl
      have c02 : v2.cell? ⟨q, 2, none⟩ = some (.slice A n c) := FR.out.cell 0 2 rfl rfl rfl
      have c10 : v2.cell? ⟨q + 1, 0, none⟩ = some (.int .u32 0) := FR.out.cell 1 0 rfl rfl rfl
      have c11 : v2.cell? ⟨q + 1, 1, none⟩ = some (.int .u32 0) := FR.out.cell 1 1 rfl rfl rfl
      have c12 : v2.cell? ⟨q + 1, 2, none⟩ = some (.slice none 0 0) := FR.out.cell 1 2 rfl rfl rfl
      go_wp2_with fail
      refine ((RT.out _ (FR.out.es RX.out))).mono ?_
      rintro e w3 ⟨rfl, hb⟩
      clear c00 c01 c02 c10 c11 c12
      replace FR := Lib.hid (FR.out.step hb)
      clear hb
      have c00 : w3.cell? ⟨q, 0, none⟩ = some (.int .u32 wa) := FR.out.cell 0 0 rfl rfl rfl
      have c01 : w3.cell? ⟨q, 1, none⟩ = some (.int .u32 to) := FR.out.cell 0 1 rfl rfl rfl
      have c02 : w3.cell? ⟨q, 2, none⟩ = some (.slice A n c) := FR.out.cell 0 2 rfl rfl rfl
      have c10 : w3.cell? ⟨q + 1, 0, none⟩ = some (.int .u32 0) := FR.out.cell 1 0 rfl rfl rfl
      have c11 : w3.cell? ⟨q + 1, 1, none⟩ = some (.int .u32 0) := FR.out.cell 1 1 rfl rfl rfl
      have c12 : w3.cell? ⟨q + 1, 2, none⟩ = some (.slice none 0 0) := FR.out.cell 1 2 rfl rfl rfl
      go_wp2_with fail
      refine (FA.out _).mono ?_
      rintro e w4 ⟨rfl, rfl⟩
      clear c00 c01 c02 c10 c11 c12
      have c00 : w4.cell? ⟨q, 0, none⟩ = some (.int .u32 wa) := FR.out.cell 0 0 rfl rfl rfl
      have c01 : w4.cell? ⟨q, 1, none⟩ = some (.int .u32 to) := FR.out.cell 0 1 rfl rfl rfl
      have c02 : w4.cell? ⟨q, 2, none⟩ = some (.slice A n c) := FR.out.cell 0 2 rfl rfl rfl
      have c10 : w4.cell? ⟨q + 1, 0, none⟩ = some (.int .u32 0) := FR.out.cell 1 0 rfl rfl rfl
      have f10 : w4.frozen? ⟨q + 1, 0, none⟩ = false := FR.out.frozen 1 0 rfl rfl
      have c11 : w4.cell? ⟨q + 1, 1, none⟩ = some (.int .u32 0) := FR.out.cell 1 1 rfl rfl rfl
      have f11 : w4.frozen? ⟨q + 1, 1, none⟩ = false := FR.out.frozen 1 1 rfl rfl
      have c12 : w4.cell? ⟨q + 1, 2, none⟩ = some (.slice none 0 0) := FR.out.cell 1 2 rfl rfl rfl
      have f12 : w4.frozen? ⟨q + 1, 2, none⟩ = false := FR.out.frozen 1 2 rfl rfl
      go_wp2
      have FZ : Fr w (((w4.setCell ⟨q + 1, 0, none⟩ (.int .u32 wa)).setCell ⟨q + 1, 1, none⟩ (.int .u32 to)).setCell ⟨q + 1, 2, none⟩ (.slice A n c)) q [.cells #[.int .u32 wa, .int .u32 to, .slice A n c] 25, .cells #[.int .u32 wa, .int .u32 to, .slice A n c] 25] := (((FR.out.set 1 0 rfl rfl (.int .u32 wa)).set 1 1 rfl rfl (.int .u32 to)).set 1 2 rfl rfl (.slice A n c))
      refine bodyPost_ret (res_css Try.results10 (by rfl) (FZ.load 1 rfl rfl Try.underlying25 (by kernel_rfl))) rfl ?_
      rw [HE.out]
      exact ⟨_, _, _, rfl, FZ.es RX.out, FZ.out, Or.inr rfl⟩
    · have b1 : (r == 1000) = false := by simp [h1]
      obtain ⟨nx, hnx⟩ : ∃ x, next32 wa = x := ⟨_, rfl⟩
      have HE := Lib.hid (show R = ((nx, to, ws), wa, 0) by rw [hE, if_neg h1, hnx])
      have hw1 : IntKind.u32.wrap (wa + 1) = nx := by rw [← hnx, IntKind.wrap_u32]; unfold next32; omega
      clear hE h1 hfr hr hR hlen hb hw0 hnx
      go_enter Try.func10, Try.ntmps10
      have c00 : v2.cell? ⟨q, 0, none⟩ = some (.int .u32 wa) := FR.out.cell 0 0 rfl rfl rfl
      have c01 : v2.cell? ⟨q, 1, none⟩ = some (.int .u32 to) := FR.out.cell 0 1 rfl rfl rfl
      have c02 : v2.cell? ⟨q, 2, none⟩ = some (.slice A n c) := FR.out.cell 0 2 rfl rfl rfl
      have c10 : v2.cell? ⟨q + 1, 0, none⟩ = some (.int .u32 0) := FR.out.cell 1 0 rfl rfl rfl
      have c11 : v2.cell? ⟨q + 1, 1, none⟩ = some (.int .u32 0) := FR.out.cell 1 1 rfl rfl rfl
      have c12 : v2.cell? ⟨q + 1, 2, none⟩ = some (.slice none 0 0) := FR.out.cell 1 2 rfl rfl rfl
      go_wp2_with fail
      refine ((RT.out _ (FR.out.es RX.out))).mono ?_
      rintro e w3 ⟨rfl, hb⟩
      clear c00 c01 c02 c10 c11 c12
      replace FR := Lib.hid (FR.out.step hb)
      clear hb
      have c00 : w3.cell? ⟨q, 0, none⟩ = some (.int .u32 wa) := FR.out.cell 0 0 rfl rfl rfl
      have c01 : w3.cell? ⟨q, 1, none⟩ = some (.int .u32 to) := FR.out.cell 0 1 rfl rfl rfl
      have c02 : w3.cell? ⟨q, 2, none⟩ = some (.slice A n c) := FR.out.cell 0 2 rfl rfl rfl
      have c10 : w3.cell? ⟨q + 1, 0, none⟩ = some (.int .u32 0) := FR.out.cell 1 0 rfl rfl rfl
      have c11 : w3.cell? ⟨q + 1, 1, none⟩ = some (.int .u32 0) := FR.out.cell 1 1 rfl rfl rfl
      have c12 : w3.cell? ⟨q + 1, 2, none⟩ = some (.slice none 0 0) := FR.out.cell 1 2 rfl rfl rfl
      go_wp2_with fail
      refine (FA.out _).mono ?_
      rintro e w4 ⟨rfl, rfl⟩
      clear c00 c01 c02 c10 c11 c12
      clear hv1 hv2 z1 z2
      have hsz := FR.out.sz
      simp only [List.length_cons, List.length_nil] at hsz
      have c00 : w4.cell? ⟨q, 0, none⟩ = some (.int .u32 wa) := FR.out.cell 0 0 rfl rfl rfl
      have c01 : w4.cell? ⟨q, 1, none⟩ = some (.int .u32 to) := FR.out.cell 0 1 rfl rfl rfl
      have c02 : w4.cell? ⟨q, 2, none⟩ = some (.slice A n c) := FR.out.cell 0 2 rfl rfl rfl
      have c10 : w4.cell? ⟨q + 1, 0, none⟩ = some (.int .u32 0) := FR.out.cell 1 0 rfl rfl rfl
      have f10 : w4.frozen? ⟨q + 1, 0, none⟩ = false := FR.out.frozen 1 0 rfl rfl
      have c11 : w4.cell? ⟨q + 1, 1, none⟩ = some (.int .u32 0) := FR.out.cell 1 1 rfl rfl rfl
      have f11 : w4.frozen? ⟨q + 1, 1, none⟩ = false := FR.out.frozen 1 1 rfl rfl
      have c12 : w4.cell? ⟨q + 1, 2, none⟩ = some (.slice none 0 0) := FR.out.cell 1 2 rfl rfl rfl
      have f12 : w4.frozen? ⟨q + 1, 2, none⟩ = false := FR.out.frozen 1 2 rfl rfl
      go_wp2
      refine wp_region_noPanic ?_
      refine wp_region_held_drew (S := (fun wv => Below (q + 1) w4 wv)) (by kernel_rfl) ((Below.refl (q + 1) w4).drew) (fun hS => ?_)
      refine wpAnyH_take (i := 0) (oi := ⟨some 16, .fieldAddr 25 (.tmp 1) 0, 0, "ref.go:46", #[], none⟩) (v := ?_) rfl (by kernel_rfl) (by kernel_rfl) (by kernel_rfl) (fun _ _ _ h => h) (Or.inl ⟨by rfl, ?_⟩) hS ?_
      rotate_left
      · intro wv _; go_simp; try with_reducible rfl
      try simp only [Act.put, List.setIfInBounds_toArray, List.set_cons_zero, List.set_cons_succ]
      refine wpAnyH_take (i := 1) (oi := ⟨some 17, .load 22 (.tmp 16), 22, "ref.go:46", #[⟨0, .data⟩], none⟩) (v := ?_) rfl (by kernel_rfl) (by kernel_rfl) (by kernel_rfl) (fun _ _ _ h => h) (Or.inl ⟨by rfl, ?_⟩) hS ?_
      rotate_left
      · intro wv hS; have hrun := (hS.cell (p := ⟨q, 0, none⟩) (by simp only; omega)).trans c00; go_simp; try with_reducible rfl
      try simp only [Act.put, List.setIfInBounds_toArray, List.set_cons_zero, List.set_cons_succ]
      refine wpAnyH_take (i := 2) (oi := ⟨some 18, .binOp .add 22 (.tmp 17) (.const (Value.int IntKind.u32 1)) 22, 22, "ref.go:46", #[⟨1, .data⟩], none⟩) (v := ?_) rfl (by kernel_rfl) (by kernel_rfl) (by kernel_rfl) (fun _ _ _ h => h) (Or.inl ⟨by rfl, ?_⟩) hS ?_
      rotate_left
      · intro wv _; go_simp; try with_reducible rfl
      try simp only [Act.put, List.setIfInBounds_toArray, List.set_cons_zero, List.set_cons_succ]
      refine wpAnyH_take (i := 3) (oi := ⟨some 19, .fieldAddr 25 (.tmp 1) 1, 0, "ref.go:46", #[], none⟩) (v := ?_) rfl (by kernel_rfl) (by kernel_rfl) (by kernel_rfl) (fun _ _ _ h => h) (Or.inl ⟨by rfl, ?_⟩) hS ?_
      rotate_left
      · intro wv _; go_simp; try with_reducible rfl
      try simp only [Act.put, List.setIfInBounds_toArray, List.set_cons_zero, List.set_cons_succ]
      refine wpAnyH_take (i := 4) (oi := ⟨some 20, .load 22 (.tmp 19), 22, "ref.go:46", #[⟨3, .data⟩], none⟩) (v := ?_) rfl (by kernel_rfl) (by kernel_rfl) (by kernel_rfl) (fun _ _ _ h => h) (Or.inl ⟨by rfl, ?_⟩) hS ?_
      rotate_left
      · intro wv hS; have hrun := (hS.cell (p := ⟨q, 1, none⟩) (by simp only; omega)).trans c01; go_simp; try with_reducible rfl
      try simp only [Act.put, List.setIfInBounds_toArray, List.set_cons_zero, List.set_cons_succ]
      refine wpAnyH_take (i := 5) (oi := ⟨some 21, .fieldAddr 25 (.tmp 1) 2, 0, "ref.go:46", #[], none⟩) (v := ?_) rfl (by kernel_rfl) (by kernel_rfl) (by kernel_rfl) (fun _ _ _ h => h) (Or.inl ⟨by rfl, ?_⟩) hS ?_
      rotate_left
      · intro wv _; go_simp; try with_reducible rfl
      try simp only [Act.put, List.setIfInBounds_toArray, List.set_cons_zero, List.set_cons_succ]
      refine wpAnyH_take (i := 6) (oi := ⟨some 22, .load 23 (.tmp 21), 23, "ref.go:46", #[⟨5, .data⟩], none⟩) (v := ?_) rfl (by kernel_rfl) (by kernel_rfl) (by kernel_rfl) (fun _ _ _ h => h) (Or.inl ⟨by rfl, ?_⟩) hS ?_
      rotate_left
      · intro wv hS; have hrun := (hS.cell (p := ⟨q, 2, none⟩) (by simp only; omega)).trans c02; go_simp; try with_reducible rfl
      try simp only [Act.put, List.setIfInBounds_toArray, List.set_cons_zero, List.set_cons_succ]
      refine wpAnyH_take (i := 7) (oi := ⟨some 23, .build 25 #[(0, .tmp 18), (1, .tmp 20), (2, .tmp 22)], 25, "ref.go:46", #[⟨2, .data⟩, ⟨4, .data⟩, ⟨6, .data⟩], none⟩) (v := ?_) rfl (by kernel_rfl) (by kernel_rfl) (by kernel_rfl) (fun _ _ _ h => h) (Or.inl ⟨by rfl, ?_⟩) hS ?_
      rotate_left
      · intro wv _; go_simp; try with_reducible rfl
      try simp only [Act.put, List.setIfInBounds_toArray, List.set_cons_zero, List.set_cons_succ]
      refine wpAnyH_take (i := 8) (oi := ⟨some 24, .fieldAddr 25 (.tmp 1) 0, 0, "ref.go:46", #[⟨10, .gcOnly .lateStores⟩], none⟩) (v := ?_) rfl (by kernel_rfl) (by kernel_rfl) (by kernel_rfl) (fun _ _ _ h => h) (Or.inl ⟨by rfl, ?_⟩) hS ?_
      rotate_left
      · intro wv _; go_simp; try with_reducible rfl
      try simp only [Act.put, List.setIfInBounds_toArray, List.set_cons_zero, List.set_cons_succ]
      refine wpAnyH_take (i := 9) (oi := ⟨some 25, .load 22 (.tmp 24), 22, "ref.go:46", #[⟨8, .data⟩, ⟨10, .gcOnly .lateStores⟩], none⟩) (v := ?_) rfl (by kernel_rfl) (by kernel_rfl) (by kernel_rfl) (fun _ _ _ h => h) (Or.inl ⟨by rfl, ?_⟩) hS ?_
      rotate_left
      · intro wv hS; have hrun := (hS.cell (p := ⟨q, 0, none⟩) (by simp only; omega)).trans c00; go_simp; try with_reducible rfl
      try simp only [Act.put, List.setIfInBounds_toArray, List.set_cons_zero, List.set_cons_succ]
      refine wpAnyH_ready (rs := [10]) (by kernel_rfl) (by simp) (AllReadyH.cons (o := ⟨none, .store 25 (.tmp 2) (.tmp 23), 0, "ref.go:46", #[⟨7, .data⟩, ⟨0, .phase⟩, ⟨1, .phase⟩, ⟨2, .phase⟩, ⟨3, .phase⟩, ⟨4, .phase⟩, ⟨5, .phase⟩, ⟨6, .phase⟩, ⟨7, .phase⟩, ⟨8, .textOnly .lateStores⟩, ⟨9, .textOnly .lateStores⟩], none⟩) rfl (fun K hK => ?_) AllReadyH.nil)
      go_simp
      replace hS := ((hS.setCell (by simp) (p := ⟨q + 1, 0, none⟩) (.int .u32 nx)).setCell (by simp) (p := ⟨q + 1, 1, none⟩) (.int .u32 to)).setCell (by simp) (p := ⟨q + 1, 2, none⟩) (.slice A n c)
      refine Shut.out hK _ _ hS (fun _ => ?_)
      clear hK K
      try simp only [Act.put, List.setIfInBounds_toArray, List.set_cons_zero, List.set_cons_succ]
      refine wpAnyH_take (i := 11) (oi := ⟨some 3, .assign (.tmp 25), 22, "ref.go:46", #[⟨9, .data⟩, ⟨10, .chain⟩, ⟨0, .phase⟩, ⟨1, .phase⟩, ⟨2, .phase⟩, ⟨3, .phase⟩, ⟨4, .phase⟩, ⟨5, .phase⟩, ⟨6, .phase⟩, ⟨7, .phase⟩, ⟨8, .phase⟩, ⟨9, .phase⟩, ⟨10, .phase⟩], none⟩) (v := ?_) rfl (by kernel_rfl) (by kernel_rfl) (by kernel_rfl) (fun _ _ _ h => h) (Or.inl ⟨by rfl, ?_⟩) hS ?_
      rotate_left
      · intro wv _; go_simp; try with_reducible rfl
      try simp only [Act.put, List.setIfInBounds_toArray, List.set_cons_zero, List.set_cons_succ]
      refine wpAnyH_take (i := 12) (oi := ⟨some 4, .assign (.const (Value.int IntKind.i64 0)), 28, "ref.go:46", #[⟨11, .chain⟩, ⟨0, .phase⟩, ⟨1, .phase⟩, ⟨2, .phase⟩, ⟨3, .phase⟩, ⟨4, .phase⟩, ⟨5, .phase⟩, ⟨6, .phase⟩, ⟨7, .phase⟩, ⟨8, .phase⟩, ⟨9, .phase⟩, ⟨10, .phase⟩, ⟨11, .phase⟩], none⟩) (v := ?_) rfl (by kernel_rfl) (by kernel_rfl) (by kernel_rfl) (fun _ _ _ h => h) (Or.inl ⟨by rfl, ?_⟩) hS ?_
      rotate_left
      · intro wv _; go_simp; try with_reducible rfl
      try simp only [Act.put, List.setIfInBounds_toArray, List.set_cons_zero, List.set_cons_succ]
      refine wpAnyH_done (by kernel_rfl) ?_ _
      refine NoPanic.normal ?_
      go_wp2
      have FZ : Fr w ((((w4.setCell ⟨q + 1, 0, none⟩ (.int .u32 nx)).setCell ⟨q + 1, 1, none⟩ (.int .u32 to)).setCell ⟨q + 1, 2, none⟩ (.slice A n c))).drew q [.cells #[.int .u32 wa, .int .u32 to, .slice A n c] 25, .cells #[.int .u32 nx, .int .u32 to, .slice A n c] 25] := ((((FR.out.set 1 0 rfl rfl (.int .u32 nx)).set 1 1 rfl rfl (.int .u32 to)).set 1 2 rfl rfl (.slice A n c))).drew
      refine bodyPost_ret (res_css Try.results10 (by rfl) (FZ.load 1 rfl rfl Try.underlying25 (by kernel_rfl))) rfl ?_
      rw [HE.out]
      exact ⟨_, _, _, rfl, FZ.es RX.out, FZ.out, Or.inr rfl⟩
set_option maxRecDepth 100000 in
set_option maxHeartbeats 8000000 in
theorem refPark11_any (A : Option Addr) (n c : Nat) (ws : List Wt) (wa to k ta : Int) (w : World) (hx : Wts w A n c ws) (hn : n ≤ 16384) (hb : NB (wa, to, ws)) (k0 : 0 ≤ k) (k1 : k < 4294967296) :
    Calls Try.prog 12 #[.agg #[.int .u32 wa, .int .u32 to, .slice A n c], .int .u32 k, .int .i64 ta] w (NGotN w A n c (parkN (wa, to, ws) k ta)) := by
  obtain ⟨i5, hi5, hz0, hz1, hz2⟩ := info_of infoWt
  have HI := Lib.hid hi5; have HZ0 := Lib.hid hz0; have HZ1 := Lib.hid hz1; have HZ2 := Lib.hid hz2
  clear hi5 hz0 hz1 hz2
  have hlen := hx.len
  have RX := Lib.hid hx
  have HL := Lib.hid hlen
  have RT := fun (W : World) (h : Wts W A n c ws) => refRight11_any A n c ws wa to W h hn hb
  obtain ⟨R, hR⟩ : ∃ R, parkN (wa, to, ws) k ta = R := ⟨_, rfl⟩
  rw [hR]
  have OU := fun (W : World) (h : Wts W A n c ws) => refOut_any A n c ws wa to k W h hn hb k0 k1
  clear hx
  obtain ⟨v1, hv1⟩ : ∃ W, w.alloc (.cells #[.int .u32 wa, .int .u32 to, .slice A n c] 25) = W := ⟨_, rfl⟩
  have fr1 : Fr w v1 w.heap.size [.cells #[.int .u32 wa, .int .u32 to, .slice A n c] 25] := hv1 ▸ Fr.first w _
  have z1 : v1.heap.size = w.heap.size + 1 := by rw [← hv1, Fr.size1]
  obtain ⟨v2, hv2⟩ : ∃ W, v1.alloc (.cells #[.int .u32 0, .int .u32 0, .slice none 0 0] 25) = W := ⟨_, rfl⟩
  have fr2 : Fr w v2 w.heap.size [.cells #[.int .u32 wa, .int .u32 to, .slice A n c] 25, .cells #[.int .u32 0, .int .u32 0, .slice none 0 0] 25] := hv2 ▸ fr1.more z1 _
  have z2 : v2.heap.size = w.heap.size + 2 := by rw [← hv2, Fr.size1, z1]
  generalize hq : w.heap.size = q at *
  have FR := Lib.hid fr2
  clear fr1 fr2
  cases hr : rightN (wa, to, ws)
  · rw [hr] at RT
    replace RT := Lib.hid RT
    have HE := Lib.hid (show R = ((wa, to, ws), 1) by rw [← hR]; unfold parkN; rw [if_pos (Or.inl hr)])
    clear hr hR hlen OU hb
    go_enter Try.func12, Try.ntmps12
    have c00 : v2.cell? ⟨q, 0, none⟩ = some (.int .u32 wa) := FR.out.cell 0 0 rfl rfl rfl
    have c01 : v2.cell? ⟨q, 1, none⟩ = some (.int .u32 to) := FR.out.cell 0 1 rfl rfl rfl
    have c02 : v2.cell? ⟨q, 2, none⟩ = some (.slice A n c) := FR.out.cell 0 2 rfl rfl rfl
    have c10 : v2.cell? ⟨q + 1, 0, none⟩ = some (.int .u32 0) := FR.out.cell 1 0 rfl rfl rfl
    have c11 : v2.cell? ⟨q + 1, 1, none⟩ = some (.int .u32 0) := FR.out.cell 1 1 rfl rfl rfl
    have c12 : v2.cell? ⟨q + 1, 2, none⟩ = some (.slice none 0 0) := FR.out.cell 1 2 rfl rfl rfl
    go_wp2_with fail
    refine ((RT.out _ (FR.out.es RX.out))).mono ?_
    rintro e w3 ⟨rfl, hb⟩
    clear c00 c01 c02 c10 c11 c12
    replace FR := Lib.hid (FR.out.step hb)
    clear hb
    have c00 : w3.cell? ⟨q, 0, none⟩ = some (.int .u32 wa) := FR.out.cell 0 0 rfl rfl rfl
    have c01 : w3.cell? ⟨q, 1, none⟩ = some (.int .u32 to) := FR.out.cell 0 1 rfl rfl rfl
    have c02 : w3.cell? ⟨q, 2, none⟩ = some (.slice A n c) := FR.out.cell 0 2 rfl rfl rfl
    have c10 : w3.cell? ⟨q + 1, 0, none⟩ = some (.int .u32 0) := FR.out.cell 1 0 rfl rfl rfl
    have f10 : w3.frozen? ⟨q + 1, 0, none⟩ = false := FR.out.frozen 1 0 rfl rfl
    have c11 : w3.cell? ⟨q + 1, 1, none⟩ = some (.int .u32 0) := FR.out.cell 1 1 rfl rfl rfl
    have f11 : w3.frozen? ⟨q + 1, 1, none⟩ = false := FR.out.frozen 1 1 rfl rfl
    have c12 : w3.cell? ⟨q + 1, 2, none⟩ = some (.slice none 0 0) := FR.out.cell 1 2 rfl rfl rfl
    have f12 : w3.frozen? ⟨q + 1, 2, none⟩ = false := FR.out.frozen 1 2 rfl rfl
    go_wp2
    have FZ : Fr w (((w3.setCell ⟨q + 1, 0, none⟩ (.int .u32 wa)).setCell ⟨q + 1, 1, none⟩ (.int .u32 to)).setCell ⟨q + 1, 2, none⟩ (.slice A n c)) q [.cells #[.int .u32 wa, .int .u32 to, .slice A n c] 25, .cells #[.int .u32 wa, .int .u32 to, .slice A n c] 25] := (((FR.out.set 1 0 rfl rfl (.int .u32 wa)).set 1 1 rfl rfl (.int .u32 to)).set 1 2 rfl rfl (.slice A n c))
    refine bodyPost_ret (res_cs Try.results12 (by rfl) (FZ.load 1 rfl rfl Try.underlying25 (by kernel_rfl))) rfl ?_
    rw [HE.out]
    exact ⟨_, _, _, rfl, FZ.es RX.out, FZ.out, Or.inr rfl⟩
  · rw [hr] at RT
    replace RT := Lib.hid RT
    by_cases h1 : ta < 0
    · have b1 : decide (ta < 0) = true := by simpa using h1
      have HE := Lib.hid (show R = ((wa, to, ws), 1) by rw [← hR]; unfold parkN; rw [if_pos (Or.inr (Or.inl h1))])
      clear hr hR hlen OU hb h1
      go_enter Try.func12, Try.ntmps12
      have c00 : v2.cell? ⟨q, 0, none⟩ = some (.int .u32 wa) := FR.out.cell 0 0 rfl rfl rfl
      have c01 : v2.cell? ⟨q, 1, none⟩ = some (.int .u32 to) := FR.out.cell 0 1 rfl rfl rfl
      have c02 : v2.cell? ⟨q, 2, none⟩ = some (.slice A n c) := FR.out.cell 0 2 rfl rfl rfl
      have c10 : v2.cell? ⟨q + 1, 0, none⟩ = some (.int .u32 0) := FR.out.cell 1 0 rfl rfl rfl
      have c11 : v2.cell? ⟨q + 1, 1, none⟩ = some (.int .u32 0) := FR.out.cell 1 1 rfl rfl rfl
      have c12 : v2.cell? ⟨q + 1, 2, none⟩ = some (.slice none 0 0) := FR.out.cell 1 2 rfl rfl rfl
      go_wp2_with fail
      refine ((RT.out _ (FR.out.es RX.out))).mono ?_
      rintro e w3 ⟨rfl, hb⟩
      clear c00 c01 c02 c10 c11 c12
      replace FR := Lib.hid (FR.out.step hb)
      clear hb
      have c00 : w3.cell? ⟨q, 0, none⟩ = some (.int .u32 wa) := FR.out.cell 0 0 rfl rfl rfl
      have c01 : w3.cell? ⟨q, 1, none⟩ = some (.int .u32 to) := FR.out.cell 0 1 rfl rfl rfl
      have c02 : w3.cell? ⟨q, 2, none⟩ = some (.slice A n c) := FR.out.cell 0 2 rfl rfl rfl
      have c10 : w3.cell? ⟨q + 1, 0, none⟩ = some (.int .u32 0) := FR.out.cell 1 0 rfl rfl rfl
      have f10 : w3.frozen? ⟨q + 1, 0, none⟩ = false := FR.out.frozen 1 0 rfl rfl
      have c11 : w3.cell? ⟨q + 1, 1, none⟩ = some (.int .u32 0) := FR.out.cell 1 1 rfl rfl rfl
      have f11 : w3.frozen? ⟨q + 1, 1, none⟩ = false := FR.out.frozen 1 1 rfl rfl
      have c12 : w3.cell? ⟨q + 1, 2, none⟩ = some (.slice none 0 0) := FR.out.cell 1 2 rfl rfl rfl
      have f12 : w3.frozen? ⟨q + 1, 2, none⟩ = false := FR.out.frozen 1 2 rfl rfl
      go_wp2
      have FZ : Fr w (((w3.setCell ⟨q + 1, 0, none⟩ (.int .u32 wa)).setCell ⟨q + 1, 1, none⟩ (.int .u32 to)).setCell ⟨q + 1, 2, none⟩ (.slice A n c)) q [.cells #[.int .u32 wa, .int .u32 to, .slice A n c] 25, .cells #[.int .u32 wa, .int .u32 to, .slice A n c] 25] := (((FR.out.set 1 0 rfl rfl (.int .u32 wa)).set 1 1 rfl rfl (.int .u32 to)).set 1 2 rfl rfl (.slice A n c))
      refine bodyPost_ret (res_cs Try.results12 (by rfl) (FZ.load 1 rfl rfl Try.underlying25 (by kernel_rfl))) rfl ?_
      rw [HE.out]
      exact ⟨_, _, _, rfl, FZ.es RX.out, FZ.out, Or.inr rfl⟩
    · have b1 : decide (ta < 0) = false := by simpa using h1
      cases ho : outN (wa, to, ws) k
      · rw [ho] at OU
        replace OU := Lib.hid OU
        have HE := Lib.hid (show R = ((wa, to, ws), 1) by rw [← hR]; unfold parkN; rw [if_pos (Or.inr (Or.inr ho))])
        clear hr hR hlen hb h1 ho
        go_enter Try.func12, Try.ntmps12
        have c00 : v2.cell? ⟨q, 0, none⟩ = some (.int .u32 wa) := FR.out.cell 0 0 rfl rfl rfl
        have c01 : v2.cell? ⟨q, 1, none⟩ = some (.int .u32 to) := FR.out.cell 0 1 rfl rfl rfl
        have c02 : v2.cell? ⟨q, 2, none⟩ = some (.slice A n c) := FR.out.cell 0 2 rfl rfl rfl
        have c10 : v2.cell? ⟨q + 1, 0, none⟩ = some (.int .u32 0) := FR.out.cell 1 0 rfl rfl rfl
        have c11 : v2.cell? ⟨q + 1, 1, none⟩ = some (.int .u32 0) := FR.out.cell 1 1 rfl rfl rfl
        have c12 : v2.cell? ⟨q + 1, 2, none⟩ = some (.slice none 0 0) := FR.out.cell 1 2 rfl rfl rfl
        go_wp2_with fail
        refine ((RT.out _ (FR.out.es RX.out))).mono ?_
        rintro e w3 ⟨rfl, hb⟩
        clear c00 c01 c02 c10 c11 c12
        replace FR := Lib.hid (FR.out.step hb)
        clear hb
        have c00 : w3.cell? ⟨q, 0, none⟩ = some (.int .u32 wa) := FR.out.cell 0 0 rfl rfl rfl
        have c01 : w3.cell? ⟨q, 1, none⟩ = some (.int .u32 to) := FR.out.cell 0 1 rfl rfl rfl
        have c02 : w3.cell? ⟨q, 2, none⟩ = some (.slice A n c) := FR.out.cell 0 2 rfl rfl rfl
        have c10 : w3.cell? ⟨q + 1, 0, none⟩ = some (.int .u32 0) := FR.out.cell 1 0 rfl rfl rfl
        have c11 : w3.cell? ⟨q + 1, 1, none⟩ = some (.int .u32 0) := FR.out.cell 1 1 rfl rfl rfl
        have c12 : w3.cell? ⟨q + 1, 2, none⟩ = some (.slice none 0 0) := FR.out.cell 1 2 rfl rfl rfl
        go_wp2_with fail
        refine ((OU.out _ (FR.out.es RX.out))).mono ?_
        rintro e w4 ⟨rfl, hb⟩
        clear c00 c01 c02 c10 c11 c12
        replace FR := Lib.hid (FR.out.step hb)
        clear hb
        have c00 : w4.cell? ⟨q, 0, none⟩ = some (.int .u32 wa) := FR.out.cell 0 0 rfl rfl rfl
        have c01 : w4.cell? ⟨q, 1, none⟩ = some (.int .u32 to) := FR.out.cell 0 1 rfl rfl rfl
        have c02 : w4.cell? ⟨q, 2, none⟩ = some (.slice A n c) := FR.out.cell 0 2 rfl rfl rfl
        have c10 : w4.cell? ⟨q + 1, 0, none⟩ = some (.int .u32 0) := FR.out.cell 1 0 rfl rfl rfl
        have f10 : w4.frozen? ⟨q + 1, 0, none⟩ = false := FR.out.frozen 1 0 rfl rfl
        have c11 : w4.cell? ⟨q + 1, 1, none⟩ = some (.int .u32 0) := FR.out.cell 1 1 rfl rfl rfl
        have f11 : w4.frozen? ⟨q + 1, 1, none⟩ = false := FR.out.frozen 1 1 rfl rfl
        have c12 : w4.cell? ⟨q + 1, 2, none⟩ = some (.slice none 0 0) := FR.out.cell 1 2 rfl rfl rfl
        have f12 : w4.frozen? ⟨q + 1, 2, none⟩ = false := FR.out.frozen 1 2 rfl rfl
        go_wp2
        have FZ : Fr w (((w4.setCell ⟨q + 1, 0, none⟩ (.int .u32 wa)).setCell ⟨q + 1, 1, none⟩ (.int .u32 to)).setCell ⟨q + 1, 2, none⟩ (.slice A n c)) q [.cells #[.int .u32 wa, .int .u32 to, .slice A n c] 25, .cells #[.int .u32 wa, .int .u32 to, .slice A n c] 25] := (((FR.out.set 1 0 rfl rfl (.int .u32 wa)).set 1 1 rfl rfl (.int .u32 to)).set 1 2 rfl rfl (.slice A n c))
        refine bodyPost_ret (res_cs Try.results12 (by rfl) (FZ.load 1 rfl rfl Try.underlying25 (by kernel_rfl))) rfl ?_
        rw [HE.out]
        exact ⟨_, _, _, rfl, FZ.es RX.out, FZ.out, Or.inr rfl⟩
      · rw [ho] at OU
        replace OU := Lib.hid OU
        have HRE := Lib.hid (show R = if anyW ws k ta n then ((wa, to, ws), 8) else if 12 ≤ n then ((wa, to, ws), 6) else ((wa, to, ws ++ [(k, ta)]), 0) by rw [← hR]; unfold parkN; rw [if_neg (by rw [hr, ho]; simp; omega)]; simp only; rw [hlen])
        clear hr hR hlen hb h1 ho
        go_enter Try.func12, Try.ntmps12
        have c00 : v2.cell? ⟨q, 0, none⟩ = some (.int .u32 wa) := FR.out.cell 0 0 rfl rfl rfl
        have c01 : v2.cell? ⟨q, 1, none⟩ = some (.int .u32 to) := FR.out.cell 0 1 rfl rfl rfl
        have c02 : v2.cell? ⟨q, 2, none⟩ = some (.slice A n c) := FR.out.cell 0 2 rfl rfl rfl
        have c10 : v2.cell? ⟨q + 1, 0, none⟩ = some (.int .u32 0) := FR.out.cell 1 0 rfl rfl rfl
        have c11 : v2.cell? ⟨q + 1, 1, none⟩ = some (.int .u32 0) := FR.out.cell 1 1 rfl rfl rfl
        have c12 : v2.cell? ⟨q + 1, 2, none⟩ = some (.slice none 0 0) := FR.out.cell 1 2 rfl rfl rfl
        go_wp2_with fail
        refine ((RT.out _ (FR.out.es RX.out))).mono ?_
        rintro e w3 ⟨rfl, hb⟩
        clear c00 c01 c02 c10 c11 c12
        replace FR := Lib.hid (FR.out.step hb)
        clear hb
        have c00 : w3.cell? ⟨q, 0, none⟩ = some (.int .u32 wa) := FR.out.cell 0 0 rfl rfl rfl
        have c01 : w3.cell? ⟨q, 1, none⟩ = some (.int .u32 to) := FR.out.cell 0 1 rfl rfl rfl
        have c02 : w3.cell? ⟨q, 2, none⟩ = some (.slice A n c) := FR.out.cell 0 2 rfl rfl rfl
        have c10 : w3.cell? ⟨q + 1, 0, none⟩ = some (.int .u32 0) := FR.out.cell 1 0 rfl rfl rfl
        have c11 : w3.cell? ⟨q + 1, 1, none⟩ = some (.int .u32 0) := FR.out.cell 1 1 rfl rfl rfl
        have c12 : w3.cell? ⟨q + 1, 2, none⟩ = some (.slice none 0 0) := FR.out.cell 1 2 rfl rfl rfl
        go_wp2_with fail
        refine ((OU.out _ (FR.out.es RX.out))).mono ?_
        rintro e w4 ⟨rfl, hb⟩
        clear c00 c01 c02 c10 c11 c12
        replace FR := Lib.hid (FR.out.step hb)
        clear hb
        have c00 : w4.cell? ⟨q, 0, none⟩ = some (.int .u32 wa) := FR.out.cell 0 0 rfl rfl rfl
        have c01 : w4.cell? ⟨q, 1, none⟩ = some (.int .u32 to) := FR.out.cell 0 1 rfl rfl rfl
        have c02 : w4.cell? ⟨q, 2, none⟩ = some (.slice A n c) := FR.out.cell 0 2 rfl rfl rfl
        have c10 : w4.cell? ⟨q + 1, 0, none⟩ = some (.int .u32 0) := FR.out.cell 1 0 rfl rfl rfl
        have c11 : w4.cell? ⟨q + 1, 1, none⟩ = some (.int .u32 0) := FR.out.cell 1 1 rfl rfl rfl
        have c12 : w4.cell? ⟨q + 1, 2, none⟩ = some (.slice none 0 0) := FR.out.cell 1 2 rfl rfl rfl
        go_wp2
        clear c00 c01 c02 c10 c11 c12
        clear hv1 hv2 z1 z2
        go_loopw [8] (fun iv wr => ∃ (i : Nat), iv = .int .i64 (i : Int) ∧ i ≤ n ∧ Hid (¬ anyW ws k ta i) ∧ Hid (Fr w wr q [.cells #[.int .u32 wa, .int .u32 to, .slice A n c] 25, .cells #[.int .u32 0, .int .u32 0, .slice none 0 0] 25])) (fun iv _ => n - (intOf iv).toNat)
        case atStart => exact ⟨0, rfl, by omega, fun ⟨j, hj, _⟩ => by omega, FR.out⟩
        case round =>
          clear FR
          obtain ⟨i, rfl, hi, HNA, FR⟩ := hrel
          by_cases hlt : i < n
          · have c1 : decide ((i : Int) < (n : Int)) = true := by simpa using hlt
            have i0 : (0 : Int) ≤ (i : Int) := by omega
            have i1 : (i : Int) < (n : Int) := by omega
            obtain ⟨b, off, rfl, hb0, k0, k1⟩ := Wts.look (ws := ws) (FR.out.es RX.out) i hlt
            clear hb0
            obtain ⟨⟨ti, tb⟩, hti⟩ : ∃ x, wtAt ws i = x := ⟨_, rfl⟩
            rw [hti] at k0 k1
            simp only at k0 k1
            by_cases h2 : ti = k
            · have c2 : (ti == k) = true := by simp [h2]
              have HE := Lib.hid (show R = ((wa, to, ws), 8) by rw [HRE.out, if_pos ⟨i, hlt, by rw [hti]; exact Or.inl h2⟩])
              clear hti hlt h2
              have c00 : wr.cell? ⟨q, 0, none⟩ = some (.int .u32 wa) := FR.out.cell 0 0 rfl rfl rfl
              have c01 : wr.cell? ⟨q, 1, none⟩ = some (.int .u32 to) := FR.out.cell 0 1 rfl rfl rfl
              have c02 : wr.cell? ⟨q, 2, none⟩ = some (.slice (some ⟨b, off, none⟩) n c) := FR.out.cell 0 2 rfl rfl rfl
              have c10 : wr.cell? ⟨q + 1, 0, none⟩ = some (.int .u32 0) := FR.out.cell 1 0 rfl rfl rfl
              have f10 : wr.frozen? ⟨q + 1, 0, none⟩ = false := FR.out.frozen 1 0 rfl rfl
              have c11 : wr.cell? ⟨q + 1, 1, none⟩ = some (.int .u32 0) := FR.out.cell 1 1 rfl rfl rfl
              have f11 : wr.frozen? ⟨q + 1, 1, none⟩ = false := FR.out.frozen 1 1 rfl rfl
              have c12 : wr.cell? ⟨q + 1, 2, none⟩ = some (.slice none 0 0) := FR.out.cell 1 2 rfl rfl rfl
              have f12 : wr.frozen? ⟨q + 1, 2, none⟩ = false := FR.out.frozen 1 2 rfl rfl
              go_wp2
              have FZ : Fr w (((wr.setCell ⟨q + 1, 0, none⟩ (.int .u32 wa)).setCell ⟨q + 1, 1, none⟩ (.int .u32 to)).setCell ⟨q + 1, 2, none⟩ (.slice (some ⟨b, off, none⟩) n c)) q [.cells #[.int .u32 wa, .int .u32 to, .slice (some ⟨b, off, none⟩) n c] 25, .cells #[.int .u32 wa, .int .u32 to, .slice (some ⟨b, off, none⟩) n c] 25] := (((FR.out.set 1 0 rfl rfl (.int .u32 wa)).set 1 1 rfl rfl (.int .u32 to)).set 1 2 rfl rfl (.slice (some ⟨b, off, none⟩) n c))
              refine bodyPost_ret (res_cs Try.results12 (by rfl) (FZ.load 1 rfl rfl Try.underlying25 (by kernel_rfl))) rfl ?_
              rw [HE.out]
              exact ⟨_, _, _, rfl, FZ.es RX.out, FZ.out, Or.inr rfl⟩
            · have c2 : (ti == k) = false := by simp [h2]
              by_cases h3 : tb = ta
              · have c3 : (tb == ta) = true := by simp [h3]
                have HE := Lib.hid (show R = ((wa, to, ws), 8) by rw [HRE.out, if_pos ⟨i, hlt, by rw [hti]; exact Or.inr h3⟩])
                clear hti hlt h2 h3
                have c00 : wr.cell? ⟨q, 0, none⟩ = some (.int .u32 wa) := FR.out.cell 0 0 rfl rfl rfl
                have c01 : wr.cell? ⟨q, 1, none⟩ = some (.int .u32 to) := FR.out.cell 0 1 rfl rfl rfl
                have c02 : wr.cell? ⟨q, 2, none⟩ = some (.slice (some ⟨b, off, none⟩) n c) := FR.out.cell 0 2 rfl rfl rfl
                have c10 : wr.cell? ⟨q + 1, 0, none⟩ = some (.int .u32 0) := FR.out.cell 1 0 rfl rfl rfl
                have f10 : wr.frozen? ⟨q + 1, 0, none⟩ = false := FR.out.frozen 1 0 rfl rfl
                have c11 : wr.cell? ⟨q + 1, 1, none⟩ = some (.int .u32 0) := FR.out.cell 1 1 rfl rfl rfl
                have f11 : wr.frozen? ⟨q + 1, 1, none⟩ = false := FR.out.frozen 1 1 rfl rfl
                have c12 : wr.cell? ⟨q + 1, 2, none⟩ = some (.slice none 0 0) := FR.out.cell 1 2 rfl rfl rfl
                have f12 : wr.frozen? ⟨q + 1, 2, none⟩ = false := FR.out.frozen 1 2 rfl rfl
                go_wp2
                have FZ : Fr w (((wr.setCell ⟨q + 1, 0, none⟩ (.int .u32 wa)).setCell ⟨q + 1, 1, none⟩ (.int .u32 to)).setCell ⟨q + 1, 2, none⟩ (.slice (some ⟨b, off, none⟩) n c)) q [.cells #[.int .u32 wa, .int .u32 to, .slice (some ⟨b, off, none⟩) n c] 25, .cells #[.int .u32 wa, .int .u32 to, .slice (some ⟨b, off, none⟩) n c] 25] := (((FR.out.set 1 0 rfl rfl (.int .u32 wa)).set 1 1 rfl rfl (.int .u32 to)).set 1 2 rfl rfl (.slice (some ⟨b, off, none⟩) n c))
                refine bodyPost_ret (res_cs Try.results12 (by rfl) (FZ.load 1 rfl rfl Try.underlying25 (by kernel_rfl))) rfl ?_
                rw [HE.out]
                exact ⟨_, _, _, rfl, FZ.es RX.out, FZ.out, Or.inr rfl⟩
              · have c3 : (tb == ta) = false := by simp [h3]
                have HN2 := Lib.hid (show ¬ anyW ws k ta (i + 1) from fun ⟨j, hj, h4⟩ => by
                  rcases Nat.lt_or_ge j i with h8 | h8
                  · exact HNA.out ⟨j, h8, h4⟩
                  · have : j = i := by omega
                    subst this; rw [hti] at h4; rcases h4 with h4 | h4; exact h2 h4; exact h3 h4)
                clear h2 h3 hti HNA
                have c00 : wr.cell? ⟨q, 0, none⟩ = some (.int .u32 wa) := FR.out.cell 0 0 rfl rfl rfl
                have c01 : wr.cell? ⟨q, 1, none⟩ = some (.int .u32 to) := FR.out.cell 0 1 rfl rfl rfl
                have c02 : wr.cell? ⟨q, 2, none⟩ = some (.slice (some ⟨b, off, none⟩) n c) := FR.out.cell 0 2 rfl rfl rfl
                go_wp2
                go_roundw
                case rel => exact ⟨i + 1, by go_num, by omega, HN2, FR⟩
                case measure => simp [intOf]; omega
          · have en : i = n := by omega
            have c1 : decide ((i : Int) < (n : Int)) = false := by simp; omega
            have c1n : decide (i < n) = false := by simp; omega
            have hRE2 := HRE.out
            rw [if_neg (en ▸ HNA.out)] at hRE2
            clear en hlt hi HNA
            by_cases h4 : 12 ≤ n
            · have c4 : decide ((12 : Int) ≤ (n : Int)) = true := by simp; omega
              have c4n : decide (12 ≤ n) = true := by simp; omega
              have HE := Lib.hid (show R = ((wa, to, ws), 6) by rw [hRE2, if_pos h4])
              clear hRE2 h4
              have c00 : wr.cell? ⟨q, 0, none⟩ = some (.int .u32 wa) := FR.out.cell 0 0 rfl rfl rfl
              have c01 : wr.cell? ⟨q, 1, none⟩ = some (.int .u32 to) := FR.out.cell 0 1 rfl rfl rfl
              have c02 : wr.cell? ⟨q, 2, none⟩ = some (.slice A n c) := FR.out.cell 0 2 rfl rfl rfl
              have c10 : wr.cell? ⟨q + 1, 0, none⟩ = some (.int .u32 0) := FR.out.cell 1 0 rfl rfl rfl
              have f10 : wr.frozen? ⟨q + 1, 0, none⟩ = false := FR.out.frozen 1 0 rfl rfl
              have c11 : wr.cell? ⟨q + 1, 1, none⟩ = some (.int .u32 0) := FR.out.cell 1 1 rfl rfl rfl
              have f11 : wr.frozen? ⟨q + 1, 1, none⟩ = false := FR.out.frozen 1 1 rfl rfl
              have c12 : wr.cell? ⟨q + 1, 2, none⟩ = some (.slice none 0 0) := FR.out.cell 1 2 rfl rfl rfl
              have f12 : wr.frozen? ⟨q + 1, 2, none⟩ = false := FR.out.frozen 1 2 rfl rfl
              go_wp2
              have FZ : Fr w (((wr.setCell ⟨q + 1, 0, none⟩ (.int .u32 wa)).setCell ⟨q + 1, 1, none⟩ (.int .u32 to)).setCell ⟨q + 1, 2, none⟩ (.slice A n c)) q [.cells #[.int .u32 wa, .int .u32 to, .slice A n c] 25, .cells #[.int .u32 wa, .int .u32 to, .slice A n c] 25] := (((FR.out.set 1 0 rfl rfl (.int .u32 wa)).set 1 1 rfl rfl (.int .u32 to)).set 1 2 rfl rfl (.slice A n c))
              refine bodyPost_ret (res_cs Try.results12 (by rfl) (FZ.load 1 rfl rfl Try.underlying25 (by kernel_rfl))) rfl ?_
              rw [HE.out]
              exact ⟨_, _, _, rfl, FZ.es RX.out, FZ.out, Or.inr rfl⟩
            · have c4 : decide ((12 : Int) ≤ (n : Int)) = false := by simp; omega
              have c4n : decide (12 ≤ n) = false := by simp; omega
              have HE := Lib.hid (show R = ((wa, to, ws ++ [(k, ta)]), 0) by rw [hRE2, if_neg h4])
              clear hRE2 h4
              have hsz := FR.out.sz
              simp only [List.length_cons, List.length_nil] at hsz
              have own0 : (wr.alloc (.cells #[] 53)).ownsRow (q + 2) 53 2 (.slice (some ⟨wr.heap.size, 0, none⟩) 0 0) 0 [] := World.ownsRow_lit wr #[] 0 hsz (by unfold maxLen; omega) (by simp)
              obtain ⟨v, w3, hap, hown, hgr, hvk⟩ := eapp_own (P := Try.prog) (wr.alloc (.cells #[] 53)) (q + 2) 23 23 53 i5 _ 2 16 Try.underlying23 HI.out HZ0.out HZ1.out HZ2.out rfl (by decide) _ 0 _ own0 A n c _ (Es.alloc (FR.out.es RX.out) _) (by unfold maxLen; omega) (by omega) (by simp; omega)
              rw [Nat.zero_add, List.nil_append] at hown
              have hb3 : Below (q + 2) wr w3 := ((Below.refl _ _).alloc hsz _).grown hgr (by simp; omega) (by simp [Value.ownBlock]; omega)
              obtain ⟨B, d, rfl, _⟩ := (show ∃ B d, v = .slice B n d ∧ True from by obtain ⟨B, d, h, _⟩ := Es.of_own hown (wtC_one _); exact ⟨B, d, h, trivial⟩)
              obtain ⟨A4, c4_, w9, hap4, hown4, hbel4⟩ := eapp_lit (P := Try.prog) (ty := 23) (w0 := wr) (base := q + 2) (W := w3) Try.underlying23 HI.out HZ0.out HZ1.out HZ2.out rfl (by decide) hown (wtC_one _) (wtC [(k, ta)]) (wtC_one _) (m := 1) rfl (by unfold maxLen; omega) (by omega) hb3 (Nat.le_trans hsz hb3.size)
              rw [← wtC_app] at hown4
              replace hap4 : (Builtin.append_ #[23, 23] 23 #[_, .slice (some ⟨w3.heap.size, 0, none⟩) 1 1]).run Try.prog (w3.alloc (.cells #[.int .u32 k, .int .i64 ta] 53)) = _ := hap4
              have FR9 := Lib.hid (show Fr w w9 q [.cells #[.int .u32 wa, .int .u32 to, .slice A n c] 25, .cells #[.int .u32 0, .int .u32 0, .slice none 0 0] 25] from ⟨fun k o hk => (hbel4.block (q + k) (by have : k < 2 := (List.getElem?_eq_some_iff.1 hk).1; omega)).trans (FR.out.blk k o hk), FR.out.bel.trans (hbel4.mono (by omega)), Nat.le_trans FR.out.sz hbel4.size, FR.out.q0⟩)
              have OW := Lib.hid hown4
              have c00 : wr.cell? ⟨q, 0, none⟩ = some (.int .u32 wa) := FR.out.cell 0 0 rfl rfl rfl
              have c01 : wr.cell? ⟨q, 1, none⟩ = some (.int .u32 to) := FR.out.cell 0 1 rfl rfl rfl
              have c02 : wr.cell? ⟨q, 2, none⟩ = some (.slice A n c) := FR.out.cell 0 2 rfl rfl rfl
              have a02 : (wr.alloc (.cells #[] 53)).cell? ⟨q, 2, none⟩ = some (.slice A n c) := (((Below.refl _ wr).alloc hsz (.cells #[] 53)).cell (p := ⟨q, 2, none⟩) (show q < q + 2 by omega)).trans c02
              have d00 : w3.cell? ⟨q, 0, none⟩ = some (.int .u32 wa) := (hb3.cell (p := ⟨q, 0, none⟩) (show q < q + 2 by omega)).trans c00
              have d01 : w3.cell? ⟨q, 1, none⟩ = some (.int .u32 to) := (hb3.cell (p := ⟨q, 1, none⟩) (show q < q + 2 by omega)).trans c01
              have d02 : w3.cell? ⟨q, 2, none⟩ = some (.slice A n c) := (hb3.cell (p := ⟨q, 2, none⟩) (show q < q + 2 by omega)).trans c02
              clear own0 hown hgr hvk hb3 hown4 hbel4
              have FR := FR9
              clear FR9
              have ec00 : w9.cell? ⟨q, 0, none⟩ = some (.int .u32 wa) := FR.out.cell 0 0 rfl rfl rfl
              have ef00 : w9.frozen? ⟨q, 0, none⟩ = false := FR.out.frozen 0 0 rfl rfl
              have ec01 : w9.cell? ⟨q, 1, none⟩ = some (.int .u32 to) := FR.out.cell 0 1 rfl rfl rfl
              have ef01 : w9.frozen? ⟨q, 1, none⟩ = false := FR.out.frozen 0 1 rfl rfl
              have ec02 : w9.cell? ⟨q, 2, none⟩ = some (.slice A n c) := FR.out.cell 0 2 rfl rfl rfl
              have ef02 : w9.frozen? ⟨q, 2, none⟩ = false := FR.out.frozen 0 2 rfl rfl
              have ec10 : w9.cell? ⟨q + 1, 0, none⟩ = some (.int .u32 0) := FR.out.cell 1 0 rfl rfl rfl
              have ef10 : w9.frozen? ⟨q + 1, 0, none⟩ = false := FR.out.frozen 1 0 rfl rfl
              have ec11 : w9.cell? ⟨q + 1, 1, none⟩ = some (.int .u32 0) := FR.out.cell 1 1 rfl rfl rfl
              have ef11 : w9.frozen? ⟨q + 1, 1, none⟩ = false := FR.out.frozen 1 1 rfl rfl
              have ec12 : w9.cell? ⟨q + 1, 2, none⟩ = some (.slice none 0 0) := FR.out.cell 1 2 rfl rfl rfl
              have ef12 : w9.frozen? ⟨q + 1, 2, none⟩ = false := FR.out.frozen 1 2 rfl rfl
              go_wp2_with (at_builtin; first | (refine eapp_run (by rfl) rfl rfl rfl hap ?_; clear hap) | (refine eapp_run (by rfl) rfl rfl rfl hap4 ?_; clear hap4))
              have FZ : Fr w (((w9.setCell ⟨q + 1, 0, none⟩ (.int .u32 wa)).setCell ⟨q + 1, 1, none⟩ (.int .u32 to)).setCell ⟨q + 1, 2, none⟩ (.slice A4 (n + 1) c4_)) q [.cells #[.int .u32 wa, .int .u32 to, .slice A n c] 25, .cells #[.int .u32 wa, .int .u32 to, .slice A4 (n + 1) c4_] 25] := (((FR.out.set 1 0 rfl rfl (.int .u32 wa)).set 1 1 rfl rfl (.int .u32 to)).set 1 2 rfl rfl (.slice A4 (n + 1) c4_))
              refine bodyPost_ret (res_cs Try.results12 (by rfl) (FZ.load 1 rfl rfl Try.underlying25 (by kernel_rfl))) rfl ?_
              rw [HE.out]
              have hrs := own_base (own_apart (own_apart (own_apart (OW.out) (k := q + 1) (o := 0) (u := .int .u32 wa) (by omega)) (k := q + 1) (o := 1) (u := .int .u32 to) (by omega)) (k := q + 1) (o := 2) (u := .slice A4 (n + 1) c4_) (by omega)) (show w.heap.size ≤ _ from by rw [hq]; omega)
              exact ⟨_, _, _, rfl, wts_own hrs, FZ.out, Or.inl hrs⟩
end Go.Proofs.Ytjpgmkbcjedhfaa
