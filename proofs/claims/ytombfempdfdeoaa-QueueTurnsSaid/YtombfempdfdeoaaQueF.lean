/- What the document's own Pop and Drop of layer 8 answer; for slices of up to 16384 records. -/
import Derived.Test.YtombfempdfdeoaaQueE
namespace Go.Proofs.Ytombfempdfdeoaa
set_option linter.unusedVariables false
set_option linter.unusedSimpArgs false
open Go.RowKit
def PopPost (w : World) (r : Aren × Qu × Int × Int) (e : Ending) (w' : World) : Prop :=
  ∃ B m d, e = .returned (.tuple #[.agg #[.slice B m d, .int .i64 r.1.2], .agg #[.int .i64 r.2.1.1, .int .i64 r.2.1.2], .int .i64 r.2.2.1, .int .i64 r.2.2.2]) ∧ Rs w' B m d r.1.1 ∧ Below w.heap.size w w'
theorem qBut_err {p : Aren} {q : Qu} {k : Nat} (h : (qBut p q k).2.2 ≠ 0) : (qBut p q k).1 = p ∧ (qBut p q k).2.1 = q := by
  unfold qBut at h ⊢
  split
  · exact ⟨rfl, rfl⟩
  · rename_i h2; rw [if_neg h2] at h; exact absurd rfl h
theorem qTasks_len (p : Aren) (q : Qu) : (qTasks p q).length = (qPlaces p q).length := by unfold qTasks; rw [List.length_map]
set_option maxRecDepth 100000 in
set_option maxHeartbeats 8000000 in
theorem refQPop_any (A : Option Addr) (n c : Nat) (rs : List Rec3) (fr hd tl : Int) (w : World) (hx : Rs w A n c rs) (hn : n ≤ 16384) :
    Calls Try.prog 10 #[.agg #[.slice A n c, .int .i64 fr], .agg #[.int .i64 hd, .int .i64 tl]] w (PopPost w (qPop (rs, fr) (hd, tl))) := by
  have HL2 := Lib.hid hx.len
  have RX := Lib.hid hx
  have RI := Lib.hid (fun (W : World) (h : Rs W A n c rs) => refQRight_any A n c rs fr hd tl W h hn)
  have TS := Lib.hid (fun (W : World) (h : Rs W A n c rs) => refQTasks_own A n c rs fr hd tl W h hn)
  have BT := Lib.hid (fun (k : Nat) (W : World) (h : Rs W A n c rs) (hr : qRight (rs, fr) (hd, tl) = true) (hk : k < (qPlaces (rs, fr) (hd, tl)).length) => refQBut_any A n c rs fr hd tl k W h hn hr hk)
  obtain ⟨R, hR⟩ : ∃ R, qPop (rs, fr) (hd, tl) = R := ⟨_, rfl⟩
  have HR := Lib.hid hR
  rw [hR]
  clear hx hR
  obtain ⟨v1, hv1⟩ : ∃ W, w.alloc (.cells #[.slice A n c, .int .i64 fr] 24) = W := ⟨_, rfl⟩
  have fr1 : Fr w v1 w.heap.size [.cells #[.slice A n c, .int .i64 fr] 24] := hv1 ▸ Fr.first w _
  have z1 : v1.heap.size = w.heap.size + 1 := by rw [← hv1, Fr.size1]
  obtain ⟨v2, hv2⟩ : ∃ W, v1.alloc (.cells #[.int .i64 hd, .int .i64 tl] 26) = W := ⟨_, rfl⟩
  have fr2 : Fr w v2 w.heap.size [.cells #[.slice A n c, .int .i64 fr] 24, .cells #[.int .i64 hd, .int .i64 tl] 26] := hv2 ▸ fr1.more z1 _
  have z2 : v2.heap.size = w.heap.size + 2 := by rw [← hv2, Fr.size1, z1]
  obtain ⟨v3, hv3⟩ : ∃ W, v2.alloc (.cells #[.slice none 0 0, .int .i64 0] 24) = W := ⟨_, rfl⟩
  have fr3 : Fr w v3 w.heap.size [.cells #[.slice A n c, .int .i64 fr] 24, .cells #[.int .i64 hd, .int .i64 tl] 26, .cells #[.slice none 0 0, .int .i64 0] 24] := hv3 ▸ fr2.more z2 _
  have z3 : v3.heap.size = w.heap.size + 3 := by rw [← hv3, Fr.size1, z2]
  obtain ⟨v4, hv4⟩ : ∃ W, v3.alloc (.cells #[.int .i64 0, .int .i64 0] 26) = W := ⟨_, rfl⟩
  have fr4 : Fr w v4 w.heap.size [.cells #[.slice A n c, .int .i64 fr] 24, .cells #[.int .i64 hd, .int .i64 tl] 26, .cells #[.slice none 0 0, .int .i64 0] 24, .cells #[.int .i64 0, .int .i64 0] 26] := hv4 ▸ fr3.more z3 _
  have z4 : v4.heap.size = w.heap.size + 4 := by rw [← hv4, Fr.size1, z3]
  generalize hq : w.heap.size = q at *
  have FR := Lib.hid fr4
  clear fr1 fr2 fr3 fr4
  have R1 := RI.out _ (FR.out.es RX.out)
  cases hr : qRight (rs, fr) (hd, tl)
  · have HE := Lib.hid (show R = ((rs, fr), (hd, tl), 0, 1) by rw [← HR.out]; unfold qPop; rw [if_pos hr])
    rw [hr] at R1
    replace R1 := Lib.hid R1
    clear hr
    go_enter Try.func10, Try.ntmps10
    have c00 : v4.cell? ⟨q, 0, none⟩ = some (.slice A n c) := FR.out.cell 0 0 rfl rfl rfl
    have c01 : v4.cell? ⟨q, 1, none⟩ = some (.int .i64 fr) := FR.out.cell 0 1 rfl rfl rfl
    have c10 : v4.cell? ⟨q + 1, 0, none⟩ = some (.int .i64 hd) := FR.out.cell 1 0 rfl rfl rfl
    have c11 : v4.cell? ⟨q + 1, 1, none⟩ = some (.int .i64 tl) := FR.out.cell 1 1 rfl rfl rfl
    have c20 : v4.cell? ⟨q + 2, 0, none⟩ = some (.slice none 0 0) := FR.out.cell 2 0 rfl rfl rfl
    have c21 : v4.cell? ⟨q + 2, 1, none⟩ = some (.int .i64 0) := FR.out.cell 2 1 rfl rfl rfl
    have c30 : v4.cell? ⟨q + 3, 0, none⟩ = some (.int .i64 0) := FR.out.cell 3 0 rfl rfl rfl
    have c31 : v4.cell? ⟨q + 3, 1, none⟩ = some (.int .i64 0) := FR.out.cell 3 1 rfl rfl rfl
    go_wp2_with fail
    refine (R1.out).mono ?_
    rintro e w5 ⟨rfl, hb⟩
    clear c00 c01 c10 c11 c20 c21 c30 c31
    replace FR := Lib.hid (FR.out.step hb)
    clear hb
    have nz02 : q ≠ q + 2 := by omega
    have nz03 : q ≠ q + 3 := by omega
    have nz12 : q + 1 ≠ q + 2 := by omega
    have nz13 : q + 1 ≠ q + 3 := by omega
    have c20 : w5.cell? ⟨q + 2, 0, none⟩ = some (.slice none 0 0) := FR.out.cell 2 0 rfl rfl rfl
    have f20 : w5.frozen? ⟨q + 2, 0, none⟩ = false := FR.out.frozen 2 0 rfl rfl
    have c21 : w5.cell? ⟨q + 2, 1, none⟩ = some (.int .i64 0) := FR.out.cell 2 1 rfl rfl rfl
    have f21 : w5.frozen? ⟨q + 2, 1, none⟩ = false := FR.out.frozen 2 1 rfl rfl
    have c30 : w5.cell? ⟨q + 3, 0, none⟩ = some (.int .i64 0) := FR.out.cell 3 0 rfl rfl rfl
    have f30 : w5.frozen? ⟨q + 3, 0, none⟩ = false := FR.out.frozen 3 0 rfl rfl
    have c31 : w5.cell? ⟨q + 3, 1, none⟩ = some (.int .i64 0) := FR.out.cell 3 1 rfl rfl rfl
    have f31 : w5.frozen? ⟨q + 3, 1, none⟩ = false := FR.out.frozen 3 1 rfl rfl
    go_wp2
    refine wp_region_noPanic ?_
    refine wp_region_held_drew (S := (fun wv => Hid (wv.heap[q]? = some (.cells #[.slice A n c, .int .i64 fr] 24) ∧ wv.heap[q + 1]? = some (.cells #[.int .i64 hd, .int .i64 tl] 26) ∧ Below q w wv))) (by kernel_rfl) (Lib.hid ⟨FR.out.blk 0 _ rfl, FR.out.blk 1 _ rfl, FR.out.bel.drew⟩) (fun hS => ?_)
    refine wpAnyH_take (i := 0) (oi := ⟨some 16, .load 24 (.tmp 2), 24, "ref.go:100", #[], none⟩) (v := .agg (([.slice A n c, .int .i64 fr] : List Value)).toArray) rfl (by kernel_rfl) (by kernel_rfl) (by kernel_rfl) (fun _ _ _ h => h) (yieldsIf_load_mid (by rfl) _ _ (by rfl) (q) 0 (by rfl) (([.slice A n c, .int .i64 fr] : List Value)) _ (fun wv hS => blk_rngl hS.out.1) Try.underlying24 (by rfl) (by kernel_rfl)) hS ?_
    try simp only [Act.put, List.setIfInBounds_toArray, List.set_cons_zero, List.set_cons_succ]
    refine wpAnyH_take (i := 1) (oi := ⟨some 17, .load 26 (.tmp 3), 26, "ref.go:100", #[⟨2, .gcOnly .lateStores⟩], none⟩) (v := .agg (([.int .i64 hd, .int .i64 tl] : List Value)).toArray) rfl (by kernel_rfl) (by kernel_rfl) (by kernel_rfl) (fun _ _ _ h => h) (yieldsIf_load_mid (by rfl) _ _ (by rfl) (q + 1) 0 (by rfl) (([.int .i64 hd, .int .i64 tl] : List Value)) _ (fun wv hS => blk_rngl hS.out.2.1) Try.underlying26 (by rfl) (by kernel_rfl)) hS ?_
    try simp only [Act.put, List.setIfInBounds_toArray, List.set_cons_zero, List.set_cons_succ]
    refine wpAnyH_ready (rs := [2]) (by kernel_rfl) (by simp) (AllReadyH.cons (o := ⟨none, .store 24 (.tmp 4) (.tmp 16), 0, "ref.go:100", #[⟨0, .data⟩, ⟨0, .phase⟩, ⟨1, .textOnly .lateStores⟩], none⟩) rfl (fun K hK => ?_) AllReadyH.nil)
    go_simp
    replace hS := Lib.hid (And.intro (keep_pair hS.out.1 nz02 (.slice A n c) (.int .i64 fr)) (And.intro (keep_pair hS.out.2.1 nz12 (.slice A n c) (.int .i64 fr)) (bel_pair hS.out.2.2 (show q ≤ q + 2 by omega) (.slice A n c) (.int .i64 fr))))
    refine Shut.out hK _ _ hS (fun _ => ?_)
    clear hK K
    try simp only [Act.put, List.setIfInBounds_toArray, List.set_cons_zero, List.set_cons_succ]
    refine wpAnyH_ready (rs := [3]) (by kernel_rfl) (by simp) (AllReadyH.cons (o := ⟨none, .store 26 (.tmp 5) (.tmp 17), 0, "ref.go:100", #[⟨1, .data⟩, ⟨2, .chain⟩, ⟨0, .phase⟩, ⟨1, .phase⟩, ⟨2, .phase⟩], none⟩) rfl (fun K hK => ?_) AllReadyH.nil)
    go_simp
    replace hS := Lib.hid (And.intro (keep_pair hS.out.1 nz03 (.int .i64 hd) (.int .i64 tl)) (And.intro (keep_pair hS.out.2.1 nz13 (.int .i64 hd) (.int .i64 tl)) (bel_pair hS.out.2.2 (show q ≤ q + 3 by omega) (.int .i64 hd) (.int .i64 tl))))
    refine Shut.out hK _ _ hS (fun _ => ?_)
    clear hK K
    try simp only [Act.put, List.setIfInBounds_toArray, List.set_cons_zero, List.set_cons_succ]
    refine wpAnyH_take (i := 4) (oi := ⟨some 6, .assign (.const (Value.int IntKind.i64 0)), 3, "ref.go:100", #[⟨3, .chain⟩, ⟨0, .phase⟩, ⟨1, .phase⟩, ⟨2, .phase⟩, ⟨3, .phase⟩], none⟩) (v := ?_) rfl (by kernel_rfl) (by kernel_rfl) (by kernel_rfl) (fun _ _ _ h => h) (Or.inl ⟨by rfl, ?_⟩) hS ?_
    rotate_left
    · intro wv _; go_simp; try with_reducible rfl
    try simp only [Act.put, List.setIfInBounds_toArray, List.set_cons_zero, List.set_cons_succ]
    refine wpAnyH_take (i := 5) (oi := ⟨some 7, .assign (.const (Value.int IntKind.i64 1)), 29, "ref.go:100", #[⟨4, .chain⟩, ⟨0, .phase⟩, ⟨1, .phase⟩, ⟨2, .phase⟩, ⟨3, .phase⟩, ⟨4, .phase⟩], none⟩) (v := ?_) rfl (by kernel_rfl) (by kernel_rfl) (by kernel_rfl) (fun _ _ _ h => h) (Or.inl ⟨by rfl, ?_⟩) hS ?_
    rotate_left
    · intro wv _; go_simp; try with_reducible rfl
    try simp only [Act.put, List.setIfInBounds_toArray, List.set_cons_zero, List.set_cons_succ]
    refine wpAnyH_done (by kernel_rfl) ?_ _
    refine NoPanic.normal ?_
    go_wp2
    have FZ : Fr w (((((w5.setCell ⟨q + 2, 0, none⟩ (.slice A n c)).setCell ⟨q + 2, 1, none⟩ (.int .i64 fr)).setCell ⟨q + 3, 0, none⟩ (.int .i64 hd)).setCell ⟨q + 3, 1, none⟩ (.int .i64 tl))).drew q [.cells #[.slice A n c, .int .i64 fr] 24, .cells #[.int .i64 hd, .int .i64 tl] 26, .cells #[.slice A n c, .int .i64 fr] 24, .cells #[.int .i64 hd, .int .i64 tl] 26] := (((((FR.out.set 2 0 rfl rfl (.slice A n c)).set 2 1 rfl rfl (.int .i64 fr)).set 3 0 rfl rfl (.int .i64 hd)).set 3 1 rfl rfl (.int .i64 tl))).drew
    refine bodyPost_ret (res_ccss Try.results10 (by rfl) (by rfl) (FZ.load 2 rfl rfl Try.underlying24 (by kernel_rfl)) (FZ.load 3 rfl rfl Try.underlying26 (by kernel_rfl))) rfl ?_
    rw [HE.out]
    exact ⟨_, _, _, rfl, FZ.es RX.out, FZ.out⟩
  · rw [hr] at R1
    replace R1 := Lib.hid R1
    have hsm : n ≤ 64 := by have := right_small (qRight_right hr); rw [← HL2.out]; exact this
    have hpn := (qPlaces_places (rs, fr) (hd, tl)).len
    simp only [HL2.out] at hpn
    have htl := qTasks_len (rs, fr) (hd, tl)
    have B1 := fun (W : World) (h : Rs W A n c rs) (h0 : 0 < (qPlaces (rs, fr) (hd, tl)).length) => BT.out 0 W h hr h0
    have T1 := fun (W : World) (h : Rs W A n c rs) => TS.out W h
    have hE : R = if qTasks (rs, fr) (hd, tl) = [] then ((rs, fr), (hd, tl), 0, 7) else if (qBut (rs, fr) (hd, tl) 0).2.2 ≠ 0 then ((rs, fr), (hd, tl), 0, (qBut (rs, fr) (hd, tl) 0).2.2) else ((qBut (rs, fr) (hd, tl) 0).1, (qBut (rs, fr) (hd, tl) 0).2.1, (qTasks (rs, fr) (hd, tl)).headD 0, 0) := by rw [← HR.out]; unfold qPop; rw [if_neg (by rw [hr]; simp)]
    obtain ⟨pl, hpl⟩ : ∃ pl, (qPlaces (rs, fr) (hd, tl)).length = pl := ⟨_, rfl⟩
    obtain ⟨ts, hts⟩ : ∃ ts, qTasks (rs, fr) (hd, tl) = ts := ⟨_, rfl⟩
    obtain ⟨rg, fg, qh, qt, eg, hG⟩ : ∃ rg fg qh qt eg, qBut (rs, fr) (hd, tl) 0 = ((rg, fg), (qh, qt), eg) := ⟨_, _, _, _, _, rfl⟩
    rw [hG] at B1 hE
    rw [hts] at T1 hE htl
    rw [hpl] at B1 htl hpn
    simp only at hE
    replace B1 : ∀ (W : World), Rs W A n c rs → 0 < pl → Calls Try.prog 29 #[.agg #[.slice A n c, .int .i64 fr], .agg #[.int .i64 hd, .int .i64 tl], .int .i64 0] W (QPost W A n c ((rg, fg), (qh, qt), eg)) := B1
    replace B1 := Lib.hid B1; replace T1 := Lib.hid T1
    clear hr hG hts hpl BT TS RI
    by_cases h0 : ts = []
    · have HE := Lib.hid (show R = ((rs, fr), (hd, tl), 0, 7) by rw [hE, if_pos h0])
      have hl0 : ts.length = 0 := by rw [h0]; rfl
      clear hE h0
      go_enter Try.func10, Try.ntmps10
      have c00 : v4.cell? ⟨q, 0, none⟩ = some (.slice A n c) := FR.out.cell 0 0 rfl rfl rfl
      have c01 : v4.cell? ⟨q, 1, none⟩ = some (.int .i64 fr) := FR.out.cell 0 1 rfl rfl rfl
      have c10 : v4.cell? ⟨q + 1, 0, none⟩ = some (.int .i64 hd) := FR.out.cell 1 0 rfl rfl rfl
      have c11 : v4.cell? ⟨q + 1, 1, none⟩ = some (.int .i64 tl) := FR.out.cell 1 1 rfl rfl rfl
      have c20 : v4.cell? ⟨q + 2, 0, none⟩ = some (.slice none 0 0) := FR.out.cell 2 0 rfl rfl rfl
      have c21 : v4.cell? ⟨q + 2, 1, none⟩ = some (.int .i64 0) := FR.out.cell 2 1 rfl rfl rfl
      have c30 : v4.cell? ⟨q + 3, 0, none⟩ = some (.int .i64 0) := FR.out.cell 3 0 rfl rfl rfl
      have c31 : v4.cell? ⟨q + 3, 1, none⟩ = some (.int .i64 0) := FR.out.cell 3 1 rfl rfl rfl
      go_wp2_with fail
      refine (R1.out).mono ?_
      rintro e w5 ⟨rfl, hb⟩
      clear c00 c01 c10 c11 c20 c21 c30 c31
      replace FR := Lib.hid (FR.out.step hb)
      clear hb
      have c00 : w5.cell? ⟨q, 0, none⟩ = some (.slice A n c) := FR.out.cell 0 0 rfl rfl rfl
      have c01 : w5.cell? ⟨q, 1, none⟩ = some (.int .i64 fr) := FR.out.cell 0 1 rfl rfl rfl
      have c10 : w5.cell? ⟨q + 1, 0, none⟩ = some (.int .i64 hd) := FR.out.cell 1 0 rfl rfl rfl
      have c11 : w5.cell? ⟨q + 1, 1, none⟩ = some (.int .i64 tl) := FR.out.cell 1 1 rfl rfl rfl
      have c20 : w5.cell? ⟨q + 2, 0, none⟩ = some (.slice none 0 0) := FR.out.cell 2 0 rfl rfl rfl
      have c21 : w5.cell? ⟨q + 2, 1, none⟩ = some (.int .i64 0) := FR.out.cell 2 1 rfl rfl rfl
      have c30 : w5.cell? ⟨q + 3, 0, none⟩ = some (.int .i64 0) := FR.out.cell 3 0 rfl rfl rfl
      have c31 : w5.cell? ⟨q + 3, 1, none⟩ = some (.int .i64 0) := FR.out.cell 3 1 rfl rfl rfl
      go_wp2_with fail
      refine ((T1.out _ (FR.out.es RX.out))).mono ?_
      rintro e w6 ⟨C, m, c2, rfl, his, hb⟩
      clear c00 c01 c10 c11 c20 c21 c30 c31
      replace FR := Lib.hid (FR.out.step hb)
      clear hb
      have hm0 : m = 0 := by have := his.1; rw [intC_len] at this; omega
      have b1 : ((m : Int) == 0) = true := by simp [hm0]
      clear his hm0
      have nz02 : q ≠ q + 2 := by omega
      have nz03 : q ≠ q + 3 := by omega
      have nz12 : q + 1 ≠ q + 2 := by omega
      have nz13 : q + 1 ≠ q + 3 := by omega
      have c20 : w6.cell? ⟨q + 2, 0, none⟩ = some (.slice none 0 0) := FR.out.cell 2 0 rfl rfl rfl
      have f20 : w6.frozen? ⟨q + 2, 0, none⟩ = false := FR.out.frozen 2 0 rfl rfl
      have c21 : w6.cell? ⟨q + 2, 1, none⟩ = some (.int .i64 0) := FR.out.cell 2 1 rfl rfl rfl
      have f21 : w6.frozen? ⟨q + 2, 1, none⟩ = false := FR.out.frozen 2 1 rfl rfl
      have c30 : w6.cell? ⟨q + 3, 0, none⟩ = some (.int .i64 0) := FR.out.cell 3 0 rfl rfl rfl
      have f30 : w6.frozen? ⟨q + 3, 0, none⟩ = false := FR.out.frozen 3 0 rfl rfl
      have c31 : w6.cell? ⟨q + 3, 1, none⟩ = some (.int .i64 0) := FR.out.cell 3 1 rfl rfl rfl
      have f31 : w6.frozen? ⟨q + 3, 1, none⟩ = false := FR.out.frozen 3 1 rfl rfl
      go_wp2
      refine wp_region_noPanic ?_
      refine wp_region_held_drew (S := (fun wv => Hid (wv.heap[q]? = some (.cells #[.slice A n c, .int .i64 fr] 24) ∧ wv.heap[q + 1]? = some (.cells #[.int .i64 hd, .int .i64 tl] 26) ∧ Below q w wv))) (by kernel_rfl) (Lib.hid ⟨FR.out.blk 0 _ rfl, FR.out.blk 1 _ rfl, FR.out.bel.drew⟩) (fun hS => ?_)
      refine wpAnyH_take (i := 0) (oi := ⟨some 24, .load 24 (.tmp 2), 24, "ref.go:104", #[], none⟩) (v := .agg (([.slice A n c, .int .i64 fr] : List Value)).toArray) rfl (by kernel_rfl) (by kernel_rfl) (by kernel_rfl) (fun _ _ _ h => h) (yieldsIf_load_mid (by rfl) _ _ (by rfl) (q) 0 (by rfl) (([.slice A n c, .int .i64 fr] : List Value)) _ (fun wv hS => blk_rngl hS.out.1) Try.underlying24 (by rfl) (by kernel_rfl)) hS ?_
      try simp only [Act.put, List.setIfInBounds_toArray, List.set_cons_zero, List.set_cons_succ]
      refine wpAnyH_take (i := 1) (oi := ⟨some 25, .load 26 (.tmp 3), 26, "ref.go:104", #[⟨2, .gcOnly .lateStores⟩], none⟩) (v := .agg (([.int .i64 hd, .int .i64 tl] : List Value)).toArray) rfl (by kernel_rfl) (by kernel_rfl) (by kernel_rfl) (fun _ _ _ h => h) (yieldsIf_load_mid (by rfl) _ _ (by rfl) (q + 1) 0 (by rfl) (([.int .i64 hd, .int .i64 tl] : List Value)) _ (fun wv hS => blk_rngl hS.out.2.1) Try.underlying26 (by rfl) (by kernel_rfl)) hS ?_
      try simp only [Act.put, List.setIfInBounds_toArray, List.set_cons_zero, List.set_cons_succ]
      refine wpAnyH_ready (rs := [2]) (by kernel_rfl) (by simp) (AllReadyH.cons (o := ⟨none, .store 24 (.tmp 4) (.tmp 24), 0, "ref.go:104", #[⟨0, .data⟩, ⟨0, .phase⟩, ⟨1, .textOnly .lateStores⟩], none⟩) rfl (fun K hK => ?_) AllReadyH.nil)
      go_simp
      replace hS := Lib.hid (And.intro (keep_pair hS.out.1 nz02 (.slice A n c) (.int .i64 fr)) (And.intro (keep_pair hS.out.2.1 nz12 (.slice A n c) (.int .i64 fr)) (bel_pair hS.out.2.2 (show q ≤ q + 2 by omega) (.slice A n c) (.int .i64 fr))))
      refine Shut.out hK _ _ hS (fun _ => ?_)
      clear hK K
      try simp only [Act.put, List.setIfInBounds_toArray, List.set_cons_zero, List.set_cons_succ]
      refine wpAnyH_ready (rs := [3]) (by kernel_rfl) (by simp) (AllReadyH.cons (o := ⟨none, .store 26 (.tmp 5) (.tmp 25), 0, "ref.go:104", #[⟨1, .data⟩, ⟨2, .chain⟩, ⟨0, .phase⟩, ⟨1, .phase⟩, ⟨2, .phase⟩], none⟩) rfl (fun K hK => ?_) AllReadyH.nil)
      go_simp
      replace hS := Lib.hid (And.intro (keep_pair hS.out.1 nz03 (.int .i64 hd) (.int .i64 tl)) (And.intro (keep_pair hS.out.2.1 nz13 (.int .i64 hd) (.int .i64 tl)) (bel_pair hS.out.2.2 (show q ≤ q + 3 by omega) (.int .i64 hd) (.int .i64 tl))))
      refine Shut.out hK _ _ hS (fun _ => ?_)
      clear hK K
      try simp only [Act.put, List.setIfInBounds_toArray, List.set_cons_zero, List.set_cons_succ]
      refine wpAnyH_take (i := 4) (oi := ⟨some 6, .assign (.const (Value.int IntKind.i64 0)), 3, "ref.go:104", #[⟨3, .chain⟩, ⟨0, .phase⟩, ⟨1, .phase⟩, ⟨2, .phase⟩, ⟨3, .phase⟩], none⟩) (v := ?_) rfl (by kernel_rfl) (by kernel_rfl) (by kernel_rfl) (fun _ _ _ h => h) (Or.inl ⟨by rfl, ?_⟩) hS ?_
      rotate_left
      · intro wv _; go_simp; try with_reducible rfl
      try simp only [Act.put, List.setIfInBounds_toArray, List.set_cons_zero, List.set_cons_succ]
      refine wpAnyH_take (i := 5) (oi := ⟨some 7, .assign (.const (Value.int IntKind.i64 7)), 29, "ref.go:104", #[⟨4, .chain⟩, ⟨0, .phase⟩, ⟨1, .phase⟩, ⟨2, .phase⟩, ⟨3, .phase⟩, ⟨4, .phase⟩], none⟩) (v := ?_) rfl (by kernel_rfl) (by kernel_rfl) (by kernel_rfl) (fun _ _ _ h => h) (Or.inl ⟨by rfl, ?_⟩) hS ?_
      rotate_left
      · intro wv _; go_simp; try with_reducible rfl
      try simp only [Act.put, List.setIfInBounds_toArray, List.set_cons_zero, List.set_cons_succ]
      refine wpAnyH_done (by kernel_rfl) ?_ _
      refine NoPanic.normal ?_
      go_wp2
      have FZ : Fr w (((((w6.setCell ⟨q + 2, 0, none⟩ (.slice A n c)).setCell ⟨q + 2, 1, none⟩ (.int .i64 fr)).setCell ⟨q + 3, 0, none⟩ (.int .i64 hd)).setCell ⟨q + 3, 1, none⟩ (.int .i64 tl))).drew q [.cells #[.slice A n c, .int .i64 fr] 24, .cells #[.int .i64 hd, .int .i64 tl] 26, .cells #[.slice A n c, .int .i64 fr] 24, .cells #[.int .i64 hd, .int .i64 tl] 26] := (((((FR.out.set 2 0 rfl rfl (.slice A n c)).set 2 1 rfl rfl (.int .i64 fr)).set 3 0 rfl rfl (.int .i64 hd)).set 3 1 rfl rfl (.int .i64 tl))).drew
      refine bodyPost_ret (res_ccss Try.results10 (by rfl) (by rfl) (FZ.load 2 rfl rfl Try.underlying24 (by kernel_rfl)) (FZ.load 3 rfl rfl Try.underlying26 (by kernel_rfl))) rfl ?_
      rw [HE.out]
      exact ⟨_, _, _, rfl, FZ.es RX.out, FZ.out⟩
    · have hl0 : 0 < ts.length := List.length_pos_iff.2 h0
      rw [if_neg h0] at hE
      have hp0 : 0 < pl := by omega
      have HE0 := Lib.hid hE
      clear hE
      go_enter Try.func10, Try.ntmps10
      have c00 : v4.cell? ⟨q, 0, none⟩ = some (.slice A n c) := FR.out.cell 0 0 rfl rfl rfl
      have c01 : v4.cell? ⟨q, 1, none⟩ = some (.int .i64 fr) := FR.out.cell 0 1 rfl rfl rfl
      have c10 : v4.cell? ⟨q + 1, 0, none⟩ = some (.int .i64 hd) := FR.out.cell 1 0 rfl rfl rfl
      have c11 : v4.cell? ⟨q + 1, 1, none⟩ = some (.int .i64 tl) := FR.out.cell 1 1 rfl rfl rfl
      have c20 : v4.cell? ⟨q + 2, 0, none⟩ = some (.slice none 0 0) := FR.out.cell 2 0 rfl rfl rfl
      have c21 : v4.cell? ⟨q + 2, 1, none⟩ = some (.int .i64 0) := FR.out.cell 2 1 rfl rfl rfl
      have c30 : v4.cell? ⟨q + 3, 0, none⟩ = some (.int .i64 0) := FR.out.cell 3 0 rfl rfl rfl
      have c31 : v4.cell? ⟨q + 3, 1, none⟩ = some (.int .i64 0) := FR.out.cell 3 1 rfl rfl rfl
      go_wp2_with fail
      refine (R1.out).mono ?_
      rintro e w5 ⟨rfl, hb⟩
      clear c00 c01 c10 c11 c20 c21 c30 c31
      replace FR := Lib.hid (FR.out.step hb)
      clear hb
      have FR0 := FR.out.sz
      simp only [List.length_cons, List.length_nil] at FR0
      have c00 : w5.cell? ⟨q, 0, none⟩ = some (.slice A n c) := FR.out.cell 0 0 rfl rfl rfl
      have c01 : w5.cell? ⟨q, 1, none⟩ = some (.int .i64 fr) := FR.out.cell 0 1 rfl rfl rfl
      have c10 : w5.cell? ⟨q + 1, 0, none⟩ = some (.int .i64 hd) := FR.out.cell 1 0 rfl rfl rfl
      have c11 : w5.cell? ⟨q + 1, 1, none⟩ = some (.int .i64 tl) := FR.out.cell 1 1 rfl rfl rfl
      have c20 : w5.cell? ⟨q + 2, 0, none⟩ = some (.slice none 0 0) := FR.out.cell 2 0 rfl rfl rfl
      have c21 : w5.cell? ⟨q + 2, 1, none⟩ = some (.int .i64 0) := FR.out.cell 2 1 rfl rfl rfl
      have c30 : w5.cell? ⟨q + 3, 0, none⟩ = some (.int .i64 0) := FR.out.cell 3 0 rfl rfl rfl
      have c31 : w5.cell? ⟨q + 3, 1, none⟩ = some (.int .i64 0) := FR.out.cell 3 1 rfl rfl rfl
      go_wp2_with fail
      refine ((T1.out _ (FR.out.es RX.out))).mono ?_
      rintro e w6 ⟨C, m, c2, rfl, hown, hb⟩
      clear c00 c01 c10 c11 c20 c21 c30 c31
      replace FR := Lib.hid (FR.out.step hb)
      clear hb
      have hm : ts.length = m := by have := hown.1; rw [intC_len] at this; omega
      obtain ⟨g, rfl, hg1, hg2⟩ := own_g hown (by omega)
      obtain ⟨_, _, he, hit⟩ := Es.of_own hown (intC_one _)
      injection he with he1 he2 he3; subst he1; subst he3
      have IT := Lib.hid hit
      have b1 : ((m : Int) == 0) = false := by simp; omega
      clear hown hit
      have FR1 := FR.out.sz
      simp only [List.length_cons, List.length_nil] at FR1
      have c00 : w6.cell? ⟨q, 0, none⟩ = some (.slice A n c) := FR.out.cell 0 0 rfl rfl rfl
      have c01 : w6.cell? ⟨q, 1, none⟩ = some (.int .i64 fr) := FR.out.cell 0 1 rfl rfl rfl
      have c10 : w6.cell? ⟨q + 1, 0, none⟩ = some (.int .i64 hd) := FR.out.cell 1 0 rfl rfl rfl
      have c11 : w6.cell? ⟨q + 1, 1, none⟩ = some (.int .i64 tl) := FR.out.cell 1 1 rfl rfl rfl
      have c20 : w6.cell? ⟨q + 2, 0, none⟩ = some (.slice none 0 0) := FR.out.cell 2 0 rfl rfl rfl
      have c21 : w6.cell? ⟨q + 2, 1, none⟩ = some (.int .i64 0) := FR.out.cell 2 1 rfl rfl rfl
      have c30 : w6.cell? ⟨q + 3, 0, none⟩ = some (.int .i64 0) := FR.out.cell 3 0 rfl rfl rfl
      have c31 : w6.cell? ⟨q + 3, 1, none⟩ = some (.int .i64 0) := FR.out.cell 3 1 rfl rfl rfl
      go_wp2_with fail
      refine ((B1.out _ (FR.out.es RX.out) hp0)).mono ?_
      rintro e w7 ⟨B, m2, d2, rfl, hrs, hb, hown, _⟩
      clear c00 c01 c10 c11 c20 c21 c30 c31
      replace FR := Lib.hid (FR.out.step hb)
      replace IT := Lib.hid (Es.below IT.out hb)
      have OB := Lib.hid (fun h => own_base (hown h) (show q + 4 ≤ _ from FR1))
      clear hrs hown hb
      by_cases he0 : eg = 0
      · have b2 : (eg != 0) = false := by simp [he0]
        have HE := Lib.hid (show R = ((rg, fg), (qh, qt), ts.headD 0, 0) by rw [HE0.out, if_neg (by simp [he0])])
        replace OB := Lib.hid (OB.out he0)
        clear he0
        have gex := FR.out.sz
        simp only [List.length_cons, List.length_nil] at gex
        obtain ⟨w8, hw8⟩ : ∃ W, (w7.alloc (.cells #[.slice B m2 d2, .int .i64 fg] 24)).alloc (.cells #[.int .i64 qh, .int .i64 qt] 26) = W := ⟨_, rfl⟩
        have hb : Below w7.heap.size w7 w8 := hw8 ▸ ((Below.refl _ _).alloc (Nat.le_refl _) _).alloc (by simp) _
        have hv : w8.heap[w7.heap.size]? = some (.cells #[.slice B m2 d2, .int .i64 fg] 24) := hw8 ▸ (heap_alloc_old _ _ (by simp)).trans (heap_alloc_new _ _)
        have hv2 : w8.heap[w7.heap.size + 1]? = some (.cells #[.int .i64 qh, .int .i64 qt] 26) := by have := heap_alloc_new (w7.alloc (.cells #[.slice B m2 d2, .int .i64 fg] 24)) (.cells #[.int .i64 qh, .int .i64 qt] 26); rw [hw8] at this; simpa using this
        replace FR := Lib.hid (FR.out.step hb)
        replace IT := Lib.hid (Es.below IT.out hb)
        replace OB := Lib.hid (own_below OB.out hb)
        have Vx := Lib.hid hv
        have Vy := Lib.hid hv2
        generalize hsx : w7.heap.size = sx at *
        clear hb hv hv2
        obtain ⟨lb, loff, t0, hA, hlb, hlc, hdr⟩ := (show Is _ _ m c2 ts from IT.out).look 0 (by omega)
        injection hA with hA; injection hA with h1 h2; subst h1; subst h2
        have HT := Lib.hid (show ts.headD 0 = t0 by rw [List.drop_zero] at hdr; rw [hdr]; rfl)
        simp only [Nat.add_zero] at hlc
        have hm0 : 0 < m := by omega
        have hm1 : (0 : Int) < (m : Int) := by omega
        clear hdr
        have nz02 : sx ≠ q + 2 := by omega
        have nz03 : sx ≠ q + 3 := by omega
        have nz12 : sx + 1 ≠ q + 2 := by omega
        have nz13 : sx + 1 ≠ q + 3 := by omega
        have nc02 : g ≠ q + 2 := by omega
        have nc03 : g ≠ q + 3 := by omega
        have c20 : w8.cell? ⟨q + 2, 0, none⟩ = some (.slice none 0 0) := FR.out.cell 2 0 rfl rfl rfl
        have f20 : w8.frozen? ⟨q + 2, 0, none⟩ = false := FR.out.frozen 2 0 rfl rfl
        have c21 : w8.cell? ⟨q + 2, 1, none⟩ = some (.int .i64 0) := FR.out.cell 2 1 rfl rfl rfl
        have f21 : w8.frozen? ⟨q + 2, 1, none⟩ = false := FR.out.frozen 2 1 rfl rfl
        have c30 : w8.cell? ⟨q + 3, 0, none⟩ = some (.int .i64 0) := FR.out.cell 3 0 rfl rfl rfl
        have f30 : w8.frozen? ⟨q + 3, 0, none⟩ = false := FR.out.frozen 3 0 rfl rfl
        have c31 : w8.cell? ⟨q + 3, 1, none⟩ = some (.int .i64 0) := FR.out.cell 3 1 rfl rfl rfl
        have f31 : w8.frozen? ⟨q + 3, 1, none⟩ = false := FR.out.frozen 3 1 rfl rfl
        have cx0 : w8.cell? ⟨sx, 0, none⟩ = some (.slice B m2 d2) := (blk_cell Vx.out 0).trans rfl
        have fx0 : w8.frozen? ⟨sx, 0, none⟩ = false := blk_frozen Vx.out 0
        have cx1 : w8.cell? ⟨sx, 1, none⟩ = some (.int .i64 fg) := (blk_cell Vx.out 1).trans rfl
        have fx1 : w8.frozen? ⟨sx, 1, none⟩ = false := blk_frozen Vx.out 1
        have cy0 : w8.cell? ⟨sx + 1, 0, none⟩ = some (.int .i64 qh) := (blk_cell Vy.out 0).trans rfl
        have fy0 : w8.frozen? ⟨sx + 1, 0, none⟩ = false := blk_frozen Vy.out 0
        have cy1 : w8.cell? ⟨sx + 1, 1, none⟩ = some (.int .i64 qt) := (blk_cell Vy.out 1).trans rfl
        have fy1 : w8.frozen? ⟨sx + 1, 1, none⟩ = false := blk_frozen Vy.out 1
        go_wp2
        refine wp_region_noPanic ?_
        refine wp_region_held_drew (S := (fun wv => Hid (wv.heap[sx]? = some (.cells #[.slice B m2 d2, .int .i64 fg] 24) ∧ wv.heap[sx + 1]? = some (.cells #[.int .i64 qh, .int .i64 qt] 26) ∧ wv.cell? ⟨g, 0, none⟩ = some (.int .i64 t0) ∧ Below q w wv))) (by kernel_rfl) (Lib.hid ⟨Vx.out, Vy.out, hlc, FR.out.bel.drew⟩) (fun hS => ?_)
        refine wpAnyH_take (i := 0) (oi := ⟨some 38, .load 24 (.tmp 9), 24, "ref.go:110", #[], none⟩) (v := .agg (([.slice B m2 d2, .int .i64 fg] : List Value)).toArray) rfl (by kernel_rfl) (by kernel_rfl) (by kernel_rfl) (fun _ _ _ h => h) (yieldsIf_load_mid (by rfl) _ _ (by rfl) (sx) 0 (by rfl) (([.slice B m2 d2, .int .i64 fg] : List Value)) _ (fun wv hS => blk_rngl hS.out.1) Try.underlying24 (by rfl) (by kernel_rfl)) hS ?_
        try simp only [Act.put, List.setIfInBounds_toArray, List.set_cons_zero, List.set_cons_succ]
        refine wpAnyH_take (i := 1) (oi := ⟨some 39, .load 26 (.tmp 10), 26, "ref.go:110", #[⟨5, .gcOnly .lateStores⟩], none⟩) (v := .agg (([.int .i64 qh, .int .i64 qt] : List Value)).toArray) rfl (by kernel_rfl) (by kernel_rfl) (by kernel_rfl) (fun _ _ _ h => h) (yieldsIf_load_mid (by rfl) _ _ (by rfl) (sx + 1) 0 (by rfl) (([.int .i64 qh, .int .i64 qt] : List Value)) _ (fun wv hS => blk_rngl hS.out.2.1) Try.underlying26 (by rfl) (by kernel_rfl)) hS ?_
        try simp only [Act.put, List.setIfInBounds_toArray, List.set_cons_zero, List.set_cons_succ]
        refine wpAnyH_take (i := 2) (oi := ⟨some 40, .move (.tmp 8), 37, "ref.go:110", #[⟨6, .gcOnly .lateStores⟩], none⟩) (v := ?_) rfl (by kernel_rfl) (by kernel_rfl) (by kernel_rfl) (fun _ _ _ h => h) (Or.inl ⟨by rfl, ?_⟩) hS ?_
        rotate_left
        · intro wv _; go_simp; try with_reducible rfl
        try simp only [Act.put, List.setIfInBounds_toArray, List.set_cons_zero, List.set_cons_succ]
        refine wpAnyH_take (i := 3) (oi := ⟨some 41, .indexAddr 37 (.tmp 40) (.const (Value.int IntKind.i64 0)), 0, "ref.go:110", #[⟨2, .data⟩, ⟨6, .gcOnly .lateStores⟩], none⟩) (v := ?_) rfl (by kernel_rfl) (by kernel_rfl) (by kernel_rfl) (fun _ _ _ h => h) (Or.inl ⟨by rfl, ?_⟩) hS ?_
        rotate_left
        · intro wv _; go_simp; try with_reducible rfl
        try simp only [Act.put, List.setIfInBounds_toArray, List.set_cons_zero, List.set_cons_succ]
        refine wpAnyH_take (i := 4) (oi := ⟨some 42, .load 3 (.tmp 41), 3, "ref.go:110", #[⟨3, .data⟩, ⟨6, .gcOnly .lateStores⟩], none⟩) (v := ?_) rfl (by kernel_rfl) (by kernel_rfl) (by kernel_rfl) (fun _ _ _ h => h) (Or.inl ⟨by rfl, ?_⟩) hS ?_
        rotate_left
        · intro wv hS; have hrun := hS.out.2.2.1; go_simp; try with_reducible rfl
        try simp only [Act.put, List.setIfInBounds_toArray, List.set_cons_zero, List.set_cons_succ]
        refine wpAnyH_ready (rs := [5]) (by kernel_rfl) (by simp) (AllReadyH.cons (o := ⟨none, .store 24 (.tmp 4) (.tmp 38), 0, "ref.go:110", #[⟨0, .data⟩, ⟨0, .phase⟩, ⟨1, .textOnly .lateStores⟩, ⟨2, .textOnly .lateStores⟩, ⟨3, .textOnly .lateStores⟩, ⟨4, .textOnly .lateStores⟩], none⟩) rfl (fun K hK => ?_) AllReadyH.nil)
        go_simp
        replace hS := Lib.hid (And.intro (keep_pair hS.out.1 nz02 (.slice B m2 d2) (.int .i64 fg)) (And.intro (keep_pair hS.out.2.1 nz12 (.slice B m2 d2) (.int .i64 fg)) (And.intro (cell_pair hS.out.2.2.1 nc02 (.slice B m2 d2) (.int .i64 fg)) (bel_pair hS.out.2.2.2 (show q ≤ q + 2 by omega) (.slice B m2 d2) (.int .i64 fg)))))
        refine Shut.out hK _ _ hS (fun _ => ?_)
        clear hK K
        try simp only [Act.put, List.setIfInBounds_toArray, List.set_cons_zero, List.set_cons_succ]
        refine wpAnyH_ready (rs := [6]) (by kernel_rfl) (by simp) (AllReadyH.cons (o := ⟨none, .store 26 (.tmp 5) (.tmp 39), 0, "ref.go:110", #[⟨1, .data⟩, ⟨5, .chain⟩, ⟨0, .phase⟩, ⟨1, .phase⟩, ⟨2, .textOnly .lateStores⟩, ⟨3, .textOnly .lateStores⟩, ⟨4, .textOnly .lateStores⟩, ⟨5, .phase⟩], none⟩) rfl (fun K hK => ?_) AllReadyH.nil)
        go_simp
        replace hS := Lib.hid (And.intro (keep_pair hS.out.1 nz03 (.int .i64 qh) (.int .i64 qt)) (And.intro (keep_pair hS.out.2.1 nz13 (.int .i64 qh) (.int .i64 qt)) (And.intro (cell_pair hS.out.2.2.1 nc03 (.int .i64 qh) (.int .i64 qt)) (bel_pair hS.out.2.2.2 (show q ≤ q + 3 by omega) (.int .i64 qh) (.int .i64 qt)))))
        refine Shut.out hK _ _ hS (fun _ => ?_)
        clear hK K
        try simp only [Act.put, List.setIfInBounds_toArray, List.set_cons_zero, List.set_cons_succ]
        refine wpAnyH_take (i := 7) (oi := ⟨some 6, .assign (.tmp 42), 3, "ref.go:110", #[⟨4, .data⟩, ⟨6, .chain⟩, ⟨0, .phase⟩, ⟨1, .phase⟩, ⟨2, .phase⟩, ⟨3, .phase⟩, ⟨4, .phase⟩, ⟨5, .phase⟩, ⟨6, .phase⟩], none⟩) (v := ?_) rfl (by kernel_rfl) (by kernel_rfl) (by kernel_rfl) (fun _ _ _ h => h) (Or.inl ⟨by rfl, ?_⟩) hS ?_
        rotate_left
        · intro wv _; go_simp; try with_reducible rfl
        try simp only [Act.put, List.setIfInBounds_toArray, List.set_cons_zero, List.set_cons_succ]
        refine wpAnyH_take (i := 8) (oi := ⟨some 7, .assign (.const (Value.int IntKind.i64 0)), 29, "ref.go:110", #[⟨7, .chain⟩, ⟨0, .phase⟩, ⟨1, .phase⟩, ⟨2, .phase⟩, ⟨3, .phase⟩, ⟨4, .phase⟩, ⟨5, .phase⟩, ⟨6, .phase⟩, ⟨7, .phase⟩], none⟩) (v := ?_) rfl (by kernel_rfl) (by kernel_rfl) (by kernel_rfl) (fun _ _ _ h => h) (Or.inl ⟨by rfl, ?_⟩) hS ?_
        rotate_left
        · intro wv _; go_simp; try with_reducible rfl
        try simp only [Act.put, List.setIfInBounds_toArray, List.set_cons_zero, List.set_cons_succ]
        refine wpAnyH_done (by kernel_rfl) ?_ _
        refine NoPanic.normal ?_
        go_wp2
        have FZ : Fr w (((((w8.setCell ⟨q + 2, 0, none⟩ (.slice B m2 d2)).setCell ⟨q + 2, 1, none⟩ (.int .i64 fg)).setCell ⟨q + 3, 0, none⟩ (.int .i64 qh)).setCell ⟨q + 3, 1, none⟩ (.int .i64 qt))).drew q [.cells #[.slice A n c, .int .i64 fr] 24, .cells #[.int .i64 hd, .int .i64 tl] 26, .cells #[.slice B m2 d2, .int .i64 fg] 24, .cells #[.int .i64 qh, .int .i64 qt] 26] := (((((FR.out.set 2 0 rfl rfl (.slice B m2 d2)).set 2 1 rfl rfl (.int .i64 fg)).set 3 0 rfl rfl (.int .i64 qh)).set 3 1 rfl rfl (.int .i64 qt))).drew
        refine bodyPost_ret (res_ccss Try.results10 (by rfl) (by rfl) (FZ.load 2 rfl rfl Try.underlying24 (by kernel_rfl)) (FZ.load 3 rfl rfl Try.underlying26 (by kernel_rfl))) rfl ?_
        have hrs := own_apart (own_apart (own_apart (own_apart (OB.out) (k := q + 2) (o := 0) (u := .slice B m2 d2) (by omega)) (k := q + 2) (o := 1) (u := .int .i64 fg) (by omega)) (k := q + 3) (o := 0) (u := .int .i64 qh) (by omega)) (k := q + 3) (o := 1) (u := .int .i64 qt) (by omega)
        obtain ⟨_, _, he, hrr⟩ := rs_of_own hrs
        injection he with he1 he2 he3; subst he1; subst he3
        rw [HE.out, HT.out]
        exact ⟨_, _, _, rfl, Es.drew hrr, FZ.out⟩
      · have b2 : (eg != 0) = true := by simp [he0]
        have HE := Lib.hid (show R = ((rs, fr), (hd, tl), 0, eg) by rw [HE0.out, if_pos he0])
        clear he0 OB
        have gex := FR.out.sz
        simp only [List.length_cons, List.length_nil] at gex
        obtain ⟨w8, hw8⟩ : ∃ W, (w7.alloc (.cells #[.slice B m2 d2, .int .i64 fg] 24)).alloc (.cells #[.int .i64 qh, .int .i64 qt] 26) = W := ⟨_, rfl⟩
        have hb : Below w7.heap.size w7 w8 := hw8 ▸ ((Below.refl _ _).alloc (Nat.le_refl _) _).alloc (by simp) _
        have hv : w8.heap[w7.heap.size]? = some (.cells #[.slice B m2 d2, .int .i64 fg] 24) := hw8 ▸ (heap_alloc_old _ _ (by simp)).trans (heap_alloc_new _ _)
        have hv2 : w8.heap[w7.heap.size + 1]? = some (.cells #[.int .i64 qh, .int .i64 qt] 26) := by have := heap_alloc_new (w7.alloc (.cells #[.slice B m2 d2, .int .i64 fg] 24)) (.cells #[.int .i64 qh, .int .i64 qt] 26); rw [hw8] at this; simpa using this
        replace FR := Lib.hid (FR.out.step hb)
        replace IT := Lib.hid (Es.below IT.out hb)
        have Vx := Lib.hid hv
        have Vy := Lib.hid hv2
        generalize hsx : w7.heap.size = sx at *
        clear hb hv hv2
        have nz02 : q ≠ q + 2 := by omega
        have nz03 : q ≠ q + 3 := by omega
        have nz12 : q + 1 ≠ q + 2 := by omega
        have nz13 : q + 1 ≠ q + 3 := by omega
        have c20 : w8.cell? ⟨q + 2, 0, none⟩ = some (.slice none 0 0) := FR.out.cell 2 0 rfl rfl rfl
        have f20 : w8.frozen? ⟨q + 2, 0, none⟩ = false := FR.out.frozen 2 0 rfl rfl
        have c21 : w8.cell? ⟨q + 2, 1, none⟩ = some (.int .i64 0) := FR.out.cell 2 1 rfl rfl rfl
        have f21 : w8.frozen? ⟨q + 2, 1, none⟩ = false := FR.out.frozen 2 1 rfl rfl
        have c30 : w8.cell? ⟨q + 3, 0, none⟩ = some (.int .i64 0) := FR.out.cell 3 0 rfl rfl rfl
        have f30 : w8.frozen? ⟨q + 3, 0, none⟩ = false := FR.out.frozen 3 0 rfl rfl
        have c31 : w8.cell? ⟨q + 3, 1, none⟩ = some (.int .i64 0) := FR.out.cell 3 1 rfl rfl rfl
        have f31 : w8.frozen? ⟨q + 3, 1, none⟩ = false := FR.out.frozen 3 1 rfl rfl
        have cx0 : w8.cell? ⟨sx, 0, none⟩ = some (.slice B m2 d2) := (blk_cell Vx.out 0).trans rfl
        have fx0 : w8.frozen? ⟨sx, 0, none⟩ = false := blk_frozen Vx.out 0
        have cx1 : w8.cell? ⟨sx, 1, none⟩ = some (.int .i64 fg) := (blk_cell Vx.out 1).trans rfl
        have fx1 : w8.frozen? ⟨sx, 1, none⟩ = false := blk_frozen Vx.out 1
        have cy0 : w8.cell? ⟨sx + 1, 0, none⟩ = some (.int .i64 qh) := (blk_cell Vy.out 0).trans rfl
        have fy0 : w8.frozen? ⟨sx + 1, 0, none⟩ = false := blk_frozen Vy.out 0
        have cy1 : w8.cell? ⟨sx + 1, 1, none⟩ = some (.int .i64 qt) := (blk_cell Vy.out 1).trans rfl
        have fy1 : w8.frozen? ⟨sx + 1, 1, none⟩ = false := blk_frozen Vy.out 1
        go_wp2
        refine wp_region_noPanic ?_
        refine wp_region_held_drew (S := (fun wv => Hid (wv.heap[q]? = some (.cells #[.slice A n c, .int .i64 fr] 24) ∧ wv.heap[q + 1]? = some (.cells #[.int .i64 hd, .int .i64 tl] 26) ∧ Below q w wv))) (by kernel_rfl) (Lib.hid ⟨FR.out.blk 0 _ rfl, FR.out.blk 1 _ rfl, FR.out.bel.drew⟩) (fun hS => ?_)
        refine wpAnyH_take (i := 0) (oi := ⟨some 35, .load 24 (.tmp 2), 24, "ref.go:108", #[], none⟩) (v := .agg (([.slice A n c, .int .i64 fr] : List Value)).toArray) rfl (by kernel_rfl) (by kernel_rfl) (by kernel_rfl) (fun _ _ _ h => h) (yieldsIf_load_mid (by rfl) _ _ (by rfl) (q) 0 (by rfl) (([.slice A n c, .int .i64 fr] : List Value)) _ (fun wv hS => blk_rngl hS.out.1) Try.underlying24 (by rfl) (by kernel_rfl)) hS ?_
        try simp only [Act.put, List.setIfInBounds_toArray, List.set_cons_zero, List.set_cons_succ]
        refine wpAnyH_take (i := 1) (oi := ⟨some 36, .load 26 (.tmp 3), 26, "ref.go:108", #[⟨3, .gcOnly .lateStores⟩], none⟩) (v := .agg (([.int .i64 hd, .int .i64 tl] : List Value)).toArray) rfl (by kernel_rfl) (by kernel_rfl) (by kernel_rfl) (fun _ _ _ h => h) (yieldsIf_load_mid (by rfl) _ _ (by rfl) (q + 1) 0 (by rfl) (([.int .i64 hd, .int .i64 tl] : List Value)) _ (fun wv hS => blk_rngl hS.out.2.1) Try.underlying26 (by rfl) (by kernel_rfl)) hS ?_
        try simp only [Act.put, List.setIfInBounds_toArray, List.set_cons_zero, List.set_cons_succ]
        refine wpAnyH_take (i := 2) (oi := ⟨some 37, .move (.tmp 11), 29, "ref.go:108", #[⟨5, .gcOnly .lateStores⟩], none⟩) (v := ?_) rfl (by kernel_rfl) (by kernel_rfl) (by kernel_rfl) (fun _ _ _ h => h) (Or.inl ⟨by rfl, ?_⟩) hS ?_
        rotate_left
        · intro wv _; go_simp; try with_reducible rfl
        try simp only [Act.put, List.setIfInBounds_toArray, List.set_cons_zero, List.set_cons_succ]
        refine wpAnyH_ready (rs := [3]) (by kernel_rfl) (by simp) (AllReadyH.cons (o := ⟨none, .store 24 (.tmp 4) (.tmp 35), 0, "ref.go:108", #[⟨0, .data⟩, ⟨0, .phase⟩, ⟨1, .textOnly .lateStores⟩, ⟨2, .textOnly .lateStores⟩], none⟩) rfl (fun K hK => ?_) AllReadyH.nil)
        go_simp
        replace hS := Lib.hid (And.intro (keep_pair hS.out.1 nz02 (.slice A n c) (.int .i64 fr)) (And.intro (keep_pair hS.out.2.1 nz12 (.slice A n c) (.int .i64 fr)) (bel_pair hS.out.2.2 (show q ≤ q + 2 by omega) (.slice A n c) (.int .i64 fr))))
        refine Shut.out hK _ _ hS (fun _ => ?_)
        clear hK K
        try simp only [Act.put, List.setIfInBounds_toArray, List.set_cons_zero, List.set_cons_succ]
        refine wpAnyH_ready (rs := [4]) (by kernel_rfl) (by simp) (AllReadyH.cons (o := ⟨none, .store 26 (.tmp 5) (.tmp 36), 0, "ref.go:108", #[⟨1, .data⟩, ⟨3, .chain⟩, ⟨0, .phase⟩, ⟨1, .phase⟩, ⟨2, .textOnly .lateStores⟩, ⟨3, .phase⟩], none⟩) rfl (fun K hK => ?_) AllReadyH.nil)
        go_simp
        replace hS := Lib.hid (And.intro (keep_pair hS.out.1 nz03 (.int .i64 hd) (.int .i64 tl)) (And.intro (keep_pair hS.out.2.1 nz13 (.int .i64 hd) (.int .i64 tl)) (bel_pair hS.out.2.2 (show q ≤ q + 3 by omega) (.int .i64 hd) (.int .i64 tl))))
        refine Shut.out hK _ _ hS (fun _ => ?_)
        clear hK K
        try simp only [Act.put, List.setIfInBounds_toArray, List.set_cons_zero, List.set_cons_succ]
        refine wpAnyH_take (i := 5) (oi := ⟨some 6, .assign (.const (Value.int IntKind.i64 0)), 3, "ref.go:108", #[⟨4, .chain⟩, ⟨0, .phase⟩, ⟨1, .phase⟩, ⟨2, .textOnly .lateStores⟩, ⟨3, .phase⟩, ⟨4, .phase⟩], none⟩) (v := ?_) rfl (by kernel_rfl) (by kernel_rfl) (by kernel_rfl) (fun _ _ _ h => h) (Or.inl ⟨by rfl, ?_⟩) hS ?_
        rotate_left
        · intro wv _; go_simp; try with_reducible rfl
        try simp only [Act.put, List.setIfInBounds_toArray, List.set_cons_zero, List.set_cons_succ]
        refine wpAnyH_take (i := 6) (oi := ⟨some 7, .assign (.tmp 37), 29, "ref.go:108", #[⟨2, .data⟩, ⟨5, .chain⟩, ⟨0, .phase⟩, ⟨1, .phase⟩, ⟨2, .phase⟩, ⟨3, .phase⟩, ⟨4, .phase⟩, ⟨5, .phase⟩], none⟩) (v := ?_) rfl (by kernel_rfl) (by kernel_rfl) (by kernel_rfl) (fun _ _ _ h => h) (Or.inl ⟨by rfl, ?_⟩) hS ?_
        rotate_left
        · intro wv _; go_simp; try with_reducible rfl
        try simp only [Act.put, List.setIfInBounds_toArray, List.set_cons_zero, List.set_cons_succ]
        refine wpAnyH_done (by kernel_rfl) ?_ _
        refine NoPanic.normal ?_
        go_wp2
        have FZ : Fr w (((((w8.setCell ⟨q + 2, 0, none⟩ (.slice A n c)).setCell ⟨q + 2, 1, none⟩ (.int .i64 fr)).setCell ⟨q + 3, 0, none⟩ (.int .i64 hd)).setCell ⟨q + 3, 1, none⟩ (.int .i64 tl))).drew q [.cells #[.slice A n c, .int .i64 fr] 24, .cells #[.int .i64 hd, .int .i64 tl] 26, .cells #[.slice A n c, .int .i64 fr] 24, .cells #[.int .i64 hd, .int .i64 tl] 26] := (((((FR.out.set 2 0 rfl rfl (.slice A n c)).set 2 1 rfl rfl (.int .i64 fr)).set 3 0 rfl rfl (.int .i64 hd)).set 3 1 rfl rfl (.int .i64 tl))).drew
        refine bodyPost_ret (res_ccss Try.results10 (by rfl) (by rfl) (FZ.load 2 rfl rfl Try.underlying24 (by kernel_rfl)) (FZ.load 3 rfl rfl Try.underlying26 (by kernel_rfl))) rfl ?_
        rw [HE.out]
        exact ⟨_, _, _, rfl, FZ.es RX.out, FZ.out⟩
set_option maxRecDepth 100000 in
set_option maxHeartbeats 8000000 in
theorem refQDrop_any (A : Option Addr) (n c : Nat) (rs : List Rec3) (fr hd tl task : Int) (w : World) (hx : Rs w A n c rs) (hn : n ≤ 16384) :
    Calls Try.prog 12 #[.agg #[.slice A n c, .int .i64 fr], .agg #[.int .i64 hd, .int .i64 tl], .int .i64 task] w (QPost w A n c (qDrop (rs, fr) (hd, tl) task)) := by
  have HL2 := Lib.hid hx.len
  have RX := Lib.hid hx
  have RI := Lib.hid (fun (W : World) (h : Rs W A n c rs) => refQRight_any A n c rs fr hd tl W h hn)
  have TS := Lib.hid (fun (W : World) (h : Rs W A n c rs) => refQTasks_own A n c rs fr hd tl W h hn)
  have BT := Lib.hid (fun (k : Nat) (W : World) (h : Rs W A n c rs) (hr : qRight (rs, fr) (hd, tl) = true) (hk : k < (qPlaces (rs, fr) (hd, tl)).length) => refQBut_any A n c rs fr hd tl k W h hn hr hk)
  obtain ⟨R, hR⟩ : ∃ R, qDrop (rs, fr) (hd, tl) task = R := ⟨_, rfl⟩
  have HR := Lib.hid hR
  rw [hR]
  clear hx hR
  obtain ⟨v1, hv1⟩ : ∃ W, w.alloc (.cells #[.slice A n c, .int .i64 fr] 24) = W := ⟨_, rfl⟩
  have fr1 : Fr w v1 w.heap.size [.cells #[.slice A n c, .int .i64 fr] 24] := hv1 ▸ Fr.first w _
  have z1 : v1.heap.size = w.heap.size + 1 := by rw [← hv1, Fr.size1]
  obtain ⟨v2, hv2⟩ : ∃ W, v1.alloc (.cells #[.int .i64 hd, .int .i64 tl] 26) = W := ⟨_, rfl⟩
  have fr2 : Fr w v2 w.heap.size [.cells #[.slice A n c, .int .i64 fr] 24, .cells #[.int .i64 hd, .int .i64 tl] 26] := hv2 ▸ fr1.more z1 _
  have z2 : v2.heap.size = w.heap.size + 2 := by rw [← hv2, Fr.size1, z1]
  obtain ⟨v3, hv3⟩ : ∃ W, v2.alloc (.cells #[.slice none 0 0, .int .i64 0] 24) = W := ⟨_, rfl⟩
  have fr3 : Fr w v3 w.heap.size [.cells #[.slice A n c, .int .i64 fr] 24, .cells #[.int .i64 hd, .int .i64 tl] 26, .cells #[.slice none 0 0, .int .i64 0] 24] := hv3 ▸ fr2.more z2 _
  have z3 : v3.heap.size = w.heap.size + 3 := by rw [← hv3, Fr.size1, z2]
  obtain ⟨v4, hv4⟩ : ∃ W, v3.alloc (.cells #[.int .i64 0, .int .i64 0] 26) = W := ⟨_, rfl⟩
  have fr4 : Fr w v4 w.heap.size [.cells #[.slice A n c, .int .i64 fr] 24, .cells #[.int .i64 hd, .int .i64 tl] 26, .cells #[.slice none 0 0, .int .i64 0] 24, .cells #[.int .i64 0, .int .i64 0] 26] := hv4 ▸ fr3.more z3 _
  have z4 : v4.heap.size = w.heap.size + 4 := by rw [← hv4, Fr.size1, z3]
  generalize hq : w.heap.size = q at *
  have FR := Lib.hid fr4
  clear fr1 fr2 fr3 fr4
  have R1 := RI.out _ (FR.out.es RX.out)
  cases hr : qRight (rs, fr) (hd, tl)
  · have HE := Lib.hid (show R = ((rs, fr), (hd, tl), 1) by rw [← HR.out]; unfold qDrop; rw [if_pos hr])
    rw [hr] at R1
    replace R1 := Lib.hid R1
    clear hr
    go_enter Try.func12, Try.ntmps12
    have c00 : v4.cell? ⟨q, 0, none⟩ = some (.slice A n c) := FR.out.cell 0 0 rfl rfl rfl
    have c01 : v4.cell? ⟨q, 1, none⟩ = some (.int .i64 fr) := FR.out.cell 0 1 rfl rfl rfl
    have c10 : v4.cell? ⟨q + 1, 0, none⟩ = some (.int .i64 hd) := FR.out.cell 1 0 rfl rfl rfl
    have c11 : v4.cell? ⟨q + 1, 1, none⟩ = some (.int .i64 tl) := FR.out.cell 1 1 rfl rfl rfl
    have c20 : v4.cell? ⟨q + 2, 0, none⟩ = some (.slice none 0 0) := FR.out.cell 2 0 rfl rfl rfl
    have c21 : v4.cell? ⟨q + 2, 1, none⟩ = some (.int .i64 0) := FR.out.cell 2 1 rfl rfl rfl
    have c30 : v4.cell? ⟨q + 3, 0, none⟩ = some (.int .i64 0) := FR.out.cell 3 0 rfl rfl rfl
    have c31 : v4.cell? ⟨q + 3, 1, none⟩ = some (.int .i64 0) := FR.out.cell 3 1 rfl rfl rfl
    go_wp2_with fail
    refine (R1.out).mono ?_
    rintro e w5 ⟨rfl, hb⟩
    clear c00 c01 c10 c11 c20 c21 c30 c31
    replace FR := Lib.hid (FR.out.step hb)
    clear hb
    have nz02 : q ≠ q + 2 := by omega
    have nz03 : q ≠ q + 3 := by omega
    have nz12 : q + 1 ≠ q + 2 := by omega
    have nz13 : q + 1 ≠ q + 3 := by omega
    have c20 : w5.cell? ⟨q + 2, 0, none⟩ = some (.slice none 0 0) := FR.out.cell 2 0 rfl rfl rfl
    have f20 : w5.frozen? ⟨q + 2, 0, none⟩ = false := FR.out.frozen 2 0 rfl rfl
    have c21 : w5.cell? ⟨q + 2, 1, none⟩ = some (.int .i64 0) := FR.out.cell 2 1 rfl rfl rfl
    have f21 : w5.frozen? ⟨q + 2, 1, none⟩ = false := FR.out.frozen 2 1 rfl rfl
    have c30 : w5.cell? ⟨q + 3, 0, none⟩ = some (.int .i64 0) := FR.out.cell 3 0 rfl rfl rfl
    have f30 : w5.frozen? ⟨q + 3, 0, none⟩ = false := FR.out.frozen 3 0 rfl rfl
    have c31 : w5.cell? ⟨q + 3, 1, none⟩ = some (.int .i64 0) := FR.out.cell 3 1 rfl rfl rfl
    have f31 : w5.frozen? ⟨q + 3, 1, none⟩ = false := FR.out.frozen 3 1 rfl rfl
    go_wp2
    refine wp_region_noPanic ?_
    refine wp_region_held_drew (S := (fun wv => Hid (wv.heap[q]? = some (.cells #[.slice A n c, .int .i64 fr] 24) ∧ wv.heap[q + 1]? = some (.cells #[.int .i64 hd, .int .i64 tl] 26) ∧ Below q w wv))) (by kernel_rfl) (Lib.hid ⟨FR.out.blk 0 _ rfl, FR.out.blk 1 _ rfl, FR.out.bel.drew⟩) (fun hS => ?_)
    refine wpAnyH_take (i := 0) (oi := ⟨some 15, .load 24 (.tmp 3), 24, "ref.go:116", #[], none⟩) (v := .agg (([.slice A n c, .int .i64 fr] : List Value)).toArray) rfl (by kernel_rfl) (by kernel_rfl) (by kernel_rfl) (fun _ _ _ h => h) (yieldsIf_load_mid (by rfl) _ _ (by rfl) (q) 0 (by rfl) (([.slice A n c, .int .i64 fr] : List Value)) _ (fun wv hS => blk_rngl hS.out.1) Try.underlying24 (by rfl) (by kernel_rfl)) hS ?_
    try simp only [Act.put, List.setIfInBounds_toArray, List.set_cons_zero, List.set_cons_succ]
    refine wpAnyH_take (i := 1) (oi := ⟨some 16, .load 26 (.tmp 4), 26, "ref.go:116", #[⟨2, .gcOnly .lateStores⟩], none⟩) (v := .agg (([.int .i64 hd, .int .i64 tl] : List Value)).toArray) rfl (by kernel_rfl) (by kernel_rfl) (by kernel_rfl) (fun _ _ _ h => h) (yieldsIf_load_mid (by rfl) _ _ (by rfl) (q + 1) 0 (by rfl) (([.int .i64 hd, .int .i64 tl] : List Value)) _ (fun wv hS => blk_rngl hS.out.2.1) Try.underlying26 (by rfl) (by kernel_rfl)) hS ?_
    try simp only [Act.put, List.setIfInBounds_toArray, List.set_cons_zero, List.set_cons_succ]
    refine wpAnyH_ready (rs := [2]) (by kernel_rfl) (by simp) (AllReadyH.cons (o := ⟨none, .store 24 (.tmp 6) (.tmp 15), 0, "ref.go:116", #[⟨0, .data⟩, ⟨0, .phase⟩, ⟨1, .textOnly .lateStores⟩], none⟩) rfl (fun K hK => ?_) AllReadyH.nil)
    go_simp
    replace hS := Lib.hid (And.intro (keep_pair hS.out.1 nz02 (.slice A n c) (.int .i64 fr)) (And.intro (keep_pair hS.out.2.1 nz12 (.slice A n c) (.int .i64 fr)) (bel_pair hS.out.2.2 (show q ≤ q + 2 by omega) (.slice A n c) (.int .i64 fr))))
    refine Shut.out hK _ _ hS (fun _ => ?_)
    clear hK K
    try simp only [Act.put, List.setIfInBounds_toArray, List.set_cons_zero, List.set_cons_succ]
    refine wpAnyH_ready (rs := [3]) (by kernel_rfl) (by simp) (AllReadyH.cons (o := ⟨none, .store 26 (.tmp 7) (.tmp 16), 0, "ref.go:116", #[⟨1, .data⟩, ⟨2, .chain⟩, ⟨0, .phase⟩, ⟨1, .phase⟩, ⟨2, .phase⟩], none⟩) rfl (fun K hK => ?_) AllReadyH.nil)
    go_simp
    replace hS := Lib.hid (And.intro (keep_pair hS.out.1 nz03 (.int .i64 hd) (.int .i64 tl)) (And.intro (keep_pair hS.out.2.1 nz13 (.int .i64 hd) (.int .i64 tl)) (bel_pair hS.out.2.2 (show q ≤ q + 3 by omega) (.int .i64 hd) (.int .i64 tl))))
    refine Shut.out hK _ _ hS (fun _ => ?_)
    clear hK K
    try simp only [Act.put, List.setIfInBounds_toArray, List.set_cons_zero, List.set_cons_succ]
    refine wpAnyH_take (i := 4) (oi := ⟨some 8, .assign (.const (Value.int IntKind.i64 1)), 29, "ref.go:116", #[⟨3, .chain⟩, ⟨0, .phase⟩, ⟨1, .phase⟩, ⟨2, .phase⟩, ⟨3, .phase⟩], none⟩) (v := ?_) rfl (by kernel_rfl) (by kernel_rfl) (by kernel_rfl) (fun _ _ _ h => h) (Or.inl ⟨by rfl, ?_⟩) hS ?_
    rotate_left
    · intro wv _; go_simp; try with_reducible rfl
    try simp only [Act.put, List.setIfInBounds_toArray, List.set_cons_zero, List.set_cons_succ]
    refine wpAnyH_done (by kernel_rfl) ?_ _
    refine NoPanic.normal ?_
    go_wp2
    have FZ : Fr w (((((w5.setCell ⟨q + 2, 0, none⟩ (.slice A n c)).setCell ⟨q + 2, 1, none⟩ (.int .i64 fr)).setCell ⟨q + 3, 0, none⟩ (.int .i64 hd)).setCell ⟨q + 3, 1, none⟩ (.int .i64 tl))).drew q [.cells #[.slice A n c, .int .i64 fr] 24, .cells #[.int .i64 hd, .int .i64 tl] 26, .cells #[.slice A n c, .int .i64 fr] 24, .cells #[.int .i64 hd, .int .i64 tl] 26] := (((((FR.out.set 2 0 rfl rfl (.slice A n c)).set 2 1 rfl rfl (.int .i64 fr)).set 3 0 rfl rfl (.int .i64 hd)).set 3 1 rfl rfl (.int .i64 tl))).drew
    refine bodyPost_ret (res_ccs Try.results12 (by rfl) (by rfl) (FZ.load 2 rfl rfl Try.underlying24 (by kernel_rfl)) (FZ.load 3 rfl rfl Try.underlying26 (by kernel_rfl))) rfl ?_
    rw [HE.out]
    exact ⟨_, _, _, rfl, FZ.es RX.out, FZ.out, fun h => by simp at h, fun _ => rfl⟩
  · rw [hr] at R1
    replace R1 := Lib.hid R1
    have hsm : n ≤ 64 := by have := right_small (qRight_right hr); rw [← HL2.out]; exact this
    have hpn := (qPlaces_places (rs, fr) (hd, tl)).len
    simp only [HL2.out] at hpn
    have htl := qTasks_len (rs, fr) (hd, tl)
    have B1 := fun (k : Nat) (W : World) (h : Rs W A n c rs) (h0 : k < (qPlaces (rs, fr) (hd, tl)).length) => BT.out k W h hr h0
    have T1 := fun (W : World) (h : Rs W A n c rs) => TS.out W h
    have hE : R = match findI task (qTasks (rs, fr) (hd, tl)) with | none => ((rs, fr), (hd, tl), 7) | some k => qBut (rs, fr) (hd, tl) k := by rw [← HR.out]; unfold qDrop; rw [if_neg (by rw [hr]; simp)]; cases findI task (qTasks (rs, fr) (hd, tl)) <;> rfl
    obtain ⟨pl, hpl⟩ : ∃ pl, (qPlaces (rs, fr) (hd, tl)).length = pl := ⟨_, rfl⟩
    obtain ⟨ts, hts⟩ : ∃ ts, qTasks (rs, fr) (hd, tl) = ts := ⟨_, rfl⟩
    rw [hts] at T1 hE htl
    rw [hpl] at B1 htl hpn
    have B1H : Hid (∀ (k : Nat) (W : World), Rs W A n c rs → k < pl → Calls Try.prog 29 #[.agg #[.slice A n c, .int .i64 fr], .agg #[.int .i64 hd, .int .i64 tl], .int .i64 (k : Int)] W (QPost W A n c (qBut (rs, fr) (hd, tl) k))) := Lib.hid B1
    replace T1 := Lib.hid T1
    have HE0 := Lib.hid hE
    clear hr hts hpl BT TS RI B1 hE
    go_enter Try.func12, Try.ntmps12
    have c00 : v4.cell? ⟨q, 0, none⟩ = some (.slice A n c) := FR.out.cell 0 0 rfl rfl rfl
    have c01 : v4.cell? ⟨q, 1, none⟩ = some (.int .i64 fr) := FR.out.cell 0 1 rfl rfl rfl
    have c10 : v4.cell? ⟨q + 1, 0, none⟩ = some (.int .i64 hd) := FR.out.cell 1 0 rfl rfl rfl
    have c11 : v4.cell? ⟨q + 1, 1, none⟩ = some (.int .i64 tl) := FR.out.cell 1 1 rfl rfl rfl
    have c20 : v4.cell? ⟨q + 2, 0, none⟩ = some (.slice none 0 0) := FR.out.cell 2 0 rfl rfl rfl
    have c21 : v4.cell? ⟨q + 2, 1, none⟩ = some (.int .i64 0) := FR.out.cell 2 1 rfl rfl rfl
    have c30 : v4.cell? ⟨q + 3, 0, none⟩ = some (.int .i64 0) := FR.out.cell 3 0 rfl rfl rfl
    have c31 : v4.cell? ⟨q + 3, 1, none⟩ = some (.int .i64 0) := FR.out.cell 3 1 rfl rfl rfl
    go_wp2_with fail
    refine (R1.out).mono ?_
    rintro e w5 ⟨rfl, hb⟩
    clear c00 c01 c10 c11 c20 c21 c30 c31
    replace FR := Lib.hid (FR.out.step hb)
    clear hb
    have c00 : w5.cell? ⟨q, 0, none⟩ = some (.slice A n c) := FR.out.cell 0 0 rfl rfl rfl
    have c01 : w5.cell? ⟨q, 1, none⟩ = some (.int .i64 fr) := FR.out.cell 0 1 rfl rfl rfl
    have c10 : w5.cell? ⟨q + 1, 0, none⟩ = some (.int .i64 hd) := FR.out.cell 1 0 rfl rfl rfl
    have c11 : w5.cell? ⟨q + 1, 1, none⟩ = some (.int .i64 tl) := FR.out.cell 1 1 rfl rfl rfl
    have c20 : w5.cell? ⟨q + 2, 0, none⟩ = some (.slice none 0 0) := FR.out.cell 2 0 rfl rfl rfl
    have c21 : w5.cell? ⟨q + 2, 1, none⟩ = some (.int .i64 0) := FR.out.cell 2 1 rfl rfl rfl
    have c30 : w5.cell? ⟨q + 3, 0, none⟩ = some (.int .i64 0) := FR.out.cell 3 0 rfl rfl rfl
    have c31 : w5.cell? ⟨q + 3, 1, none⟩ = some (.int .i64 0) := FR.out.cell 3 1 rfl rfl rfl
    go_wp2_with fail
    refine ((T1.out _ (FR.out.es RX.out))).mono ?_
    rintro e w6 ⟨C, m, c2, rfl, hown, hb⟩
    clear c00 c01 c10 c11 c20 c21 c30 c31
    replace FR := Lib.hid (FR.out.step hb)
    clear hb
    have hm : ts.length = m := by have := hown.1; rw [intC_len] at this; omega
    obtain ⟨_, _, he, hit⟩ := Es.of_own hown (intC_one _)
    injection he with he1 he2 he3; subst he1; subst he3
    have IT := Lib.hid (show Is _ C m c2 ts from hit)
    clear hown hit
    have hmp : m = pl := by omega
    have hm70 : m ≤ 70 := by omega
    clear hv1 hv2 hv3 hv4 z1 z2 z3 z4
    go_wp2
    go_loopw [10] (fun iv wr => ∃ i : Nat, iv = .int .i64 (i : Int) ∧ i ≤ m ∧ task ∉ ts.take i ∧ Hid (Below w6.heap.size w6 wr)) (fun iv _ => m - (intOf iv).toNat)
    case atStart => exact ⟨0, rfl, by omega, by simp, Below.refl _ _⟩
    case round =>
      obtain ⟨i, rfl, hi, hnt, hbl⟩ := hrel
      replace FR := Lib.hid (FR.out.step hbl.out)
      replace IT := Lib.hid (Es.below IT.out hbl.out)
      clear R1
      by_cases hlt : i < m
      · have b1 : decide ((i : Int) < (m : Int)) = true := by simpa using hlt
        obtain ⟨lb, loff, x, rfl, hlb, hlc, hdr⟩ := (show Is _ C m c2 ts from IT.out).look i hlt
        have i0 : (0 : Int) ≤ (i : Int) := by omega
        have i1 : (i : Int) < (m : Int) := by omega
        by_cases hxt : x = task
        · have b2 : (x == task) = true := by simp [hxt]
          have HE := Lib.hid (show R = qBut (rs, fr) (hd, tl) i by rw [HE0.out, findI_some (by have h1 := drop_at (xs := ts) (i := i) (by omega); rw [h1] at hdr; injection hdr with h2 _; rw [List.getElem?_eq_getElem (by omega), h2, hxt]) hnt])
          have B2 := Lib.hid (B1H.out i wr (FR.out.es RX.out) (by omega))
          clear hdr hnt hxt hlb
          obtain ⟨rg, fg, qh, qt, eg, hG⟩ : ∃ rg fg qh qt eg, qBut (rs, fr) (hd, tl) i = ((rg, fg), (qh, qt), eg) := ⟨_, _, _, _, _, rfl⟩
          have hG2 := @qBut_err (rs, fr) (hd, tl) i
          rw [hG] at hG2 B2 HE
          simp only at hG2
          have HG := Lib.hid hG2
          clear hG hG2
          have FR1 := FR.out.sz
          simp only [List.length_cons, List.length_nil] at FR1
          have RW := Lib.hid (FR.out)
          have c00 : wr.cell? ⟨q, 0, none⟩ = some (.slice A n c) := FR.out.cell 0 0 rfl rfl rfl
          have c01 : wr.cell? ⟨q, 1, none⟩ = some (.int .i64 fr) := FR.out.cell 0 1 rfl rfl rfl
          have c10 : wr.cell? ⟨q + 1, 0, none⟩ = some (.int .i64 hd) := FR.out.cell 1 0 rfl rfl rfl
          have c11 : wr.cell? ⟨q + 1, 1, none⟩ = some (.int .i64 tl) := FR.out.cell 1 1 rfl rfl rfl
          have c20 : wr.cell? ⟨q + 2, 0, none⟩ = some (.slice none 0 0) := FR.out.cell 2 0 rfl rfl rfl
          have c21 : wr.cell? ⟨q + 2, 1, none⟩ = some (.int .i64 0) := FR.out.cell 2 1 rfl rfl rfl
          have c30 : wr.cell? ⟨q + 3, 0, none⟩ = some (.int .i64 0) := FR.out.cell 3 0 rfl rfl rfl
          have c31 : wr.cell? ⟨q + 3, 1, none⟩ = some (.int .i64 0) := FR.out.cell 3 1 rfl rfl rfl
          go_wp2_with fail
          refine (B2.out).mono ?_
          rintro e w7 ⟨B, m2, d2, rfl, hrs, hb, hown, hold⟩
          clear c00 c01 c10 c11 c20 c21 c30 c31
          replace FR := Lib.hid (FR.out.step hb)
          have c20 : w7.cell? ⟨q + 2, 0, none⟩ = some (.slice none 0 0) := FR.out.cell 2 0 rfl rfl rfl
          have f20 : w7.frozen? ⟨q + 2, 0, none⟩ = false := FR.out.frozen 2 0 rfl rfl
          have c21 : w7.cell? ⟨q + 2, 1, none⟩ = some (.int .i64 0) := FR.out.cell 2 1 rfl rfl rfl
          have f21 : w7.frozen? ⟨q + 2, 1, none⟩ = false := FR.out.frozen 2 1 rfl rfl
          have c30 : w7.cell? ⟨q + 3, 0, none⟩ = some (.int .i64 0) := FR.out.cell 3 0 rfl rfl rfl
          have f30 : w7.frozen? ⟨q + 3, 0, none⟩ = false := FR.out.frozen 3 0 rfl rfl
          have c31 : w7.cell? ⟨q + 3, 1, none⟩ = some (.int .i64 0) := FR.out.cell 3 1 rfl rfl rfl
          have f31 : w7.frozen? ⟨q + 3, 1, none⟩ = false := FR.out.frozen 3 1 rfl rfl
          go_wp2
          have FZ : Fr w ((((w7.setCell ⟨q + 2, 0, none⟩ (.slice B m2 d2)).setCell ⟨q + 2, 1, none⟩ (.int .i64 fg)).setCell ⟨q + 3, 0, none⟩ (.int .i64 qh)).setCell ⟨q + 3, 1, none⟩ (.int .i64 qt)) q [.cells #[.slice A n c, .int .i64 fr] 24, .cells #[.int .i64 hd, .int .i64 tl] 26, .cells #[.slice B m2 d2, .int .i64 fg] 24, .cells #[.int .i64 qh, .int .i64 qt] 26] := ((((FR.out.set 2 0 rfl rfl (.slice B m2 d2)).set 2 1 rfl rfl (.int .i64 fg)).set 3 0 rfl rfl (.int .i64 qh)).set 3 1 rfl rfl (.int .i64 qt))
          refine bodyPost_ret (res_ccs Try.results12 (by rfl) (by rfl) (FZ.load 2 rfl rfl Try.underlying24 (by kernel_rfl)) (FZ.load 3 rfl rfl Try.underlying26 (by kernel_rfl))) rfl ?_
          rw [HE.out]
          by_cases he0 : eg = 0
          · have OB := own_base (hown he0) (show q + 4 ≤ wr.heap.size from FR1)
            have hrs2 := own_apart (own_apart (own_apart (own_apart (OB) (k := q + 2) (o := 0) (u := .slice B m2 d2) (by omega)) (k := q + 2) (o := 1) (u := .int .i64 fg) (by omega)) (k := q + 3) (o := 0) (u := .int .i64 qh) (by omega)) (k := q + 3) (o := 1) (u := .int .i64 qt) (by omega)
            obtain ⟨_, _, he, hrr⟩ := rs_of_own hrs2
            injection he with he1 he2 he3; subst he1; subst he3
            exact ⟨_, _, _, rfl, hrr, FZ.out, fun _ => own_base hrs2 (show w.heap.size ≤ q + 4 by omega), fun h => absurd he0 h⟩
          · have hs := hold he0
            injection hs with hs1 hs2 hs3; subst hs1; subst hs2; subst hs3
            obtain ⟨hp, hq2⟩ := HG.out he0
            injection hp with hp1 hp2; injection hq2 with hq3 hq4; subst hp1; subst hp2; subst hq3; subst hq4
            exact ⟨_, _, _, rfl, FZ.es RX.out, FZ.out, fun h => absurd h he0, fun _ => rfl⟩
        · have b2 : (x == task) = false := by simp [hxt]
          have hnt2 := not_mem_take hdr hnt hxt
          clear hdr hlb
          go_wp2
          go_roundw
          case rel => exact ⟨i + 1, by go_num, by omega, hnt2, hbl⟩
          case measure => simp [intOf]; omega
      · obtain rfl : i = m := by omega
        have b1 : decide ((i : Int) < (i : Int)) = false := by simp
        have HE := Lib.hid (show R = ((rs, fr), (hd, tl), 7) by rw [HE0.out, findI_none.2 (by rw [List.take_of_length_le (Nat.le_of_eq hm)] at hnt; exact hnt)])
        have nz02 : q ≠ q + 2 := by omega
        have nz03 : q ≠ q + 3 := by omega
        have nz12 : q + 1 ≠ q + 2 := by omega
        have nz13 : q + 1 ≠ q + 3 := by omega
        have c20 : wr.cell? ⟨q + 2, 0, none⟩ = some (.slice none 0 0) := FR.out.cell 2 0 rfl rfl rfl
        have f20 : wr.frozen? ⟨q + 2, 0, none⟩ = false := FR.out.frozen 2 0 rfl rfl
        have c21 : wr.cell? ⟨q + 2, 1, none⟩ = some (.int .i64 0) := FR.out.cell 2 1 rfl rfl rfl
        have f21 : wr.frozen? ⟨q + 2, 1, none⟩ = false := FR.out.frozen 2 1 rfl rfl
        have c30 : wr.cell? ⟨q + 3, 0, none⟩ = some (.int .i64 0) := FR.out.cell 3 0 rfl rfl rfl
        have f30 : wr.frozen? ⟨q + 3, 0, none⟩ = false := FR.out.frozen 3 0 rfl rfl
        have c31 : wr.cell? ⟨q + 3, 1, none⟩ = some (.int .i64 0) := FR.out.cell 3 1 rfl rfl rfl
        have f31 : wr.frozen? ⟨q + 3, 1, none⟩ = false := FR.out.frozen 3 1 rfl rfl
        go_wp2
        refine wp_region_noPanic ?_
        refine wp_region_held_drew (S := (fun wv => Hid (wv.heap[q]? = some (.cells #[.slice A n c, .int .i64 fr] 24) ∧ wv.heap[q + 1]? = some (.cells #[.int .i64 hd, .int .i64 tl] 26) ∧ Below q w wv))) (by kernel_rfl) (Lib.hid ⟨FR.out.blk 0 _ rfl, FR.out.blk 1 _ rfl, FR.out.bel.drew⟩) (fun hS => ?_)
        refine wpAnyH_take (i := 0) (oi := ⟨some 39, .load 24 (.tmp 3), 24, "ref.go:124", #[], none⟩) (v := .agg (([.slice A n c, .int .i64 fr] : List Value)).toArray) rfl (by kernel_rfl) (by kernel_rfl) (by kernel_rfl) (fun _ _ _ h => h) (yieldsIf_load_mid (by rfl) _ _ (by rfl) (q) 0 (by rfl) (([.slice A n c, .int .i64 fr] : List Value)) _ (fun wv hS => blk_rngl hS.out.1) Try.underlying24 (by rfl) (by kernel_rfl)) hS ?_
        try simp only [Act.put, List.setIfInBounds_toArray, List.set_cons_zero, List.set_cons_succ]
        refine wpAnyH_take (i := 1) (oi := ⟨some 40, .load 26 (.tmp 4), 26, "ref.go:124", #[⟨2, .gcOnly .lateStores⟩], none⟩) (v := .agg (([.int .i64 hd, .int .i64 tl] : List Value)).toArray) rfl (by kernel_rfl) (by kernel_rfl) (by kernel_rfl) (fun _ _ _ h => h) (yieldsIf_load_mid (by rfl) _ _ (by rfl) (q + 1) 0 (by rfl) (([.int .i64 hd, .int .i64 tl] : List Value)) _ (fun wv hS => blk_rngl hS.out.2.1) Try.underlying26 (by rfl) (by kernel_rfl)) hS ?_
        try simp only [Act.put, List.setIfInBounds_toArray, List.set_cons_zero, List.set_cons_succ]
        refine wpAnyH_ready (rs := [2]) (by kernel_rfl) (by simp) (AllReadyH.cons (o := ⟨none, .store 24 (.tmp 6) (.tmp 39), 0, "ref.go:124", #[⟨0, .data⟩, ⟨0, .phase⟩, ⟨1, .textOnly .lateStores⟩], none⟩) rfl (fun K hK => ?_) AllReadyH.nil)
        go_simp
        replace hS := Lib.hid (And.intro (keep_pair hS.out.1 nz02 (.slice A n c) (.int .i64 fr)) (And.intro (keep_pair hS.out.2.1 nz12 (.slice A n c) (.int .i64 fr)) (bel_pair hS.out.2.2 (show q ≤ q + 2 by omega) (.slice A n c) (.int .i64 fr))))
        refine Shut.out hK _ _ hS (fun _ => ?_)
        clear hK K
        try simp only [Act.put, List.setIfInBounds_toArray, List.set_cons_zero, List.set_cons_succ]
        refine wpAnyH_ready (rs := [3]) (by kernel_rfl) (by simp) (AllReadyH.cons (o := ⟨none, .store 26 (.tmp 7) (.tmp 40), 0, "ref.go:124", #[⟨1, .data⟩, ⟨2, .chain⟩, ⟨0, .phase⟩, ⟨1, .phase⟩, ⟨2, .phase⟩], none⟩) rfl (fun K hK => ?_) AllReadyH.nil)
        go_simp
        replace hS := Lib.hid (And.intro (keep_pair hS.out.1 nz03 (.int .i64 hd) (.int .i64 tl)) (And.intro (keep_pair hS.out.2.1 nz13 (.int .i64 hd) (.int .i64 tl)) (bel_pair hS.out.2.2 (show q ≤ q + 3 by omega) (.int .i64 hd) (.int .i64 tl))))
        refine Shut.out hK _ _ hS (fun _ => ?_)
        clear hK K
        try simp only [Act.put, List.setIfInBounds_toArray, List.set_cons_zero, List.set_cons_succ]
        refine wpAnyH_take (i := 4) (oi := ⟨some 8, .assign (.const (Value.int IntKind.i64 7)), 29, "ref.go:124", #[⟨3, .chain⟩, ⟨0, .phase⟩, ⟨1, .phase⟩, ⟨2, .phase⟩, ⟨3, .phase⟩], none⟩) (v := ?_) rfl (by kernel_rfl) (by kernel_rfl) (by kernel_rfl) (fun _ _ _ h => h) (Or.inl ⟨by rfl, ?_⟩) hS ?_
        rotate_left
        · intro wv _; go_simp; try with_reducible rfl
        try simp only [Act.put, List.setIfInBounds_toArray, List.set_cons_zero, List.set_cons_succ]
        refine wpAnyH_done (by kernel_rfl) ?_ _
        refine NoPanic.normal ?_
        go_wp2
        have FZ : Fr w (((((wr.setCell ⟨q + 2, 0, none⟩ (.slice A n c)).setCell ⟨q + 2, 1, none⟩ (.int .i64 fr)).setCell ⟨q + 3, 0, none⟩ (.int .i64 hd)).setCell ⟨q + 3, 1, none⟩ (.int .i64 tl))).drew q [.cells #[.slice A n c, .int .i64 fr] 24, .cells #[.int .i64 hd, .int .i64 tl] 26, .cells #[.slice A n c, .int .i64 fr] 24, .cells #[.int .i64 hd, .int .i64 tl] 26] := (((((FR.out.set 2 0 rfl rfl (.slice A n c)).set 2 1 rfl rfl (.int .i64 fr)).set 3 0 rfl rfl (.int .i64 hd)).set 3 1 rfl rfl (.int .i64 tl))).drew
        refine bodyPost_ret (res_ccs Try.results12 (by rfl) (by rfl) (FZ.load 2 rfl rfl Try.underlying24 (by kernel_rfl)) (FZ.load 3 rfl rfl Try.underlying26 (by kernel_rfl))) rfl ?_
        rw [HE.out]
        exact ⟨_, _, _, rfl, FZ.es RX.out, FZ.out, fun h => by simp at h, fun _ => rfl⟩
end Go.Proofs.Ytombfempdfdeoaa
