/- What the program's own Pop and Drop of layer 8 answer; for slices of up to 16384 records. -/
import Derived.Test.YtombfempdfdeoaaQueJ
import Derived.Test.YtombfempdfdeoaaQueF
namespace Go.Proofs.Ytombfempdfdeoaa
set_option linter.unusedVariables false
set_option linter.unusedSimpArgs false
open Go.RowKit
/-- with a task. -/
def PAll (w : World) (r : Aren × Qu × Int × Int) (e : Ending) (w' : World) : Prop :=
  ∃ B m d, e = .returned (.tuple #[.agg #[.slice B m d, .int .i64 r.1.2], .agg #[.int .i64 r.2.1.1, .int .i64 r.2.1.2], .int .i64 r.2.2.1, .int .i64 r.2.2.2]) ∧ w'.ownsRow w.heap.size 55 3 (.slice B m d) m (recC r.1.1) ∧ Below w.heap.size w w'
theorem pop_head {p : Aren} {q : Qu} {x : Int} {l : List Int} (hr : qRight p q = true) (h : qPlaces p q = x :: l) : q.1 = x ∧ (qTasks p q).headD 0 = (recAt p.1 x).2.1 := by
  obtain ⟨_, hrow⟩ := Row.of hr
  rw [h] at hrow
  refine ⟨hrow.link.1, ?_⟩
  unfold qTasks; rw [h]; rfl
set_option maxRecDepth 100000 in
set_option maxHeartbeats 8000000 in
theorem qpPop_all (A : Option Addr) (n c : Nat) (rs : List Rec3) (fr hd tl : Int) (w : World) (hx : Rs w A n c rs) (hn : n ≤ 16384) :
    Calls Try.prog 9 #[.agg #[.slice A n c, .int .i64 fr], .agg #[.int .i64 hd, .int .i64 tl]] w (PAll w (qPop (rs, fr) (hd, tl))) := by
  have HL := Lib.hid hx.len
  have RX := Lib.hid hx
  have RW := Lib.hid (fun (W : World) (h : Rs W A n c rs) => qpRow_any A n c rs fr hd tl W h hn)
  have CP := Lib.hid (fun (W : World) (h : Rs W A n c rs) => qpCopied_any A n c rs fr W h hn)
  have BT := Lib.hid (fun (C : Option Addr) (m c2 k : Nat) (W : World) (h : Rs W A n c rs) (hp : Is W C m c2 (qPlaces (rs, fr) (hd, tl))) (hr : qRight (rs, fr) (hd, tl) = true) (hk : k < m) => qpBut_all A n c rs fr hd tl C m c2 k W h hp hn hr hk)
  obtain ⟨R, hR⟩ : ∃ R, qPop (rs, fr) (hd, tl) = R := ⟨_, rfl⟩
  have HR := Lib.hid hR
  rw [hR]
  clear hx hR
  obtain ⟨v1, hv1⟩ : ∃ W, w.alloc (.cells #[.slice A n c, .int .i64 fr] 24) = W := ⟨_, rfl⟩
  have fr1 : Fr w v1 w.heap.size [.cells #[.slice A n c, .int .i64 fr] 24] := hv1 ▸ Fr.first w _
  have z1 : v1.heap.size = w.heap.size + 1 := by rw [← hv1, Fr.size1]
  obtain ⟨v2, hv2⟩ : ∃ W, v1.alloc (.cells #[.int .i64 hd, .int .i64 tl] 26) = W := ⟨_, rfl⟩
  have fr2 : Fr w v2 w.heap.size [.cells #[.slice A n c, .int .i64 fr] 24, .cells #[.int .i64 hd, .int .i64 tl] 26] := hv2 ▸ fr1.more z1 _
  have z2 : v2.heap.size = w.heap.size + 2 := by rw [← hv2, Fr.size1, z1]
  obtain ⟨v3, hv3⟩ : ∃ W, v2.alloc (.cells #[.slice none 0 0, .int .i64 0] 24) = W := ⟨_, rfl⟩
  have fr3 : Fr w v3 w.heap.size [.cells #[.slice A n c, .int .i64 fr] 24, .cells #[.int .i64 hd, .int .i64 tl] 26, .cells #[.slice none 0 0, .int .i64 0] 24] := hv3 ▸ fr2.more z2 _
  have z3 : v3.heap.size = w.heap.size + 3 := by rw [← hv3, Fr.size1, z2]
  obtain ⟨v4, hv4⟩ : ∃ W, v3.alloc (.cells #[.int .i64 0, .int .i64 0] 26) = W := ⟨_, rfl⟩
  have fr4 : Fr w v4 w.heap.size [.cells #[.slice A n c, .int .i64 fr] 24, .cells #[.int .i64 hd, .int .i64 tl] 26, .cells #[.slice none 0 0, .int .i64 0] 24, .cells #[.int .i64 0, .int .i64 0] 26] := hv4 ▸ fr3.more z3 _
  have z4 : v4.heap.size = w.heap.size + 4 := by rw [← hv4, Fr.size1, z3]
  generalize hq : w.heap.size = q at *
  have FR := Lib.hid fr4
  clear fr1 fr2 fr3 fr4
  have R1 := RW.out _ (FR.out.es RX.out)
  cases hr : qRight (rs, fr) (hd, tl)
  · have HE := Lib.hid (show R = ((rs, fr), (hd, tl), 0, 1) by rw [← HR.out]; unfold qPop; rw [if_pos hr])
    rw [rowS_not hr] at R1
    replace R1 := Lib.hid R1
    clear hr BT
    go_enter Try.func9, Try.ntmps9
    have c00 : v4.cell? ⟨q, 0, none⟩ = some (.slice A n c) := FR.out.cell 0 0 rfl rfl rfl
    have c01 : v4.cell? ⟨q, 1, none⟩ = some (.int .i64 fr) := FR.out.cell 0 1 rfl rfl rfl
    have c10 : v4.cell? ⟨q + 1, 0, none⟩ = some (.int .i64 hd) := FR.out.cell 1 0 rfl rfl rfl
    have c11 : v4.cell? ⟨q + 1, 1, none⟩ = some (.int .i64 tl) := FR.out.cell 1 1 rfl rfl rfl
    have c20 : v4.cell? ⟨q + 2, 0, none⟩ = some (.slice none 0 0) := FR.out.cell 2 0 rfl rfl rfl
    have c21 : v4.cell? ⟨q + 2, 1, none⟩ = some (.int .i64 0) := FR.out.cell 2 1 rfl rfl rfl
    have c30 : v4.cell? ⟨q + 3, 0, none⟩ = some (.int .i64 0) := FR.out.cell 3 0 rfl rfl rfl
    have c31 : v4.cell? ⟨q + 3, 1, none⟩ = some (.int .i64 0) := FR.out.cell 3 1 rfl rfl rfl
    go_wp2_with fail
    refine (R1.out).mono ?_
    rintro e w5 ⟨B0, m, c2, rfl, hown, hb⟩
    clear c00 c01 c10 c11 c20 c21 c30 c31
    replace FR := Lib.hid (FR.out.step hb)
    clear hb
    clear hown
    have hszc := FR.out.sz
    simp only [List.length_cons, List.length_nil] at hszc
    have nzq : q ≠ q + 2 := by omega
    have nzr : q + 1 ≠ q + 2 := by omega
    have nzt : q ≠ q + 3 := by omega
    have nzu : q + 1 ≠ q + 3 := by omega
    go_wp2
    refine wp_region_noPanic ?_
    refine wp_region_held_drew (S := (fun wv => Hid (wv.heap[q]? = some (.cells #[.slice A n c, .int .i64 fr] 24) ∧ wv.heap[q + 1]? = some (.cells #[.int .i64 hd, .int .i64 tl] 26) ∧ Below q w wv))) (by kernel_rfl) (Lib.hid ⟨FR.out.blk 0 _ rfl, FR.out.blk 1 _ rfl, FR.out.bel.drew⟩) (fun hS => ?_)
    refine wpAnyH_take (i := 0) (oi := ⟨some 22, .load 24 (.tmp 2), 24, "queue.go:59", #[], none⟩) (v := .agg (([.slice A n c, .int .i64 fr] : List Value)).toArray) rfl (by kernel_rfl) (by kernel_rfl) (by kernel_rfl) (fun _ _ _ h => h) (yieldsIf_load_mid (by rfl) _ _ (by rfl) (q) 0 (by rfl) (([.slice A n c, .int .i64 fr] : List Value)) _ (fun wv hS => blk_rngl hS.out.1) Try.underlying24 (by rfl) (by kernel_rfl)) hS ?_
    try simp only [Act.put, List.setIfInBounds_toArray, List.set_cons_zero, List.set_cons_succ]
    refine wpAnyH_take (i := 2) (oi := ⟨some 24, .load 26 (.tmp 3), 26, "queue.go:59", #[⟨3, .gcOnly .lateStores⟩], none⟩) (v := .agg (([.int .i64 hd, .int .i64 tl] : List Value)).toArray) rfl (by kernel_rfl) (by kernel_rfl) (by kernel_rfl) (fun _ _ _ h => h) (yieldsIf_load_mid (by rfl) _ _ (by rfl) (q + 1) 0 (by rfl) (([.int .i64 hd, .int .i64 tl] : List Value)) _ (fun wv hS => blk_rngl hS.out.2.1) Try.underlying26 (by rfl) (by kernel_rfl)) hS ?_
    try simp only [Act.put, List.setIfInBounds_toArray, List.set_cons_zero, List.set_cons_succ]
    refine wpAnyH_ready (rs := [1]) (by kernel_rfl) (by simp) (AllReadyH.cons (o := ⟨some 23, .call { callee := .value (.func 27), args := #[.tmp 22], argTypes := #[24] }, 24, "queue.go:59", #[⟨0, .data⟩], none⟩) rfl (fun K hK => ?_) AllReadyH.nil)
    go_simp
    refine (CP.out _ (FR.out.drew.es RX.out)).mono ?_
    rintro e wa ⟨B, d, rfl, hown, hb⟩
    replace FR := Lib.hid (FR.out.drew.step hb)
    have OW := Lib.hid (own_base hown (show q + 4 ≤ w5.heap.size by omega))
    clear hown hb
    replace hS := Lib.hid (And.intro (FR.out.blk 0 _ rfl) (And.intro (FR.out.blk 1 _ rfl) FR.out.bel))
    have c20 : wa.cell? ⟨q + 2, 0, none⟩ = some (.slice none 0 0) := FR.out.cell 2 0 rfl rfl rfl
    have f20 : wa.frozen? ⟨q + 2, 0, none⟩ = false := FR.out.frozen 2 0 rfl rfl
    have c21 : wa.cell? ⟨q + 2, 1, none⟩ = some (.int .i64 0) := FR.out.cell 2 1 rfl rfl rfl
    have f21 : wa.frozen? ⟨q + 2, 1, none⟩ = false := FR.out.frozen 2 1 rfl rfl
    have c30 : wa.cell? ⟨q + 3, 0, none⟩ = some (.int .i64 0) := FR.out.cell 3 0 rfl rfl rfl
    have f30 : wa.frozen? ⟨q + 3, 0, none⟩ = false := FR.out.frozen 3 0 rfl rfl
    have c31 : wa.cell? ⟨q + 3, 1, none⟩ = some (.int .i64 0) := FR.out.cell 3 1 rfl rfl rfl
    have f31 : wa.frozen? ⟨q + 3, 1, none⟩ = false := FR.out.frozen 3 1 rfl rfl
    go_wp2_with fail
    refine Shut.out hK _ _ hS (fun _ => ?_)
    clear hK K
    try simp only [Act.put, List.setIfInBounds_toArray, List.set_cons_zero, List.set_cons_succ]
    refine wpAnyH_ready (rs := [3]) (by kernel_rfl) (by simp) (AllReadyH.cons (o := ⟨none, .store 24 (.tmp 4) (.tmp 23), 0, "queue.go:59", #[⟨1, .data⟩, ⟨1, .chain⟩, ⟨0, .phase⟩, ⟨1, .phase⟩, ⟨2, .textOnly .lateStores⟩], none⟩) rfl (fun K hK => ?_) AllReadyH.nil)
    go_simp
    replace hS := Lib.hid (And.intro (keep_pair hS.out.1 nzq (.slice B n d) (.int .i64 fr)) (And.intro (keep_pair hS.out.2.1 nzr (.slice B n d) (.int .i64 fr)) (bel_pair hS.out.2.2 (show q ≤ q + 2 by omega) (.slice B n d) (.int .i64 fr))))
    refine Shut.out hK _ _ hS (fun _ => ?_)
    clear hK K
    try simp only [Act.put, List.setIfInBounds_toArray, List.set_cons_zero, List.set_cons_succ]
    refine wpAnyH_ready (rs := [4]) (by kernel_rfl) (by simp) (AllReadyH.cons (o := ⟨none, .store 26 (.tmp 5) (.tmp 24), 0, "queue.go:59", #[⟨2, .data⟩, ⟨3, .chain⟩, ⟨0, .phase⟩, ⟨1, .phase⟩, ⟨2, .phase⟩, ⟨3, .phase⟩], none⟩) rfl (fun K hK => ?_) AllReadyH.nil)
    go_simp
    replace hS := Lib.hid (And.intro (keep_pair hS.out.1 nzt (.int .i64 hd) (.int .i64 tl)) (And.intro (keep_pair hS.out.2.1 nzu (.int .i64 hd) (.int .i64 tl)) (bel_pair hS.out.2.2 (show q ≤ q + 3 by omega) (.int .i64 hd) (.int .i64 tl))))
    refine Shut.out hK _ _ hS (fun _ => ?_)
    clear hK K
    try simp only [Act.put, List.setIfInBounds_toArray, List.set_cons_zero, List.set_cons_succ]
    refine wpAnyH_take (i := 5) (oi := ⟨some 6, .assign (.const (Value.int IntKind.i64 0)), 3, "queue.go:59", #[⟨4, .chain⟩, ⟨0, .phase⟩, ⟨1, .phase⟩, ⟨2, .phase⟩, ⟨3, .phase⟩, ⟨4, .phase⟩], none⟩) (v := ?_) rfl (by kernel_rfl) (by kernel_rfl) (by kernel_rfl) (fun _ _ _ h => h) (Or.inl ⟨by rfl, ?_⟩) hS ?_
    rotate_left
    · intro wv _; go_simp; try with_reducible rfl
    try simp only [Act.put, List.setIfInBounds_toArray, List.set_cons_zero, List.set_cons_succ]
    refine wpAnyH_take (i := 6) (oi := ⟨some 7, .assign (.const (Value.int IntKind.i64 1)), 29, "queue.go:59", #[⟨5, .chain⟩, ⟨0, .phase⟩, ⟨1, .phase⟩, ⟨2, .phase⟩, ⟨3, .phase⟩, ⟨4, .phase⟩, ⟨5, .phase⟩], none⟩) (v := ?_) rfl (by kernel_rfl) (by kernel_rfl) (by kernel_rfl) (fun _ _ _ h => h) (Or.inl ⟨by rfl, ?_⟩) hS ?_
    rotate_left
    · intro wv _; go_simp; try with_reducible rfl
    try simp only [Act.put, List.setIfInBounds_toArray, List.set_cons_zero, List.set_cons_succ]
    refine wpAnyH_done (by kernel_rfl) ?_ _
    refine NoPanic.normal ?_
    go_wp2
    have FZ : Fr w ((((wa.setCell ⟨q + 2, 0, none⟩ (.slice B n d)).setCell ⟨q + 2, 1, none⟩ (.int .i64 fr)).setCell ⟨q + 3, 0, none⟩ (.int .i64 hd)).setCell ⟨q + 3, 1, none⟩ (.int .i64 tl)) q [.cells #[.slice A n c, .int .i64 fr] 24, .cells #[.int .i64 hd, .int .i64 tl] 26, .cells #[.slice B n d, .int .i64 fr] 24, .cells #[.int .i64 hd, .int .i64 tl] 26] := ((((FR.out.set 2 0 rfl rfl (.slice B n d)).set 2 1 rfl rfl (.int .i64 fr)).set 3 0 rfl rfl (.int .i64 hd)).set 3 1 rfl rfl (.int .i64 tl))
    refine bodyPost_ret (res_ccss Try.results9 (by rfl) (by rfl) (FZ.load 2 rfl rfl Try.underlying24 (by kernel_rfl)) (FZ.load 3 rfl rfl Try.underlying26 (by kernel_rfl))) rfl ?_
    rw [HE.out]
    exact ⟨_, _, _, rfl, own_base (own_apart (own_apart (own_apart (own_apart (OW.out) (k := q + 2) (o := 0) (u := .slice B n d) (by omega)) (k := q + 2) (o := 1) (u := .int .i64 fr) (by omega)) (k := q + 3) (o := 0) (u := .int .i64 hd) (by omega)) (k := q + 3) (o := 1) (u := .int .i64 tl) (by omega)) (by rw [hq]; omega), FZ.out⟩
  · have hrow : rowS (rs, fr) (hd, tl) = (qPlaces (rs, fr) (hd, tl), true) := by unfold rowS; rw [hr]
    rw [hrow] at R1
    have HPL := qPlaces_places (rs, fr) (hd, tl)
    have hpn := HPL.len
    have htl := qTasks_len (rs, fr) (hd, tl)
    have PH := fun (x : Int) (t : List Int) (h : qPlaces (rs, fr) (hd, tl) = x :: t) => pop_head hr h
    have hE : R = if qTasks (rs, fr) (hd, tl) = [] then ((rs, fr), (hd, tl), 0, 7) else if (qBut (rs, fr) (hd, tl) 0).2.2 ≠ 0 then ((rs, fr), (hd, tl), 0, (qBut (rs, fr) (hd, tl) 0).2.2) else ((qBut (rs, fr) (hd, tl) 0).1, (qBut (rs, fr) (hd, tl) 0).2.1, (qTasks (rs, fr) (hd, tl)).headD 0, 0) := by rw [← HR.out]; unfold qPop; rw [if_neg (by rw [hr]; simp)]
    have B1 := fun (C : Option Addr) (m c2 : Nat) (W : World) (h : Rs W A n c rs) (hp : Is W C m c2 (qPlaces (rs, fr) (hd, tl))) (hk : 0 < m) => BT.out C m c2 0 W h hp hr hk
    have GE := @qBut_err (rs, fr) (hd, tl) 0
    obtain ⟨rg, fg, qh, qt, eg, hG⟩ : ∃ rg fg qh qt eg, qBut (rs, fr) (hd, tl) 0 = ((rg, fg), (qh, qt), eg) := ⟨_, _, _, _, _, rfl⟩
    obtain ⟨l, hl⟩ : ∃ l, qPlaces (rs, fr) (hd, tl) = l := ⟨_, rfl⟩
    obtain ⟨ts, hts⟩ : ∃ ts, qTasks (rs, fr) (hd, tl) = ts := ⟨_, rfl⟩
    rw [hG] at B1 hE GE
    rw [hl] at B1 R1 HPL hpn htl PH
    rw [hts] at hE htl PH
    simp only at hE hpn HPL PH GE
    replace B1 : Hid (∀ (C : Option Addr) (m c2 : Nat) (W : World), Rs W A n c rs → Is W C m c2 l → 0 < m → Calls Try.prog 28 #[.agg #[.slice A n c, .int .i64 fr], .agg #[.int .i64 hd, .int .i64 tl], .slice C m c2, .int .i64 0] W (QAll W ((rg, fg), (qh, qt), eg))) := Lib.hid B1
    replace R1 := Lib.hid R1
    have HP := Lib.hid HPL
    clear HPL hr hrow hG hl hts BT RW
    rw [HL.out] at hpn
    by_cases h0 : l = []
    · have hte : ts = [] := List.eq_nil_of_length_eq_zero (by rw [htl, h0]; rfl)
      have HE := Lib.hid (show R = ((rs, fr), (hd, tl), 0, 7) by rw [hE, if_pos hte])
      have hl0 : l.length = 0 := by rw [h0]; rfl
      clear hE hte h0 PH GE B1
      go_enter Try.func9, Try.ntmps9
      have c00 : v4.cell? ⟨q, 0, none⟩ = some (.slice A n c) := FR.out.cell 0 0 rfl rfl rfl
      have c01 : v4.cell? ⟨q, 1, none⟩ = some (.int .i64 fr) := FR.out.cell 0 1 rfl rfl rfl
      have c10 : v4.cell? ⟨q + 1, 0, none⟩ = some (.int .i64 hd) := FR.out.cell 1 0 rfl rfl rfl
      have c11 : v4.cell? ⟨q + 1, 1, none⟩ = some (.int .i64 tl) := FR.out.cell 1 1 rfl rfl rfl
      have c20 : v4.cell? ⟨q + 2, 0, none⟩ = some (.slice none 0 0) := FR.out.cell 2 0 rfl rfl rfl
      have c21 : v4.cell? ⟨q + 2, 1, none⟩ = some (.int .i64 0) := FR.out.cell 2 1 rfl rfl rfl
      have c30 : v4.cell? ⟨q + 3, 0, none⟩ = some (.int .i64 0) := FR.out.cell 3 0 rfl rfl rfl
      have c31 : v4.cell? ⟨q + 3, 1, none⟩ = some (.int .i64 0) := FR.out.cell 3 1 rfl rfl rfl
      go_wp2_with fail
      refine (R1.out).mono ?_
      rintro e w5 ⟨B0, m, c2, rfl, hown, hb⟩
      clear c00 c01 c10 c11 c20 c21 c30 c31
      replace FR := Lib.hid (FR.out.step hb)
      clear hb
      have hm0 : m = 0 := by have h1 : (intC l).length = m * 1 := hown.1; rw [intC_len] at h1; omega
      have b1 : ((m : Int) == 0) = true := by simp [hm0]
      have b1' : (m == 0) = true := by simp [hm0]
      clear hown hm0
      have hszc := FR.out.sz
      simp only [List.length_cons, List.length_nil] at hszc
      have nzq : q ≠ q + 2 := by omega
      have nzr : q + 1 ≠ q + 2 := by omega
      have nzt : q ≠ q + 3 := by omega
      have nzu : q + 1 ≠ q + 3 := by omega
      go_wp2
      refine wp_region_noPanic ?_
      refine wp_region_held_drew (S := (fun wv => Hid (wv.heap[q]? = some (.cells #[.slice A n c, .int .i64 fr] 24) ∧ wv.heap[q + 1]? = some (.cells #[.int .i64 hd, .int .i64 tl] 26) ∧ Below q w wv))) (by kernel_rfl) (Lib.hid ⟨FR.out.blk 0 _ rfl, FR.out.blk 1 _ rfl, FR.out.bel.drew⟩) (fun hS => ?_)
      refine wpAnyH_take (i := 0) (oi := ⟨some 29, .load 24 (.tmp 2), 24, "queue.go:61", #[], none⟩) (v := .agg (([.slice A n c, .int .i64 fr] : List Value)).toArray) rfl (by kernel_rfl) (by kernel_rfl) (by kernel_rfl) (fun _ _ _ h => h) (yieldsIf_load_mid (by rfl) _ _ (by rfl) (q) 0 (by rfl) (([.slice A n c, .int .i64 fr] : List Value)) _ (fun wv hS => blk_rngl hS.out.1) Try.underlying24 (by rfl) (by kernel_rfl)) hS ?_
      try simp only [Act.put, List.setIfInBounds_toArray, List.set_cons_zero, List.set_cons_succ]
      refine wpAnyH_take (i := 2) (oi := ⟨some 31, .load 26 (.tmp 3), 26, "queue.go:61", #[⟨3, .gcOnly .lateStores⟩], none⟩) (v := .agg (([.int .i64 hd, .int .i64 tl] : List Value)).toArray) rfl (by kernel_rfl) (by kernel_rfl) (by kernel_rfl) (fun _ _ _ h => h) (yieldsIf_load_mid (by rfl) _ _ (by rfl) (q + 1) 0 (by rfl) (([.int .i64 hd, .int .i64 tl] : List Value)) _ (fun wv hS => blk_rngl hS.out.2.1) Try.underlying26 (by rfl) (by kernel_rfl)) hS ?_
      try simp only [Act.put, List.setIfInBounds_toArray, List.set_cons_zero, List.set_cons_succ]
      refine wpAnyH_ready (rs := [1]) (by kernel_rfl) (by simp) (AllReadyH.cons (o := ⟨some 30, .call { callee := .value (.func 27), args := #[.tmp 29], argTypes := #[24] }, 24, "queue.go:61", #[⟨0, .data⟩], none⟩) rfl (fun K hK => ?_) AllReadyH.nil)
      go_simp
      refine (CP.out _ (FR.out.drew.es RX.out)).mono ?_
      rintro e wa ⟨B, d, rfl, hown, hb⟩
      replace FR := Lib.hid (FR.out.drew.step hb)
      have OW := Lib.hid (own_base hown (show q + 4 ≤ w5.heap.size by omega))
      clear hown hb
      replace hS := Lib.hid (And.intro (FR.out.blk 0 _ rfl) (And.intro (FR.out.blk 1 _ rfl) FR.out.bel))
      have c20 : wa.cell? ⟨q + 2, 0, none⟩ = some (.slice none 0 0) := FR.out.cell 2 0 rfl rfl rfl
      have f20 : wa.frozen? ⟨q + 2, 0, none⟩ = false := FR.out.frozen 2 0 rfl rfl
      have c21 : wa.cell? ⟨q + 2, 1, none⟩ = some (.int .i64 0) := FR.out.cell 2 1 rfl rfl rfl
      have f21 : wa.frozen? ⟨q + 2, 1, none⟩ = false := FR.out.frozen 2 1 rfl rfl
      have c30 : wa.cell? ⟨q + 3, 0, none⟩ = some (.int .i64 0) := FR.out.cell 3 0 rfl rfl rfl
      have f30 : wa.frozen? ⟨q + 3, 0, none⟩ = false := FR.out.frozen 3 0 rfl rfl
      have c31 : wa.cell? ⟨q + 3, 1, none⟩ = some (.int .i64 0) := FR.out.cell 3 1 rfl rfl rfl
      have f31 : wa.frozen? ⟨q + 3, 1, none⟩ = false := FR.out.frozen 3 1 rfl rfl
      go_wp2_with fail
      refine Shut.out hK _ _ hS (fun _ => ?_)
      clear hK K
      try simp only [Act.put, List.setIfInBounds_toArray, List.set_cons_zero, List.set_cons_succ]
      refine wpAnyH_ready (rs := [3]) (by kernel_rfl) (by simp) (AllReadyH.cons (o := ⟨none, .store 24 (.tmp 4) (.tmp 30), 0, "queue.go:61", #[⟨1, .data⟩, ⟨1, .chain⟩, ⟨0, .phase⟩, ⟨1, .phase⟩, ⟨2, .textOnly .lateStores⟩], none⟩) rfl (fun K hK => ?_) AllReadyH.nil)
      go_simp
      replace hS := Lib.hid (And.intro (keep_pair hS.out.1 nzq (.slice B n d) (.int .i64 fr)) (And.intro (keep_pair hS.out.2.1 nzr (.slice B n d) (.int .i64 fr)) (bel_pair hS.out.2.2 (show q ≤ q + 2 by omega) (.slice B n d) (.int .i64 fr))))
      refine Shut.out hK _ _ hS (fun _ => ?_)
      clear hK K
      try simp only [Act.put, List.setIfInBounds_toArray, List.set_cons_zero, List.set_cons_succ]
      refine wpAnyH_ready (rs := [4]) (by kernel_rfl) (by simp) (AllReadyH.cons (o := ⟨none, .store 26 (.tmp 5) (.tmp 31), 0, "queue.go:61", #[⟨2, .data⟩, ⟨3, .chain⟩, ⟨0, .phase⟩, ⟨1, .phase⟩, ⟨2, .phase⟩, ⟨3, .phase⟩], none⟩) rfl (fun K hK => ?_) AllReadyH.nil)
      go_simp
      replace hS := Lib.hid (And.intro (keep_pair hS.out.1 nzt (.int .i64 hd) (.int .i64 tl)) (And.intro (keep_pair hS.out.2.1 nzu (.int .i64 hd) (.int .i64 tl)) (bel_pair hS.out.2.2 (show q ≤ q + 3 by omega) (.int .i64 hd) (.int .i64 tl))))
      refine Shut.out hK _ _ hS (fun _ => ?_)
      clear hK K
      try simp only [Act.put, List.setIfInBounds_toArray, List.set_cons_zero, List.set_cons_succ]
      refine wpAnyH_take (i := 5) (oi := ⟨some 6, .assign (.const (Value.int IntKind.i64 0)), 3, "queue.go:61", #[⟨4, .chain⟩, ⟨0, .phase⟩, ⟨1, .phase⟩, ⟨2, .phase⟩, ⟨3, .phase⟩, ⟨4, .phase⟩], none⟩) (v := ?_) rfl (by kernel_rfl) (by kernel_rfl) (by kernel_rfl) (fun _ _ _ h => h) (Or.inl ⟨by rfl, ?_⟩) hS ?_
      rotate_left
      · intro wv _; go_simp; try with_reducible rfl
      try simp only [Act.put, List.setIfInBounds_toArray, List.set_cons_zero, List.set_cons_succ]
      refine wpAnyH_take (i := 6) (oi := ⟨some 7, .assign (.const (Value.int IntKind.i64 7)), 29, "queue.go:61", #[⟨5, .chain⟩, ⟨0, .phase⟩, ⟨1, .phase⟩, ⟨2, .phase⟩, ⟨3, .phase⟩, ⟨4, .phase⟩, ⟨5, .phase⟩], none⟩) (v := ?_) rfl (by kernel_rfl) (by kernel_rfl) (by kernel_rfl) (fun _ _ _ h => h) (Or.inl ⟨by rfl, ?_⟩) hS ?_
      rotate_left
      · intro wv _; go_simp; try with_reducible rfl
      try simp only [Act.put, List.setIfInBounds_toArray, List.set_cons_zero, List.set_cons_succ]
      refine wpAnyH_done (by kernel_rfl) ?_ _
      refine NoPanic.normal ?_
      go_wp2
      have FZ : Fr w ((((wa.setCell ⟨q + 2, 0, none⟩ (.slice B n d)).setCell ⟨q + 2, 1, none⟩ (.int .i64 fr)).setCell ⟨q + 3, 0, none⟩ (.int .i64 hd)).setCell ⟨q + 3, 1, none⟩ (.int .i64 tl)) q [.cells #[.slice A n c, .int .i64 fr] 24, .cells #[.int .i64 hd, .int .i64 tl] 26, .cells #[.slice B n d, .int .i64 fr] 24, .cells #[.int .i64 hd, .int .i64 tl] 26] := ((((FR.out.set 2 0 rfl rfl (.slice B n d)).set 2 1 rfl rfl (.int .i64 fr)).set 3 0 rfl rfl (.int .i64 hd)).set 3 1 rfl rfl (.int .i64 tl))
      refine bodyPost_ret (res_ccss Try.results9 (by rfl) (by rfl) (FZ.load 2 rfl rfl Try.underlying24 (by kernel_rfl)) (FZ.load 3 rfl rfl Try.underlying26 (by kernel_rfl))) rfl ?_
      rw [HE.out]
      exact ⟨_, _, _, rfl, own_base (own_apart (own_apart (own_apart (own_apart (OW.out) (k := q + 2) (o := 0) (u := .slice B n d) (by omega)) (k := q + 2) (o := 1) (u := .int .i64 fr) (by omega)) (k := q + 3) (o := 0) (u := .int .i64 hd) (by omega)) (k := q + 3) (o := 1) (u := .int .i64 tl) (by omega)) (by rw [hq]; omega), FZ.out⟩
    · obtain ⟨x, t, hxt⟩ := List.exists_cons_of_ne_nil h0
      obtain ⟨hhd, hth⟩ := PH x t hxt
      have hxb := HP.out.2 x (by rw [hxt]; simp)
      simp only [HL.out] at hxb hhd
      have hl0 : 0 < l.length := by rw [hxt]; simp
      rw [if_neg (fun h => by rw [h] at htl; simp at htl; omega), hth, ← hhd] at hE
      rw [← hhd] at hxb
      obtain ⟨i, rfl⟩ : ∃ i : Nat, hd = i := ⟨hd.toNat, by omega⟩
      have hi0 : (0 : Int) ≤ (i : Int) := hxb.1
      have hi1 : (i : Int) < (n : Int) := hxb.2
      have HE0 := Lib.hid hE
      have HGE := Lib.hid GE
      clear hE PH GE hxt hhd hth hxb h0 htl
      go_enter Try.func9, Try.ntmps9
      have c00 : v4.cell? ⟨q, 0, none⟩ = some (.slice A n c) := FR.out.cell 0 0 rfl rfl rfl
      have c01 : v4.cell? ⟨q, 1, none⟩ = some (.int .i64 fr) := FR.out.cell 0 1 rfl rfl rfl
      have c10 : v4.cell? ⟨q + 1, 0, none⟩ = some (.int .i64 (i : Int)) := FR.out.cell 1 0 rfl rfl rfl
      have c11 : v4.cell? ⟨q + 1, 1, none⟩ = some (.int .i64 tl) := FR.out.cell 1 1 rfl rfl rfl
      have c20 : v4.cell? ⟨q + 2, 0, none⟩ = some (.slice none 0 0) := FR.out.cell 2 0 rfl rfl rfl
      have c21 : v4.cell? ⟨q + 2, 1, none⟩ = some (.int .i64 0) := FR.out.cell 2 1 rfl rfl rfl
      have c30 : v4.cell? ⟨q + 3, 0, none⟩ = some (.int .i64 0) := FR.out.cell 3 0 rfl rfl rfl
      have c31 : v4.cell? ⟨q + 3, 1, none⟩ = some (.int .i64 0) := FR.out.cell 3 1 rfl rfl rfl
      go_wp2_with fail
      refine (R1.out).mono ?_
      rintro e w5 ⟨B0, m, c2, rfl, hown, hb⟩
      clear c00 c01 c10 c11 c20 c21 c30 c31
      replace FR := Lib.hid (FR.out.step hb)
      clear hb
      have hm0 : 0 < m := by have h1 : (intC l).length = m * 1 := hown.1; rw [intC_len] at h1; omega
      have b1 : ((m : Int) == 0) = false := by simp <;> omega
      have b1' : (m == 0) = false := by simp <;> omega
      obtain ⟨_, _, he, his⟩ := Es.of_own hown (intC_one _)
      injection he with he1 he2 he3; subst he1; subst he3
      have IP := Lib.hid (show Is _ B0 m c2 l from his)
      clear hown his
      have FR0 := FR.out.sz
      simp only [List.length_cons, List.length_nil] at FR0
      have c00 : w5.cell? ⟨q, 0, none⟩ = some (.slice A n c) := FR.out.cell 0 0 rfl rfl rfl
      have c01 : w5.cell? ⟨q, 1, none⟩ = some (.int .i64 fr) := FR.out.cell 0 1 rfl rfl rfl
      have c10 : w5.cell? ⟨q + 1, 0, none⟩ = some (.int .i64 (i : Int)) := FR.out.cell 1 0 rfl rfl rfl
      have c11 : w5.cell? ⟨q + 1, 1, none⟩ = some (.int .i64 tl) := FR.out.cell 1 1 rfl rfl rfl
      have c20 : w5.cell? ⟨q + 2, 0, none⟩ = some (.slice none 0 0) := FR.out.cell 2 0 rfl rfl rfl
      have c21 : w5.cell? ⟨q + 2, 1, none⟩ = some (.int .i64 0) := FR.out.cell 2 1 rfl rfl rfl
      have c30 : w5.cell? ⟨q + 3, 0, none⟩ = some (.int .i64 0) := FR.out.cell 3 0 rfl rfl rfl
      have c31 : w5.cell? ⟨q + 3, 1, none⟩ = some (.int .i64 0) := FR.out.cell 3 1 rfl rfl rfl
      go_wp2_with fail
      refine ((B1.out _ _ _ _ (FR.out.es RX.out) IP.out hm0)).mono ?_
      rintro e w6 ⟨B, m2, d2, rfl, hown, hb⟩
      clear c00 c01 c10 c11 c20 c21 c30 c31
      replace FR := Lib.hid (FR.out.step hb)
      clear hb
      have OW := Lib.hid (own_base hown FR0)
      clear hown FR0 IP hm0
      have gex := FR.out.sz
      simp only [List.length_cons, List.length_nil] at gex
      obtain ⟨w7, hw7⟩ : ∃ W, (w6.alloc (.cells #[.slice B m2 d2, .int .i64 fg] 24)).alloc (.cells #[.int .i64 qh, .int .i64 qt] 26) = W := ⟨_, rfl⟩
      have hb : Below w6.heap.size w6 w7 := hw7 ▸ ((Below.refl _ _).alloc (Nat.le_refl _) _).alloc (by simp) _
      have hv : w7.heap[w6.heap.size]? = some (.cells #[.slice B m2 d2, .int .i64 fg] 24) := hw7 ▸ (heap_alloc_old _ _ (by simp)).trans (heap_alloc_new _ _)
      have hv2 : w7.heap[w6.heap.size + 1]? = some (.cells #[.int .i64 qh, .int .i64 qt] 26) := by have := heap_alloc_new (w6.alloc (.cells #[.slice B m2 d2, .int .i64 fg] 24)) (.cells #[.int .i64 qh, .int .i64 qt] 26); rw [hw7] at this; simpa using this
      replace FR := Lib.hid (FR.out.step hb)
      replace OW := Lib.hid (own_below OW.out hb)
      have Vx := Lib.hid hv
      have Vy := Lib.hid hv2
      generalize hsx : w6.heap.size = sx at *
      clear hb hv hv2
      by_cases he0 : eg = 0
      · have b2 : (eg != 0) = false := by simp [he0]
        have HE := Lib.hid (show R = ((rg, fg), (qh, qt), (recAt rs i).2.1, 0) by rw [HE0.out, if_neg (by simp [he0])])
        clear he0 HE0 HGE
        obtain ⟨b, off, rfl, hb0, k0, k1, k2⟩ := Rs.look (rs := rs) RX.out i (by omega)
        clear k0 k2
        have hbq : b < q := by omega
        have K1 := Lib.hid k1
        generalize recAt rs (i : Int) = r at *
        clear k1
        have nxa : sx ≠ q + 2 := by omega
        have nxb : sx ≠ q + 3 := by omega
        have nya : sx + 1 ≠ q + 2 := by omega
        have nyb : sx + 1 ≠ q + 3 := by omega
        have nqa : q ≠ q + 2 := by omega
        have nqb : q ≠ q + 3 := by omega
        have nra : q + 1 ≠ q + 2 := by omega
        have nrb : q + 1 ≠ q + 3 := by omega
        have c20 : w7.cell? ⟨q + 2, 0, none⟩ = some (.slice none 0 0) := FR.out.cell 2 0 rfl rfl rfl
        have f20 : w7.frozen? ⟨q + 2, 0, none⟩ = false := FR.out.frozen 2 0 rfl rfl
        have c21 : w7.cell? ⟨q + 2, 1, none⟩ = some (.int .i64 0) := FR.out.cell 2 1 rfl rfl rfl
        have f21 : w7.frozen? ⟨q + 2, 1, none⟩ = false := FR.out.frozen 2 1 rfl rfl
        have c30 : w7.cell? ⟨q + 3, 0, none⟩ = some (.int .i64 0) := FR.out.cell 3 0 rfl rfl rfl
        have f30 : w7.frozen? ⟨q + 3, 0, none⟩ = false := FR.out.frozen 3 0 rfl rfl
        have c31 : w7.cell? ⟨q + 3, 1, none⟩ = some (.int .i64 0) := FR.out.cell 3 1 rfl rfl rfl
        have f31 : w7.frozen? ⟨q + 3, 1, none⟩ = false := FR.out.frozen 3 1 rfl rfl
        have cx0 : w7.cell? ⟨sx, 0, none⟩ = some (.slice B m2 d2) := (blk_cell Vx.out 0).trans rfl
        have fx0 : w7.frozen? ⟨sx, 0, none⟩ = false := blk_frozen Vx.out 0
        have cx1 : w7.cell? ⟨sx, 1, none⟩ = some (.int .i64 fg) := (blk_cell Vx.out 1).trans rfl
        have fx1 : w7.frozen? ⟨sx, 1, none⟩ = false := blk_frozen Vx.out 1
        have cy0 : w7.cell? ⟨sx + 1, 0, none⟩ = some (.int .i64 qh) := (blk_cell Vy.out 0).trans rfl
        have fy0 : w7.frozen? ⟨sx + 1, 0, none⟩ = false := blk_frozen Vy.out 0
        have cy1 : w7.cell? ⟨sx + 1, 1, none⟩ = some (.int .i64 qt) := (blk_cell Vy.out 1).trans rfl
        have fy1 : w7.frozen? ⟨sx + 1, 1, none⟩ = false := blk_frozen Vy.out 1
        go_wp2
        refine wp_region_noPanic ?_
        refine wp_region_held_drew (S := (fun wv => Hid (wv.heap[sx]? = some (.cells #[.slice B m2 d2, .int .i64 fg] 24) ∧ wv.heap[sx + 1]? = some (.cells #[.int .i64 qh, .int .i64 qt] 26) ∧ wv.heap[q]? = some (.cells #[.slice (some ⟨b, off, none⟩) n c, .int .i64 fr] 24) ∧ wv.heap[q + 1]? = some (.cells #[.int .i64 (i : Int), .int .i64 tl] 26) ∧ Below q w wv))) (by kernel_rfl) (Lib.hid ⟨Vx.out, Vy.out, FR.out.blk 0 _ rfl, FR.out.blk 1 _ rfl, FR.out.bel.drew⟩) (fun hS => ?_)
        refine wpAnyH_take (i := 0) (oi := ⟨some 45, .load 24 (.tmp 10), 24, "queue.go:67", #[], none⟩) (v := .agg (([.slice B m2 d2, .int .i64 fg] : List Value)).toArray) rfl (by kernel_rfl) (by kernel_rfl) (by kernel_rfl) (fun _ _ _ h => h) (yieldsIf_load_mid (by rfl) _ _ (by rfl) (sx) 0 (by rfl) (([.slice B m2 d2, .int .i64 fg] : List Value)) _ (fun wv hS => blk_rngl hS.out.1) Try.underlying24 (by rfl) (by kernel_rfl)) hS ?_
        try simp only [Act.put, List.setIfInBounds_toArray, List.set_cons_zero, List.set_cons_succ]
        refine wpAnyH_take (i := 1) (oi := ⟨some 46, .load 26 (.tmp 11), 26, "queue.go:67", #[⟨9, .gcOnly .lateStores⟩], none⟩) (v := .agg (([.int .i64 qh, .int .i64 qt] : List Value)).toArray) rfl (by kernel_rfl) (by kernel_rfl) (by kernel_rfl) (fun _ _ _ h => h) (yieldsIf_load_mid (by rfl) _ _ (by rfl) (sx + 1) 0 (by rfl) (([.int .i64 qh, .int .i64 qt] : List Value)) _ (fun wv hS => blk_rngl hS.out.2.1) Try.underlying26 (by rfl) (by kernel_rfl)) hS ?_
        try simp only [Act.put, List.setIfInBounds_toArray, List.set_cons_zero, List.set_cons_succ]
        refine wpAnyH_take (i := 2) (oi := ⟨some 47, .fieldAddr 24 (.tmp 2) 0, 0, "queue.go:67", #[⟨10, .gcOnly .lateStores⟩], none⟩) (v := ?_) rfl (by kernel_rfl) (by kernel_rfl) (by kernel_rfl) (fun _ _ _ h => h) (Or.inl ⟨by rfl, ?_⟩) hS ?_
        rotate_left
        · intro wv _; go_simp; try with_reducible rfl
        try simp only [Act.put, List.setIfInBounds_toArray, List.set_cons_zero, List.set_cons_succ]
        refine wpAnyH_take (i := 3) (oi := ⟨some 48, .load 22 (.tmp 47), 22, "queue.go:67", #[⟨2, .data⟩, ⟨10, .gcOnly .lateStores⟩], none⟩) (v := ?_) rfl (by kernel_rfl) (by kernel_rfl) (by kernel_rfl) (fun _ _ _ h => h) (Or.inl ⟨by rfl, ?_⟩) hS ?_
        rotate_left
        · intro wv hS; have hrun := (show wv.cell? ⟨q, 0, none⟩ = some (.slice (some ⟨b, off, none⟩) n c) from (blk_cell hS.out.2.2.1 0).trans rfl); go_simp; try with_reducible rfl
        try simp only [Act.put, List.setIfInBounds_toArray, List.set_cons_zero, List.set_cons_succ]
        refine wpAnyH_take (i := 4) (oi := ⟨some 49, .fieldAddr 26 (.tmp 3) 0, 0, "queue.go:67", #[⟨10, .gcOnly .lateStores⟩], none⟩) (v := ?_) rfl (by kernel_rfl) (by kernel_rfl) (by kernel_rfl) (fun _ _ _ h => h) (Or.inl ⟨by rfl, ?_⟩) hS ?_
        rotate_left
        · intro wv _; go_simp; try with_reducible rfl
        try simp only [Act.put, List.setIfInBounds_toArray, List.set_cons_zero, List.set_cons_succ]
        refine wpAnyH_take (i := 5) (oi := ⟨some 50, .load 3 (.tmp 49), 3, "queue.go:67", #[⟨4, .data⟩, ⟨10, .gcOnly .lateStores⟩], none⟩) (v := ?_) rfl (by kernel_rfl) (by kernel_rfl) (by kernel_rfl) (fun _ _ _ h => h) (Or.inl ⟨by rfl, ?_⟩) hS ?_
        rotate_left
        · intro wv hS; have hrun := (show wv.cell? ⟨q + 1, 0, none⟩ = some (.int .i64 (i : Int)) from (blk_cell hS.out.2.2.2.1 0).trans rfl); go_simp; try with_reducible rfl
        try simp only [Act.put, List.setIfInBounds_toArray, List.set_cons_zero, List.set_cons_succ]
        refine wpAnyH_take (i := 6) (oi := ⟨some 51, .indexAddr 22 (.tmp 48) (.tmp 50), 0, "queue.go:67", #[⟨3, .data⟩, ⟨5, .data⟩, ⟨10, .gcOnly .lateStores⟩], none⟩) (v := ?_) rfl (by kernel_rfl) (by kernel_rfl) (by kernel_rfl) (fun _ _ _ h => h) (Or.inl ⟨by rfl, ?_⟩) hS ?_
        rotate_left
        · intro wv _; go_simp; try with_reducible rfl
        try simp only [Act.put, List.setIfInBounds_toArray, List.set_cons_zero, List.set_cons_succ]
        refine wpAnyH_take (i := 7) (oi := ⟨some 52, .fieldAddr 55 (.tmp 51) 1, 0, "queue.go:67", #[⟨6, .data⟩, ⟨10, .gcOnly .lateStores⟩], none⟩) (v := ?_) rfl (by kernel_rfl) (by kernel_rfl) (by kernel_rfl) (fun _ _ _ h => h) (Or.inl ⟨by rfl, ?_⟩) hS ?_
        rotate_left
        · intro wv _; go_simp; try with_reducible rfl
        try simp only [Act.put, List.setIfInBounds_toArray, List.set_cons_zero, List.set_cons_succ]
        refine wpAnyH_take (i := 8) (oi := ⟨some 53, .load 3 (.tmp 52), 3, "queue.go:67", #[⟨7, .data⟩, ⟨10, .gcOnly .lateStores⟩], none⟩) (v := ?_) rfl (by kernel_rfl) (by kernel_rfl) (by kernel_rfl) (fun _ _ _ h => h) (Or.inl ⟨by rfl, ?_⟩) hS ?_
        rotate_left
        · intro wv hS; have hrun := (hS.out.2.2.2.2.cell (p := ⟨b, off + i * 3 + 1, none⟩) hbq).trans K1.out; go_simp; try with_reducible rfl
        try simp only [Act.put, List.setIfInBounds_toArray, List.set_cons_zero, List.set_cons_succ]
        refine wpAnyH_ready (rs := [9]) (by kernel_rfl) (by simp) (AllReadyH.cons (o := ⟨none, .store 24 (.tmp 4) (.tmp 45), 0, "queue.go:67", #[⟨0, .data⟩, ⟨0, .phase⟩, ⟨1, .textOnly .lateStores⟩, ⟨2, .textOnly .lateStores⟩, ⟨3, .textOnly .lateStores⟩, ⟨4, .textOnly .lateStores⟩, ⟨5, .textOnly .lateStores⟩, ⟨6, .textOnly .lateStores⟩, ⟨7, .textOnly .lateStores⟩, ⟨8, .textOnly .lateStores⟩], none⟩) rfl (fun K hK => ?_) AllReadyH.nil)
        go_simp
        replace hS := Lib.hid (And.intro (keep_pair hS.out.1 nxa (.slice B m2 d2) (.int .i64 fg)) (And.intro (keep_pair hS.out.2.1 nya (.slice B m2 d2) (.int .i64 fg)) (And.intro (keep_pair hS.out.2.2.1 nqa (.slice B m2 d2) (.int .i64 fg)) (And.intro (keep_pair hS.out.2.2.2.1 nra (.slice B m2 d2) (.int .i64 fg)) (bel_pair hS.out.2.2.2.2 (show q ≤ q + 2 by omega) (.slice B m2 d2) (.int .i64 fg))))))
        refine Shut.out hK _ _ hS (fun _ => ?_)
        clear hK K
        try simp only [Act.put, List.setIfInBounds_toArray, List.set_cons_zero, List.set_cons_succ]
        refine wpAnyH_ready (rs := [10]) (by kernel_rfl) (by simp) (AllReadyH.cons (o := ⟨none, .store 26 (.tmp 5) (.tmp 46), 0, "queue.go:67", #[⟨1, .data⟩, ⟨9, .chain⟩, ⟨0, .phase⟩, ⟨1, .phase⟩, ⟨2, .textOnly .lateStores⟩, ⟨3, .textOnly .lateStores⟩, ⟨4, .textOnly .lateStores⟩, ⟨5, .textOnly .lateStores⟩, ⟨6, .textOnly .lateStores⟩, ⟨7, .textOnly .lateStores⟩, ⟨8, .textOnly .lateStores⟩, ⟨9, .phase⟩], none⟩) rfl (fun K hK => ?_) AllReadyH.nil)
        go_simp
        replace hS := Lib.hid (And.intro (keep_pair hS.out.1 nxb (.int .i64 qh) (.int .i64 qt)) (And.intro (keep_pair hS.out.2.1 nyb (.int .i64 qh) (.int .i64 qt)) (And.intro (keep_pair hS.out.2.2.1 nqb (.int .i64 qh) (.int .i64 qt)) (And.intro (keep_pair hS.out.2.2.2.1 nrb (.int .i64 qh) (.int .i64 qt)) (bel_pair hS.out.2.2.2.2 (show q ≤ q + 3 by omega) (.int .i64 qh) (.int .i64 qt))))))
        refine Shut.out hK _ _ hS (fun _ => ?_)
        clear hK K
        try simp only [Act.put, List.setIfInBounds_toArray, List.set_cons_zero, List.set_cons_succ]
        refine wpAnyH_take (i := 11) (oi := ⟨some 6, .assign (.tmp 53), 3, "queue.go:67", #[⟨8, .data⟩, ⟨10, .chain⟩, ⟨0, .phase⟩, ⟨1, .phase⟩, ⟨2, .phase⟩, ⟨3, .phase⟩, ⟨4, .phase⟩, ⟨5, .phase⟩, ⟨6, .phase⟩, ⟨7, .phase⟩, ⟨8, .phase⟩, ⟨9, .phase⟩, ⟨10, .phase⟩], none⟩) (v := ?_) rfl (by kernel_rfl) (by kernel_rfl) (by kernel_rfl) (fun _ _ _ h => h) (Or.inl ⟨by rfl, ?_⟩) hS ?_
        rotate_left
        · intro wv _; go_simp; try with_reducible rfl
        try simp only [Act.put, List.setIfInBounds_toArray, List.set_cons_zero, List.set_cons_succ]
        refine wpAnyH_take (i := 12) (oi := ⟨some 7, .assign (.const (Value.int IntKind.i64 0)), 29, "queue.go:67", #[⟨11, .chain⟩, ⟨0, .phase⟩, ⟨1, .phase⟩, ⟨2, .phase⟩, ⟨3, .phase⟩, ⟨4, .phase⟩, ⟨5, .phase⟩, ⟨6, .phase⟩, ⟨7, .phase⟩, ⟨8, .phase⟩, ⟨9, .phase⟩, ⟨10, .phase⟩, ⟨11, .phase⟩], none⟩) (v := ?_) rfl (by kernel_rfl) (by kernel_rfl) (by kernel_rfl) (fun _ _ _ h => h) (Or.inl ⟨by rfl, ?_⟩) hS ?_
        rotate_left
        · intro wv _; go_simp; try with_reducible rfl
        try simp only [Act.put, List.setIfInBounds_toArray, List.set_cons_zero, List.set_cons_succ]
        refine wpAnyH_done (by kernel_rfl) ?_ _
        refine NoPanic.normal ?_
        go_wp2
        have FZ : Fr w (((((w7.setCell ⟨q + 2, 0, none⟩ (.slice B m2 d2)).setCell ⟨q + 2, 1, none⟩ (.int .i64 fg)).setCell ⟨q + 3, 0, none⟩ (.int .i64 qh)).setCell ⟨q + 3, 1, none⟩ (.int .i64 qt))).drew q [.cells #[.slice (some ⟨b, off, none⟩) n c, .int .i64 fr] 24, .cells #[.int .i64 (i : Int), .int .i64 tl] 26, .cells #[.slice B m2 d2, .int .i64 fg] 24, .cells #[.int .i64 qh, .int .i64 qt] 26] := (((((FR.out.set 2 0 rfl rfl (.slice B m2 d2)).set 2 1 rfl rfl (.int .i64 fg)).set 3 0 rfl rfl (.int .i64 qh)).set 3 1 rfl rfl (.int .i64 qt))).drew
        refine bodyPost_ret (res_ccss Try.results9 (by rfl) (by rfl) (FZ.load 2 rfl rfl Try.underlying24 (by kernel_rfl)) (FZ.load 3 rfl rfl Try.underlying26 (by kernel_rfl))) rfl ?_
        rw [HE.out]
        exact ⟨_, _, _, rfl, own_base (own_apart (own_apart (own_apart (own_apart (OW.out) (k := q + 2) (o := 0) (u := .slice B m2 d2) (by omega)) (k := q + 2) (o := 1) (u := .int .i64 fg) (by omega)) (k := q + 3) (o := 0) (u := .int .i64 qh) (by omega)) (k := q + 3) (o := 1) (u := .int .i64 qt) (by omega)) (by rw [hq]; omega), FZ.out⟩
      · have b2 : (eg != 0) = true := by simp [he0]
        have HE := Lib.hid (show R = ((rg, fg), (qh, qt), 0, eg) by rw [HE0.out, if_pos he0]; obtain ⟨g1, g2⟩ := HGE.out he0; rw [g1, g2])
        clear he0 HE0 HGE
        have nz02 : sx ≠ q + 2 := by omega
        have nz03 : sx ≠ q + 3 := by omega
        have nz12 : sx + 1 ≠ q + 2 := by omega
        have nz13 : sx + 1 ≠ q + 3 := by omega
        have c20 : w7.cell? ⟨q + 2, 0, none⟩ = some (.slice none 0 0) := FR.out.cell 2 0 rfl rfl rfl
        have f20 : w7.frozen? ⟨q + 2, 0, none⟩ = false := FR.out.frozen 2 0 rfl rfl
        have c21 : w7.cell? ⟨q + 2, 1, none⟩ = some (.int .i64 0) := FR.out.cell 2 1 rfl rfl rfl
        have f21 : w7.frozen? ⟨q + 2, 1, none⟩ = false := FR.out.frozen 2 1 rfl rfl
        have c30 : w7.cell? ⟨q + 3, 0, none⟩ = some (.int .i64 0) := FR.out.cell 3 0 rfl rfl rfl
        have f30 : w7.frozen? ⟨q + 3, 0, none⟩ = false := FR.out.frozen 3 0 rfl rfl
        have c31 : w7.cell? ⟨q + 3, 1, none⟩ = some (.int .i64 0) := FR.out.cell 3 1 rfl rfl rfl
        have f31 : w7.frozen? ⟨q + 3, 1, none⟩ = false := FR.out.frozen 3 1 rfl rfl
        have cx0 : w7.cell? ⟨sx, 0, none⟩ = some (.slice B m2 d2) := (blk_cell Vx.out 0).trans rfl
        have fx0 : w7.frozen? ⟨sx, 0, none⟩ = false := blk_frozen Vx.out 0
        have cx1 : w7.cell? ⟨sx, 1, none⟩ = some (.int .i64 fg) := (blk_cell Vx.out 1).trans rfl
        have fx1 : w7.frozen? ⟨sx, 1, none⟩ = false := blk_frozen Vx.out 1
        have cy0 : w7.cell? ⟨sx + 1, 0, none⟩ = some (.int .i64 qh) := (blk_cell Vy.out 0).trans rfl
        have fy0 : w7.frozen? ⟨sx + 1, 0, none⟩ = false := blk_frozen Vy.out 0
        have cy1 : w7.cell? ⟨sx + 1, 1, none⟩ = some (.int .i64 qt) := (blk_cell Vy.out 1).trans rfl
        have fy1 : w7.frozen? ⟨sx + 1, 1, none⟩ = false := blk_frozen Vy.out 1
        go_wp2
        refine wp_region_noPanic ?_
        refine wp_region_held_drew (S := (fun wv => Hid (wv.heap[sx]? = some (.cells #[.slice B m2 d2, .int .i64 fg] 24) ∧ wv.heap[sx + 1]? = some (.cells #[.int .i64 qh, .int .i64 qt] 26) ∧ Below q w wv))) (by kernel_rfl) (Lib.hid ⟨Vx.out, Vy.out, FR.out.bel.drew⟩) (fun hS => ?_)
        refine wpAnyH_take (i := 0) (oi := ⟨some 42, .load 24 (.tmp 10), 24, "queue.go:65", #[], none⟩) (v := .agg (([.slice B m2 d2, .int .i64 fg] : List Value)).toArray) rfl (by kernel_rfl) (by kernel_rfl) (by kernel_rfl) (fun _ _ _ h => h) (yieldsIf_load_mid (by rfl) _ _ (by rfl) (sx) 0 (by rfl) (([.slice B m2 d2, .int .i64 fg] : List Value)) _ (fun wv hS => blk_rngl hS.out.1) Try.underlying24 (by rfl) (by kernel_rfl)) hS ?_
        try simp only [Act.put, List.setIfInBounds_toArray, List.set_cons_zero, List.set_cons_succ]
        refine wpAnyH_take (i := 1) (oi := ⟨some 43, .load 26 (.tmp 11), 26, "queue.go:65", #[⟨3, .gcOnly .lateStores⟩], none⟩) (v := .agg (([.int .i64 qh, .int .i64 qt] : List Value)).toArray) rfl (by kernel_rfl) (by kernel_rfl) (by kernel_rfl) (fun _ _ _ h => h) (yieldsIf_load_mid (by rfl) _ _ (by rfl) (sx + 1) 0 (by rfl) (([.int .i64 qh, .int .i64 qt] : List Value)) _ (fun wv hS => blk_rngl hS.out.2.1) Try.underlying26 (by rfl) (by kernel_rfl)) hS ?_
        try simp only [Act.put, List.setIfInBounds_toArray, List.set_cons_zero, List.set_cons_succ]
        refine wpAnyH_take (i := 2) (oi := ⟨some 44, .move (.tmp 12), 29, "queue.go:65", #[⟨5, .gcOnly .lateStores⟩], none⟩) (v := ?_) rfl (by kernel_rfl) (by kernel_rfl) (by kernel_rfl) (fun _ _ _ h => h) (Or.inl ⟨by rfl, ?_⟩) hS ?_
        rotate_left
        · intro wv _; go_simp; try with_reducible rfl
        try simp only [Act.put, List.setIfInBounds_toArray, List.set_cons_zero, List.set_cons_succ]
        refine wpAnyH_ready (rs := [3]) (by kernel_rfl) (by simp) (AllReadyH.cons (o := ⟨none, .store 24 (.tmp 4) (.tmp 42), 0, "queue.go:65", #[⟨0, .data⟩, ⟨0, .phase⟩, ⟨1, .textOnly .lateStores⟩, ⟨2, .textOnly .lateStores⟩], none⟩) rfl (fun K hK => ?_) AllReadyH.nil)
        go_simp
        replace hS := Lib.hid (And.intro (keep_pair hS.out.1 nz02 (.slice B m2 d2) (.int .i64 fg)) (And.intro (keep_pair hS.out.2.1 nz12 (.slice B m2 d2) (.int .i64 fg)) (bel_pair hS.out.2.2 (show q ≤ q + 2 by omega) (.slice B m2 d2) (.int .i64 fg))))
        refine Shut.out hK _ _ hS (fun _ => ?_)
        clear hK K
        try simp only [Act.put, List.setIfInBounds_toArray, List.set_cons_zero, List.set_cons_succ]
        refine wpAnyH_ready (rs := [4]) (by kernel_rfl) (by simp) (AllReadyH.cons (o := ⟨none, .store 26 (.tmp 5) (.tmp 43), 0, "queue.go:65", #[⟨1, .data⟩, ⟨3, .chain⟩, ⟨0, .phase⟩, ⟨1, .phase⟩, ⟨2, .textOnly .lateStores⟩, ⟨3, .phase⟩], none⟩) rfl (fun K hK => ?_) AllReadyH.nil)
        go_simp
        replace hS := Lib.hid (And.intro (keep_pair hS.out.1 nz03 (.int .i64 qh) (.int .i64 qt)) (And.intro (keep_pair hS.out.2.1 nz13 (.int .i64 qh) (.int .i64 qt)) (bel_pair hS.out.2.2 (show q ≤ q + 3 by omega) (.int .i64 qh) (.int .i64 qt))))
        refine Shut.out hK _ _ hS (fun _ => ?_)
        clear hK K
        try simp only [Act.put, List.setIfInBounds_toArray, List.set_cons_zero, List.set_cons_succ]
        refine wpAnyH_take (i := 5) (oi := ⟨some 6, .assign (.const (Value.int IntKind.i64 0)), 3, "queue.go:65", #[⟨4, .chain⟩, ⟨0, .phase⟩, ⟨1, .phase⟩, ⟨2, .textOnly .lateStores⟩, ⟨3, .phase⟩, ⟨4, .phase⟩], none⟩) (v := ?_) rfl (by kernel_rfl) (by kernel_rfl) (by kernel_rfl) (fun _ _ _ h => h) (Or.inl ⟨by rfl, ?_⟩) hS ?_
        rotate_left
        · intro wv _; go_simp; try with_reducible rfl
        try simp only [Act.put, List.setIfInBounds_toArray, List.set_cons_zero, List.set_cons_succ]
        refine wpAnyH_take (i := 6) (oi := ⟨some 7, .assign (.tmp 44), 29, "queue.go:65", #[⟨2, .data⟩, ⟨5, .chain⟩, ⟨0, .phase⟩, ⟨1, .phase⟩, ⟨2, .phase⟩, ⟨3, .phase⟩, ⟨4, .phase⟩, ⟨5, .phase⟩], none⟩) (v := ?_) rfl (by kernel_rfl) (by kernel_rfl) (by kernel_rfl) (fun _ _ _ h => h) (Or.inl ⟨by rfl, ?_⟩) hS ?_
        rotate_left
        · intro wv _; go_simp; try with_reducible rfl
        try simp only [Act.put, List.setIfInBounds_toArray, List.set_cons_zero, List.set_cons_succ]
        refine wpAnyH_done (by kernel_rfl) ?_ _
        refine NoPanic.normal ?_
        go_wp2
        have FZ : Fr w (((((w7.setCell ⟨q + 2, 0, none⟩ (.slice B m2 d2)).setCell ⟨q + 2, 1, none⟩ (.int .i64 fg)).setCell ⟨q + 3, 0, none⟩ (.int .i64 qh)).setCell ⟨q + 3, 1, none⟩ (.int .i64 qt))).drew q [.cells #[.slice A n c, .int .i64 fr] 24, .cells #[.int .i64 (i : Int), .int .i64 tl] 26, .cells #[.slice B m2 d2, .int .i64 fg] 24, .cells #[.int .i64 qh, .int .i64 qt] 26] := (((((FR.out.set 2 0 rfl rfl (.slice B m2 d2)).set 2 1 rfl rfl (.int .i64 fg)).set 3 0 rfl rfl (.int .i64 qh)).set 3 1 rfl rfl (.int .i64 qt))).drew
        refine bodyPost_ret (res_ccss Try.results9 (by rfl) (by rfl) (FZ.load 2 rfl rfl Try.underlying24 (by kernel_rfl)) (FZ.load 3 rfl rfl Try.underlying26 (by kernel_rfl))) rfl ?_
        rw [HE.out]
        exact ⟨_, _, _, rfl, own_base (own_apart (own_apart (own_apart (own_apart (OW.out) (k := q + 2) (o := 0) (u := .slice B m2 d2) (by omega)) (k := q + 2) (o := 1) (u := .int .i64 fg) (by omega)) (k := q + 3) (o := 0) (u := .int .i64 qh) (by omega)) (k := q + 3) (o := 1) (u := .int .i64 qt) (by omega)) (by rw [hq]; omega), FZ.out⟩
set_option maxRecDepth 100000 in
set_option maxHeartbeats 8000000 in
theorem qpDrop_all (A : Option Addr) (n c : Nat) (rs : List Rec3) (fr hd tl task : Int) (w : World) (hx : Rs w A n c rs) (hn : n ≤ 16384) :
    Calls Try.prog 11 #[.agg #[.slice A n c, .int .i64 fr], .agg #[.int .i64 hd, .int .i64 tl], .int .i64 task] w (QAll w (qDrop (rs, fr) (hd, tl) task)) := by
  have HL := Lib.hid hx.len
  have RX := Lib.hid hx
  have RW := Lib.hid (fun (W : World) (h : Rs W A n c rs) => qpRow_any A n c rs fr hd tl W h hn)
  have CP := Lib.hid (fun (W : World) (h : Rs W A n c rs) => qpCopied_any A n c rs fr W h hn)
  have BT := Lib.hid (fun (C : Option Addr) (m c2 k : Nat) (W : World) (h : Rs W A n c rs) (hp : Is W C m c2 (qPlaces (rs, fr) (hd, tl))) (hr : qRight (rs, fr) (hd, tl) = true) (hk : k < m) => qpBut_all A n c rs fr hd tl C m c2 k W h hp hn hr hk)
  obtain ⟨R, hR⟩ : ∃ R, qDrop (rs, fr) (hd, tl) task = R := ⟨_, rfl⟩
  have HR := Lib.hid hR
  rw [hR]
  clear hx hR
  obtain ⟨v1, hv1⟩ : ∃ W, w.alloc (.cells #[.slice A n c, .int .i64 fr] 24) = W := ⟨_, rfl⟩
  have fr1 : Fr w v1 w.heap.size [.cells #[.slice A n c, .int .i64 fr] 24] := hv1 ▸ Fr.first w _
  have z1 : v1.heap.size = w.heap.size + 1 := by rw [← hv1, Fr.size1]
  obtain ⟨v2, hv2⟩ : ∃ W, v1.alloc (.cells #[.int .i64 hd, .int .i64 tl] 26) = W := ⟨_, rfl⟩
  have fr2 : Fr w v2 w.heap.size [.cells #[.slice A n c, .int .i64 fr] 24, .cells #[.int .i64 hd, .int .i64 tl] 26] := hv2 ▸ fr1.more z1 _
  have z2 : v2.heap.size = w.heap.size + 2 := by rw [← hv2, Fr.size1, z1]
  obtain ⟨v3, hv3⟩ : ∃ W, v2.alloc (.cells #[.slice none 0 0, .int .i64 0] 24) = W := ⟨_, rfl⟩
  have fr3 : Fr w v3 w.heap.size [.cells #[.slice A n c, .int .i64 fr] 24, .cells #[.int .i64 hd, .int .i64 tl] 26, .cells #[.slice none 0 0, .int .i64 0] 24] := hv3 ▸ fr2.more z2 _
  have z3 : v3.heap.size = w.heap.size + 3 := by rw [← hv3, Fr.size1, z2]
  obtain ⟨v4, hv4⟩ : ∃ W, v3.alloc (.cells #[.int .i64 0, .int .i64 0] 26) = W := ⟨_, rfl⟩
  have fr4 : Fr w v4 w.heap.size [.cells #[.slice A n c, .int .i64 fr] 24, .cells #[.int .i64 hd, .int .i64 tl] 26, .cells #[.slice none 0 0, .int .i64 0] 24, .cells #[.int .i64 0, .int .i64 0] 26] := hv4 ▸ fr3.more z3 _
  have z4 : v4.heap.size = w.heap.size + 4 := by rw [← hv4, Fr.size1, z3]
  generalize hq : w.heap.size = q at *
  have FR := Lib.hid fr4
  clear fr1 fr2 fr3 fr4
  have R1 := RW.out _ (FR.out.es RX.out)
  cases hr : qRight (rs, fr) (hd, tl)
  · have HE := Lib.hid (show R = ((rs, fr), (hd, tl), 1) by rw [← HR.out]; unfold qDrop; rw [if_pos hr])
    rw [rowS_not hr] at R1
    replace R1 := Lib.hid R1
    clear hr BT
    go_enter Try.func11, Try.ntmps11
    have c00 : v4.cell? ⟨q, 0, none⟩ = some (.slice A n c) := FR.out.cell 0 0 rfl rfl rfl
    have c01 : v4.cell? ⟨q, 1, none⟩ = some (.int .i64 fr) := FR.out.cell 0 1 rfl rfl rfl
    have c10 : v4.cell? ⟨q + 1, 0, none⟩ = some (.int .i64 hd) := FR.out.cell 1 0 rfl rfl rfl
    have c11 : v4.cell? ⟨q + 1, 1, none⟩ = some (.int .i64 tl) := FR.out.cell 1 1 rfl rfl rfl
    have c20 : v4.cell? ⟨q + 2, 0, none⟩ = some (.slice none 0 0) := FR.out.cell 2 0 rfl rfl rfl
    have c21 : v4.cell? ⟨q + 2, 1, none⟩ = some (.int .i64 0) := FR.out.cell 2 1 rfl rfl rfl
    have c30 : v4.cell? ⟨q + 3, 0, none⟩ = some (.int .i64 0) := FR.out.cell 3 0 rfl rfl rfl
    have c31 : v4.cell? ⟨q + 3, 1, none⟩ = some (.int .i64 0) := FR.out.cell 3 1 rfl rfl rfl
    go_wp2_with fail
    refine (R1.out).mono ?_
    rintro e w5 ⟨B0, m, c2, rfl, hown, hb⟩
    clear c00 c01 c10 c11 c20 c21 c30 c31
    replace FR := Lib.hid (FR.out.step hb)
    clear hb
    clear hown
    have hszc := FR.out.sz
    simp only [List.length_cons, List.length_nil] at hszc
    have nzq : q ≠ q + 2 := by omega
    have nzr : q + 1 ≠ q + 2 := by omega
    have nzt : q ≠ q + 3 := by omega
    have nzu : q + 1 ≠ q + 3 := by omega
    go_wp2
    refine wp_region_noPanic ?_
    refine wp_region_held_drew (S := (fun wv => Hid (wv.heap[q]? = some (.cells #[.slice A n c, .int .i64 fr] 24) ∧ wv.heap[q + 1]? = some (.cells #[.int .i64 hd, .int .i64 tl] 26) ∧ Below q w wv))) (by kernel_rfl) (Lib.hid ⟨FR.out.blk 0 _ rfl, FR.out.blk 1 _ rfl, FR.out.bel.drew⟩) (fun hS => ?_)
    refine wpAnyH_take (i := 0) (oi := ⟨some 20, .load 24 (.tmp 3), 24, "queue.go:74", #[], none⟩) (v := .agg (([.slice A n c, .int .i64 fr] : List Value)).toArray) rfl (by kernel_rfl) (by kernel_rfl) (by kernel_rfl) (fun _ _ _ h => h) (yieldsIf_load_mid (by rfl) _ _ (by rfl) (q) 0 (by rfl) (([.slice A n c, .int .i64 fr] : List Value)) _ (fun wv hS => blk_rngl hS.out.1) Try.underlying24 (by rfl) (by kernel_rfl)) hS ?_
    try simp only [Act.put, List.setIfInBounds_toArray, List.set_cons_zero, List.set_cons_succ]
    refine wpAnyH_take (i := 2) (oi := ⟨some 22, .load 26 (.tmp 4), 26, "queue.go:74", #[⟨3, .gcOnly .lateStores⟩], none⟩) (v := .agg (([.int .i64 hd, .int .i64 tl] : List Value)).toArray) rfl (by kernel_rfl) (by kernel_rfl) (by kernel_rfl) (fun _ _ _ h => h) (yieldsIf_load_mid (by rfl) _ _ (by rfl) (q + 1) 0 (by rfl) (([.int .i64 hd, .int .i64 tl] : List Value)) _ (fun wv hS => blk_rngl hS.out.2.1) Try.underlying26 (by rfl) (by kernel_rfl)) hS ?_
    try simp only [Act.put, List.setIfInBounds_toArray, List.set_cons_zero, List.set_cons_succ]
    refine wpAnyH_ready (rs := [1]) (by kernel_rfl) (by simp) (AllReadyH.cons (o := ⟨some 21, .call { callee := .value (.func 27), args := #[.tmp 20], argTypes := #[24] }, 24, "queue.go:74", #[⟨0, .data⟩], none⟩) rfl (fun K hK => ?_) AllReadyH.nil)
    go_simp
    refine (CP.out _ (FR.out.drew.es RX.out)).mono ?_
    rintro e wa ⟨B, d, rfl, hown, hb⟩
    replace FR := Lib.hid (FR.out.drew.step hb)
    have OW := Lib.hid (own_base hown (show q + 4 ≤ w5.heap.size by omega))
    clear hown hb
    replace hS := Lib.hid (And.intro (FR.out.blk 0 _ rfl) (And.intro (FR.out.blk 1 _ rfl) FR.out.bel))
    have c20 : wa.cell? ⟨q + 2, 0, none⟩ = some (.slice none 0 0) := FR.out.cell 2 0 rfl rfl rfl
    have f20 : wa.frozen? ⟨q + 2, 0, none⟩ = false := FR.out.frozen 2 0 rfl rfl
    have c21 : wa.cell? ⟨q + 2, 1, none⟩ = some (.int .i64 0) := FR.out.cell 2 1 rfl rfl rfl
    have f21 : wa.frozen? ⟨q + 2, 1, none⟩ = false := FR.out.frozen 2 1 rfl rfl
    have c30 : wa.cell? ⟨q + 3, 0, none⟩ = some (.int .i64 0) := FR.out.cell 3 0 rfl rfl rfl
    have f30 : wa.frozen? ⟨q + 3, 0, none⟩ = false := FR.out.frozen 3 0 rfl rfl
    have c31 : wa.cell? ⟨q + 3, 1, none⟩ = some (.int .i64 0) := FR.out.cell 3 1 rfl rfl rfl
    have f31 : wa.frozen? ⟨q + 3, 1, none⟩ = false := FR.out.frozen 3 1 rfl rfl
    go_wp2_with fail
    refine Shut.out hK _ _ hS (fun _ => ?_)
    clear hK K
    try simp only [Act.put, List.setIfInBounds_toArray, List.set_cons_zero, List.set_cons_succ]
    refine wpAnyH_ready (rs := [3]) (by kernel_rfl) (by simp) (AllReadyH.cons (o := ⟨none, .store 24 (.tmp 6) (.tmp 21), 0, "queue.go:74", #[⟨1, .data⟩, ⟨1, .chain⟩, ⟨0, .phase⟩, ⟨1, .phase⟩, ⟨2, .textOnly .lateStores⟩], none⟩) rfl (fun K hK => ?_) AllReadyH.nil)
    go_simp
    replace hS := Lib.hid (And.intro (keep_pair hS.out.1 nzq (.slice B n d) (.int .i64 fr)) (And.intro (keep_pair hS.out.2.1 nzr (.slice B n d) (.int .i64 fr)) (bel_pair hS.out.2.2 (show q ≤ q + 2 by omega) (.slice B n d) (.int .i64 fr))))
    refine Shut.out hK _ _ hS (fun _ => ?_)
    clear hK K
    try simp only [Act.put, List.setIfInBounds_toArray, List.set_cons_zero, List.set_cons_succ]
    refine wpAnyH_ready (rs := [4]) (by kernel_rfl) (by simp) (AllReadyH.cons (o := ⟨none, .store 26 (.tmp 7) (.tmp 22), 0, "queue.go:74", #[⟨2, .data⟩, ⟨3, .chain⟩, ⟨0, .phase⟩, ⟨1, .phase⟩, ⟨2, .phase⟩, ⟨3, .phase⟩], none⟩) rfl (fun K hK => ?_) AllReadyH.nil)
    go_simp
    replace hS := Lib.hid (And.intro (keep_pair hS.out.1 nzt (.int .i64 hd) (.int .i64 tl)) (And.intro (keep_pair hS.out.2.1 nzu (.int .i64 hd) (.int .i64 tl)) (bel_pair hS.out.2.2 (show q ≤ q + 3 by omega) (.int .i64 hd) (.int .i64 tl))))
    refine Shut.out hK _ _ hS (fun _ => ?_)
    clear hK K
    try simp only [Act.put, List.setIfInBounds_toArray, List.set_cons_zero, List.set_cons_succ]
    refine wpAnyH_take (i := 5) (oi := ⟨some 8, .assign (.const (Value.int IntKind.i64 1)), 29, "queue.go:74", #[⟨4, .chain⟩, ⟨0, .phase⟩, ⟨1, .phase⟩, ⟨2, .phase⟩, ⟨3, .phase⟩, ⟨4, .phase⟩], none⟩) (v := ?_) rfl (by kernel_rfl) (by kernel_rfl) (by kernel_rfl) (fun _ _ _ h => h) (Or.inl ⟨by rfl, ?_⟩) hS ?_
    rotate_left
    · intro wv _; go_simp; try with_reducible rfl
    try simp only [Act.put, List.setIfInBounds_toArray, List.set_cons_zero, List.set_cons_succ]
    refine wpAnyH_done (by kernel_rfl) ?_ _
    refine NoPanic.normal ?_
    go_wp2
    have FZ : Fr w ((((wa.setCell ⟨q + 2, 0, none⟩ (.slice B n d)).setCell ⟨q + 2, 1, none⟩ (.int .i64 fr)).setCell ⟨q + 3, 0, none⟩ (.int .i64 hd)).setCell ⟨q + 3, 1, none⟩ (.int .i64 tl)) q [.cells #[.slice A n c, .int .i64 fr] 24, .cells #[.int .i64 hd, .int .i64 tl] 26, .cells #[.slice B n d, .int .i64 fr] 24, .cells #[.int .i64 hd, .int .i64 tl] 26] := ((((FR.out.set 2 0 rfl rfl (.slice B n d)).set 2 1 rfl rfl (.int .i64 fr)).set 3 0 rfl rfl (.int .i64 hd)).set 3 1 rfl rfl (.int .i64 tl))
    refine bodyPost_ret (res_ccs Try.results11 (by rfl) (by rfl) (FZ.load 2 rfl rfl Try.underlying24 (by kernel_rfl)) (FZ.load 3 rfl rfl Try.underlying26 (by kernel_rfl))) rfl ?_
    rw [HE.out]
    exact ⟨_, _, _, rfl, own_base (own_apart (own_apart (own_apart (own_apart (OW.out) (k := q + 2) (o := 0) (u := .slice B n d) (by omega)) (k := q + 2) (o := 1) (u := .int .i64 fr) (by omega)) (k := q + 3) (o := 0) (u := .int .i64 hd) (by omega)) (k := q + 3) (o := 1) (u := .int .i64 tl) (by omega)) (by rw [hq]; omega), FZ.out⟩
  · have hrow : rowS (rs, fr) (hd, tl) = (qPlaces (rs, fr) (hd, tl), true) := by unfold rowS; rw [hr]
    rw [hrow] at R1
    have HPL := qPlaces_places (rs, fr) (hd, tl)
    have hpn := HPL.len
    have htl := qTasks_len (rs, fr) (hd, tl)
    have hE : R = match findI task (qTasks (rs, fr) (hd, tl)) with | none => ((rs, fr), (hd, tl), 7) | some k => qBut (rs, fr) (hd, tl) k := by rw [← HR.out]; unfold qDrop; rw [if_neg (by rw [hr]; simp)]; cases findI task (qTasks (rs, fr) (hd, tl)) <;> rfl
    have B1 := fun (C : Option Addr) (m c2 k : Nat) (W : World) (h : Rs W A n c rs) (hp : Is W C m c2 (qPlaces (rs, fr) (hd, tl))) (hk : k < m) => BT.out C m c2 k W h hp hr hk
    have hte : qTasks (rs, fr) (hd, tl) = (qPlaces (rs, fr) (hd, tl)).map fun i => (recAt rs i).2.1 := rfl
    obtain ⟨l, hl⟩ : ∃ l, qPlaces (rs, fr) (hd, tl) = l := ⟨_, rfl⟩
    obtain ⟨ts, hts⟩ : ∃ ts, qTasks (rs, fr) (hd, tl) = ts := ⟨_, rfl⟩
    rw [hl] at B1 R1 HPL hpn htl hte
    rw [hts] at hE htl hte
    simp only [HL.out] at hpn HPL
    have T1 := fun (C : Option Addr) (m d : Nat) (W : World) (h : Rs W A n c rs) (hp : Is W C m d l) => qpTasksAt_any A n c rs fr C m d l W h hp HPL.2 (by have h1 := hp.len; omega)
    rw [← hte] at T1
    replace T1 : Hid (∀ (C : Option Addr) (m d : Nat) (W : World), Rs W A n c rs → Is W C m d l → Calls Try.prog 31 #[.agg #[.slice A n c, .int .i64 fr], .slice C m d] W (OwnInts W ts)) := Lib.hid T1
    replace B1 : Hid (∀ (C : Option Addr) (m c2 k : Nat) (W : World), Rs W A n c rs → Is W C m c2 l → k < m → Calls Try.prog 28 #[.agg #[.slice A n c, .int .i64 fr], .agg #[.int .i64 hd, .int .i64 tl], .slice C m c2, .int .i64 (k : Int)] W (QAll W (qBut (rs, fr) (hd, tl) k))) := Lib.hid B1
    replace R1 := Lib.hid R1
    have IX := Lib.hid (fun (C : Option Addr) (m d : Nat) (W : World) (h : Is W C m d ts) => idx8_any C m d ts task W h (by have h1 := h.len; omega))
    clear HPL hr hrow hl hts hte BT RW
    cases hf : findI task ts
    · have HE := Lib.hid (show R = ((rs, fr), (hd, tl), 7) by rw [hE, hf])
      have hix := idxI_none hf
      clear hE hf B1
      go_enter Try.func11, Try.ntmps11
      have c00 : v4.cell? ⟨q, 0, none⟩ = some (.slice A n c) := FR.out.cell 0 0 rfl rfl rfl
      have c01 : v4.cell? ⟨q, 1, none⟩ = some (.int .i64 fr) := FR.out.cell 0 1 rfl rfl rfl
      have c10 : v4.cell? ⟨q + 1, 0, none⟩ = some (.int .i64 hd) := FR.out.cell 1 0 rfl rfl rfl
      have c11 : v4.cell? ⟨q + 1, 1, none⟩ = some (.int .i64 tl) := FR.out.cell 1 1 rfl rfl rfl
      have c20 : v4.cell? ⟨q + 2, 0, none⟩ = some (.slice none 0 0) := FR.out.cell 2 0 rfl rfl rfl
      have c21 : v4.cell? ⟨q + 2, 1, none⟩ = some (.int .i64 0) := FR.out.cell 2 1 rfl rfl rfl
      have c30 : v4.cell? ⟨q + 3, 0, none⟩ = some (.int .i64 0) := FR.out.cell 3 0 rfl rfl rfl
      have c31 : v4.cell? ⟨q + 3, 1, none⟩ = some (.int .i64 0) := FR.out.cell 3 1 rfl rfl rfl
      go_wp2_with fail
      refine (R1.out).mono ?_
      rintro e w5 ⟨B0, m, c2, rfl, hown, hb⟩
      clear c00 c01 c10 c11 c20 c21 c30 c31
      replace FR := Lib.hid (FR.out.step hb)
      clear hb
      have hml : l.length = m := by have h1 : (intC l).length = m * 1 := hown.1; rw [intC_len] at h1; omega
      obtain ⟨_, _, he, his⟩ := Es.of_own hown (intC_one _)
      injection he with he1 he2 he3; subst he1; subst he3
      have IP := Lib.hid (show Is _ B0 m c2 l from his)
      clear hown his
      have c00 : w5.cell? ⟨q, 0, none⟩ = some (.slice A n c) := FR.out.cell 0 0 rfl rfl rfl
      have c01 : w5.cell? ⟨q, 1, none⟩ = some (.int .i64 fr) := FR.out.cell 0 1 rfl rfl rfl
      have c10 : w5.cell? ⟨q + 1, 0, none⟩ = some (.int .i64 hd) := FR.out.cell 1 0 rfl rfl rfl
      have c11 : w5.cell? ⟨q + 1, 1, none⟩ = some (.int .i64 tl) := FR.out.cell 1 1 rfl rfl rfl
      have c20 : w5.cell? ⟨q + 2, 0, none⟩ = some (.slice none 0 0) := FR.out.cell 2 0 rfl rfl rfl
      have c21 : w5.cell? ⟨q + 2, 1, none⟩ = some (.int .i64 0) := FR.out.cell 2 1 rfl rfl rfl
      have c30 : w5.cell? ⟨q + 3, 0, none⟩ = some (.int .i64 0) := FR.out.cell 3 0 rfl rfl rfl
      have c31 : w5.cell? ⟨q + 3, 1, none⟩ = some (.int .i64 0) := FR.out.cell 3 1 rfl rfl rfl
      go_wp2_with fail
      refine ((T1.out _ _ _ _ (FR.out.es RX.out) IP.out)).mono ?_
      rintro e w6 ⟨C, m3, c3, rfl, hown, hb⟩
      clear c00 c01 c10 c11 c20 c21 c30 c31
      replace FR := Lib.hid (FR.out.step hb)
      replace IP := Lib.hid (Es.below IP.out hb)
      clear hb
      obtain ⟨_, _, he, his⟩ := Es.of_own hown (intC_one _)
      injection he with he1 he2 he3; subst he1; subst he3
      have IT := Lib.hid (show Is _ C m3 c3 ts from his)
      clear hown his
      have IX2 := IX.out _ _ _ _ IT.out
      unfold IdxPost at IX2
      rw [hix] at IX2
      replace IX2 := Lib.hid IX2
      clear hix
      have c00 : w6.cell? ⟨q, 0, none⟩ = some (.slice A n c) := FR.out.cell 0 0 rfl rfl rfl
      have c01 : w6.cell? ⟨q, 1, none⟩ = some (.int .i64 fr) := FR.out.cell 0 1 rfl rfl rfl
      have c10 : w6.cell? ⟨q + 1, 0, none⟩ = some (.int .i64 hd) := FR.out.cell 1 0 rfl rfl rfl
      have c11 : w6.cell? ⟨q + 1, 1, none⟩ = some (.int .i64 tl) := FR.out.cell 1 1 rfl rfl rfl
      have c20 : w6.cell? ⟨q + 2, 0, none⟩ = some (.slice none 0 0) := FR.out.cell 2 0 rfl rfl rfl
      have c21 : w6.cell? ⟨q + 2, 1, none⟩ = some (.int .i64 0) := FR.out.cell 2 1 rfl rfl rfl
      have c30 : w6.cell? ⟨q + 3, 0, none⟩ = some (.int .i64 0) := FR.out.cell 3 0 rfl rfl rfl
      have c31 : w6.cell? ⟨q + 3, 1, none⟩ = some (.int .i64 0) := FR.out.cell 3 1 rfl rfl rfl
      go_wp2_with fail
      refine (IX2.out).mono ?_
      rintro e w7 ⟨rfl, hb⟩
      clear c00 c01 c10 c11 c20 c21 c30 c31
      replace FR := Lib.hid (FR.out.step hb)
      replace IP := Lib.hid (Es.below IP.out hb)
      replace IT := Lib.hid (Es.below IT.out hb)
      clear hb
      clear IP IT IX2
      have hszc := FR.out.sz
      simp only [List.length_cons, List.length_nil] at hszc
      have nzq : q ≠ q + 2 := by omega
      have nzr : q + 1 ≠ q + 2 := by omega
      have nzt : q ≠ q + 3 := by omega
      have nzu : q + 1 ≠ q + 3 := by omega
      go_wp2
      refine wp_region_noPanic ?_
      refine wp_region_held_drew (S := (fun wv => Hid (wv.heap[q]? = some (.cells #[.slice A n c, .int .i64 fr] 24) ∧ wv.heap[q + 1]? = some (.cells #[.int .i64 hd, .int .i64 tl] 26) ∧ Below q w wv))) (by kernel_rfl) (Lib.hid ⟨FR.out.blk 0 _ rfl, FR.out.blk 1 _ rfl, FR.out.bel.drew⟩) (fun hS => ?_)
      refine wpAnyH_take (i := 0) (oi := ⟨some 30, .load 24 (.tmp 3), 24, "queue.go:78", #[], none⟩) (v := .agg (([.slice A n c, .int .i64 fr] : List Value)).toArray) rfl (by kernel_rfl) (by kernel_rfl) (by kernel_rfl) (fun _ _ _ h => h) (yieldsIf_load_mid (by rfl) _ _ (by rfl) (q) 0 (by rfl) (([.slice A n c, .int .i64 fr] : List Value)) _ (fun wv hS => blk_rngl hS.out.1) Try.underlying24 (by rfl) (by kernel_rfl)) hS ?_
      try simp only [Act.put, List.setIfInBounds_toArray, List.set_cons_zero, List.set_cons_succ]
      refine wpAnyH_take (i := 2) (oi := ⟨some 32, .load 26 (.tmp 4), 26, "queue.go:78", #[⟨3, .gcOnly .lateStores⟩], none⟩) (v := .agg (([.int .i64 hd, .int .i64 tl] : List Value)).toArray) rfl (by kernel_rfl) (by kernel_rfl) (by kernel_rfl) (fun _ _ _ h => h) (yieldsIf_load_mid (by rfl) _ _ (by rfl) (q + 1) 0 (by rfl) (([.int .i64 hd, .int .i64 tl] : List Value)) _ (fun wv hS => blk_rngl hS.out.2.1) Try.underlying26 (by rfl) (by kernel_rfl)) hS ?_
      try simp only [Act.put, List.setIfInBounds_toArray, List.set_cons_zero, List.set_cons_succ]
      refine wpAnyH_ready (rs := [1]) (by kernel_rfl) (by simp) (AllReadyH.cons (o := ⟨some 31, .call { callee := .value (.func 27), args := #[.tmp 30], argTypes := #[24] }, 24, "queue.go:78", #[⟨0, .data⟩], none⟩) rfl (fun K hK => ?_) AllReadyH.nil)
      go_simp
      refine (CP.out _ (FR.out.drew.es RX.out)).mono ?_
      rintro e wa ⟨B, d, rfl, hown, hb⟩
      replace FR := Lib.hid (FR.out.drew.step hb)
      have OW := Lib.hid (own_base hown (show q + 4 ≤ w7.heap.size by omega))
      clear hown hb
      replace hS := Lib.hid (And.intro (FR.out.blk 0 _ rfl) (And.intro (FR.out.blk 1 _ rfl) FR.out.bel))
      have c20 : wa.cell? ⟨q + 2, 0, none⟩ = some (.slice none 0 0) := FR.out.cell 2 0 rfl rfl rfl
      have f20 : wa.frozen? ⟨q + 2, 0, none⟩ = false := FR.out.frozen 2 0 rfl rfl
      have c21 : wa.cell? ⟨q + 2, 1, none⟩ = some (.int .i64 0) := FR.out.cell 2 1 rfl rfl rfl
      have f21 : wa.frozen? ⟨q + 2, 1, none⟩ = false := FR.out.frozen 2 1 rfl rfl
      have c30 : wa.cell? ⟨q + 3, 0, none⟩ = some (.int .i64 0) := FR.out.cell 3 0 rfl rfl rfl
      have f30 : wa.frozen? ⟨q + 3, 0, none⟩ = false := FR.out.frozen 3 0 rfl rfl
      have c31 : wa.cell? ⟨q + 3, 1, none⟩ = some (.int .i64 0) := FR.out.cell 3 1 rfl rfl rfl
      have f31 : wa.frozen? ⟨q + 3, 1, none⟩ = false := FR.out.frozen 3 1 rfl rfl
      go_wp2_with fail
      refine Shut.out hK _ _ hS (fun _ => ?_)
      clear hK K
      try simp only [Act.put, List.setIfInBounds_toArray, List.set_cons_zero, List.set_cons_succ]
      refine wpAnyH_ready (rs := [3]) (by kernel_rfl) (by simp) (AllReadyH.cons (o := ⟨none, .store 24 (.tmp 6) (.tmp 31), 0, "queue.go:78", #[⟨1, .data⟩, ⟨1, .chain⟩, ⟨0, .phase⟩, ⟨1, .phase⟩, ⟨2, .textOnly .lateStores⟩], none⟩) rfl (fun K hK => ?_) AllReadyH.nil)
      go_simp
      replace hS := Lib.hid (And.intro (keep_pair hS.out.1 nzq (.slice B n d) (.int .i64 fr)) (And.intro (keep_pair hS.out.2.1 nzr (.slice B n d) (.int .i64 fr)) (bel_pair hS.out.2.2 (show q ≤ q + 2 by omega) (.slice B n d) (.int .i64 fr))))
      refine Shut.out hK _ _ hS (fun _ => ?_)
      clear hK K
      try simp only [Act.put, List.setIfInBounds_toArray, List.set_cons_zero, List.set_cons_succ]
      refine wpAnyH_ready (rs := [4]) (by kernel_rfl) (by simp) (AllReadyH.cons (o := ⟨none, .store 26 (.tmp 7) (.tmp 32), 0, "queue.go:78", #[⟨2, .data⟩, ⟨3, .chain⟩, ⟨0, .phase⟩, ⟨1, .phase⟩, ⟨2, .phase⟩, ⟨3, .phase⟩], none⟩) rfl (fun K hK => ?_) AllReadyH.nil)
      go_simp
      replace hS := Lib.hid (And.intro (keep_pair hS.out.1 nzt (.int .i64 hd) (.int .i64 tl)) (And.intro (keep_pair hS.out.2.1 nzu (.int .i64 hd) (.int .i64 tl)) (bel_pair hS.out.2.2 (show q ≤ q + 3 by omega) (.int .i64 hd) (.int .i64 tl))))
      refine Shut.out hK _ _ hS (fun _ => ?_)
      clear hK K
      try simp only [Act.put, List.setIfInBounds_toArray, List.set_cons_zero, List.set_cons_succ]
      refine wpAnyH_take (i := 5) (oi := ⟨some 8, .assign (.const (Value.int IntKind.i64 7)), 29, "queue.go:78", #[⟨4, .chain⟩, ⟨0, .phase⟩, ⟨1, .phase⟩, ⟨2, .phase⟩, ⟨3, .phase⟩, ⟨4, .phase⟩], none⟩) (v := ?_) rfl (by kernel_rfl) (by kernel_rfl) (by kernel_rfl) (fun _ _ _ h => h) (Or.inl ⟨by rfl, ?_⟩) hS ?_
      rotate_left
      · intro wv _; go_simp; try with_reducible rfl
      try simp only [Act.put, List.setIfInBounds_toArray, List.set_cons_zero, List.set_cons_succ]
      refine wpAnyH_done (by kernel_rfl) ?_ _
      refine NoPanic.normal ?_
      go_wp2
      have FZ : Fr w ((((wa.setCell ⟨q + 2, 0, none⟩ (.slice B n d)).setCell ⟨q + 2, 1, none⟩ (.int .i64 fr)).setCell ⟨q + 3, 0, none⟩ (.int .i64 hd)).setCell ⟨q + 3, 1, none⟩ (.int .i64 tl)) q [.cells #[.slice A n c, .int .i64 fr] 24, .cells #[.int .i64 hd, .int .i64 tl] 26, .cells #[.slice B n d, .int .i64 fr] 24, .cells #[.int .i64 hd, .int .i64 tl] 26] := ((((FR.out.set 2 0 rfl rfl (.slice B n d)).set 2 1 rfl rfl (.int .i64 fr)).set 3 0 rfl rfl (.int .i64 hd)).set 3 1 rfl rfl (.int .i64 tl))
      refine bodyPost_ret (res_ccs Try.results11 (by rfl) (by rfl) (FZ.load 2 rfl rfl Try.underlying24 (by kernel_rfl)) (FZ.load 3 rfl rfl Try.underlying26 (by kernel_rfl))) rfl ?_
      rw [HE.out]
      exact ⟨_, _, _, rfl, own_base (own_apart (own_apart (own_apart (own_apart (OW.out) (k := q + 2) (o := 0) (u := .slice B n d) (by omega)) (k := q + 2) (o := 1) (u := .int .i64 fr) (by omega)) (k := q + 3) (o := 0) (u := .int .i64 hd) (by omega)) (k := q + 3) (o := 1) (u := .int .i64 tl) (by omega)) (by rw [hq]; omega), FZ.out⟩
    · rename_i k
      have hkl : k < ts.length := by
            have h1 := (findI_spec hf).1
            rcases Nat.lt_or_ge k ts.length with h2 | h2
            · exact h2
            · rw [List.getElem?_eq_none h2] at h1; cases h1
      rw [hf] at hE
      simp only at hE
      obtain ⟨rg, fg, qh, qt, eg, hG⟩ : ∃ rg fg qh qt eg, qBut (rs, fr) (hd, tl) k = ((rg, fg), (qh, qt), eg) := ⟨_, _, _, _, _, rfl⟩
      have HE := Lib.hid (hE.trans hG)
      have hix := idxI_some hf
      have B2 := fun C m c2 W h hp hk => B1.out C m c2 k W h hp hk
      rw [hG] at B2
      replace B2 : Hid (∀ (C : Option Addr) (m c2 : Nat) (W : World), Rs W A n c rs → Is W C m c2 l → k < m → Calls Try.prog 28 #[.agg #[.slice A n c, .int .i64 fr], .agg #[.int .i64 hd, .int .i64 tl], .slice C m c2, .int .i64 (k : Int)] W (QAll W ((rg, fg), (qh, qt), eg))) := Lib.hid B2
      clear hE hf B1 hG
      go_enter Try.func11, Try.ntmps11
      have c00 : v4.cell? ⟨q, 0, none⟩ = some (.slice A n c) := FR.out.cell 0 0 rfl rfl rfl
      have c01 : v4.cell? ⟨q, 1, none⟩ = some (.int .i64 fr) := FR.out.cell 0 1 rfl rfl rfl
      have c10 : v4.cell? ⟨q + 1, 0, none⟩ = some (.int .i64 hd) := FR.out.cell 1 0 rfl rfl rfl
      have c11 : v4.cell? ⟨q + 1, 1, none⟩ = some (.int .i64 tl) := FR.out.cell 1 1 rfl rfl rfl
      have c20 : v4.cell? ⟨q + 2, 0, none⟩ = some (.slice none 0 0) := FR.out.cell 2 0 rfl rfl rfl
      have c21 : v4.cell? ⟨q + 2, 1, none⟩ = some (.int .i64 0) := FR.out.cell 2 1 rfl rfl rfl
      have c30 : v4.cell? ⟨q + 3, 0, none⟩ = some (.int .i64 0) := FR.out.cell 3 0 rfl rfl rfl
      have c31 : v4.cell? ⟨q + 3, 1, none⟩ = some (.int .i64 0) := FR.out.cell 3 1 rfl rfl rfl
      go_wp2_with fail
      refine (R1.out).mono ?_
      rintro e w5 ⟨B0, m, c2, rfl, hown, hb⟩
      clear c00 c01 c10 c11 c20 c21 c30 c31
      replace FR := Lib.hid (FR.out.step hb)
      clear hb
      have hml : l.length = m := by have h1 : (intC l).length = m * 1 := hown.1; rw [intC_len] at h1; omega
      obtain ⟨_, _, he, his⟩ := Es.of_own hown (intC_one _)
      injection he with he1 he2 he3; subst he1; subst he3
      have IP := Lib.hid (show Is _ B0 m c2 l from his)
      clear hown his
      have c00 : w5.cell? ⟨q, 0, none⟩ = some (.slice A n c) := FR.out.cell 0 0 rfl rfl rfl
      have c01 : w5.cell? ⟨q, 1, none⟩ = some (.int .i64 fr) := FR.out.cell 0 1 rfl rfl rfl
      have c10 : w5.cell? ⟨q + 1, 0, none⟩ = some (.int .i64 hd) := FR.out.cell 1 0 rfl rfl rfl
      have c11 : w5.cell? ⟨q + 1, 1, none⟩ = some (.int .i64 tl) := FR.out.cell 1 1 rfl rfl rfl
      have c20 : w5.cell? ⟨q + 2, 0, none⟩ = some (.slice none 0 0) := FR.out.cell 2 0 rfl rfl rfl
      have c21 : w5.cell? ⟨q + 2, 1, none⟩ = some (.int .i64 0) := FR.out.cell 2 1 rfl rfl rfl
      have c30 : w5.cell? ⟨q + 3, 0, none⟩ = some (.int .i64 0) := FR.out.cell 3 0 rfl rfl rfl
      have c31 : w5.cell? ⟨q + 3, 1, none⟩ = some (.int .i64 0) := FR.out.cell 3 1 rfl rfl rfl
      go_wp2_with fail
      refine ((T1.out _ _ _ _ (FR.out.es RX.out) IP.out)).mono ?_
      rintro e w6 ⟨C, m3, c3, rfl, hown, hb⟩
      clear c00 c01 c10 c11 c20 c21 c30 c31
      replace FR := Lib.hid (FR.out.step hb)
      replace IP := Lib.hid (Es.below IP.out hb)
      clear hb
      obtain ⟨_, _, he, his⟩ := Es.of_own hown (intC_one _)
      injection he with he1 he2 he3; subst he1; subst he3
      have IT := Lib.hid (show Is _ C m3 c3 ts from his)
      clear hown his
      have IX2 := IX.out _ _ _ _ IT.out
      unfold IdxPost at IX2
      rw [hix] at IX2
      replace IX2 := Lib.hid IX2
      clear hix
      have c00 : w6.cell? ⟨q, 0, none⟩ = some (.slice A n c) := FR.out.cell 0 0 rfl rfl rfl
      have c01 : w6.cell? ⟨q, 1, none⟩ = some (.int .i64 fr) := FR.out.cell 0 1 rfl rfl rfl
      have c10 : w6.cell? ⟨q + 1, 0, none⟩ = some (.int .i64 hd) := FR.out.cell 1 0 rfl rfl rfl
      have c11 : w6.cell? ⟨q + 1, 1, none⟩ = some (.int .i64 tl) := FR.out.cell 1 1 rfl rfl rfl
      have c20 : w6.cell? ⟨q + 2, 0, none⟩ = some (.slice none 0 0) := FR.out.cell 2 0 rfl rfl rfl
      have c21 : w6.cell? ⟨q + 2, 1, none⟩ = some (.int .i64 0) := FR.out.cell 2 1 rfl rfl rfl
      have c30 : w6.cell? ⟨q + 3, 0, none⟩ = some (.int .i64 0) := FR.out.cell 3 0 rfl rfl rfl
      have c31 : w6.cell? ⟨q + 3, 1, none⟩ = some (.int .i64 0) := FR.out.cell 3 1 rfl rfl rfl
      go_wp2_with fail
      refine (IX2.out).mono ?_
      rintro e w7 ⟨rfl, hb⟩
      clear c00 c01 c10 c11 c20 c21 c30 c31
      replace FR := Lib.hid (FR.out.step hb)
      replace IP := Lib.hid (Es.below IP.out hb)
      replace IT := Lib.hid (Es.below IT.out hb)
      clear hb
      have hkm : k < m := by omega
      have b1 : decide ((k : Int) < 0) = false := by simp
      have FR0 := FR.out.sz
      simp only [List.length_cons, List.length_nil] at FR0
      have B3 := Lib.hid (B2.out _ _ _ _ (FR.out.es RX.out) IP.out hkm)
      clear hkm hml hkl htl hpn
      clear IP IT IX2
      have c00 : w7.cell? ⟨q, 0, none⟩ = some (.slice A n c) := FR.out.cell 0 0 rfl rfl rfl
      have c01 : w7.cell? ⟨q, 1, none⟩ = some (.int .i64 fr) := FR.out.cell 0 1 rfl rfl rfl
      have c10 : w7.cell? ⟨q + 1, 0, none⟩ = some (.int .i64 hd) := FR.out.cell 1 0 rfl rfl rfl
      have c11 : w7.cell? ⟨q + 1, 1, none⟩ = some (.int .i64 tl) := FR.out.cell 1 1 rfl rfl rfl
      have c20 : w7.cell? ⟨q + 2, 0, none⟩ = some (.slice none 0 0) := FR.out.cell 2 0 rfl rfl rfl
      have c21 : w7.cell? ⟨q + 2, 1, none⟩ = some (.int .i64 0) := FR.out.cell 2 1 rfl rfl rfl
      have c30 : w7.cell? ⟨q + 3, 0, none⟩ = some (.int .i64 0) := FR.out.cell 3 0 rfl rfl rfl
      have c31 : w7.cell? ⟨q + 3, 1, none⟩ = some (.int .i64 0) := FR.out.cell 3 1 rfl rfl rfl
      go_wp2_with fail
      refine (B3.out).mono ?_
      rintro e w8 ⟨B, m2, d2, rfl, hown, hb⟩
      clear c00 c01 c10 c11 c20 c21 c30 c31
      replace FR := Lib.hid (FR.out.step hb)
      clear hb
      have OW := Lib.hid (own_base hown FR0)
      clear hown FR0
      have c20 : w8.cell? ⟨q + 2, 0, none⟩ = some (.slice none 0 0) := FR.out.cell 2 0 rfl rfl rfl
      have f20 : w8.frozen? ⟨q + 2, 0, none⟩ = false := FR.out.frozen 2 0 rfl rfl
      have c21 : w8.cell? ⟨q + 2, 1, none⟩ = some (.int .i64 0) := FR.out.cell 2 1 rfl rfl rfl
      have f21 : w8.frozen? ⟨q + 2, 1, none⟩ = false := FR.out.frozen 2 1 rfl rfl
      have c30 : w8.cell? ⟨q + 3, 0, none⟩ = some (.int .i64 0) := FR.out.cell 3 0 rfl rfl rfl
      have f30 : w8.frozen? ⟨q + 3, 0, none⟩ = false := FR.out.frozen 3 0 rfl rfl
      have c31 : w8.cell? ⟨q + 3, 1, none⟩ = some (.int .i64 0) := FR.out.cell 3 1 rfl rfl rfl
      have f31 : w8.frozen? ⟨q + 3, 1, none⟩ = false := FR.out.frozen 3 1 rfl rfl
      go_wp2
      have FZ : Fr w ((((w8.setCell ⟨q + 2, 0, none⟩ (.slice B m2 d2)).setCell ⟨q + 2, 1, none⟩ (.int .i64 fg)).setCell ⟨q + 3, 0, none⟩ (.int .i64 qh)).setCell ⟨q + 3, 1, none⟩ (.int .i64 qt)) q [.cells #[.slice A n c, .int .i64 fr] 24, .cells #[.int .i64 hd, .int .i64 tl] 26, .cells #[.slice B m2 d2, .int .i64 fg] 24, .cells #[.int .i64 qh, .int .i64 qt] 26] := ((((FR.out.set 2 0 rfl rfl (.slice B m2 d2)).set 2 1 rfl rfl (.int .i64 fg)).set 3 0 rfl rfl (.int .i64 qh)).set 3 1 rfl rfl (.int .i64 qt))
      refine bodyPost_ret (res_ccs Try.results11 (by rfl) (by rfl) (FZ.load 2 rfl rfl Try.underlying24 (by kernel_rfl)) (FZ.load 3 rfl rfl Try.underlying26 (by kernel_rfl))) rfl ?_
      rw [HE.out]
      exact ⟨_, _, _, rfl, own_base (own_apart (own_apart (own_apart (own_apart (OW.out) (k := q + 2) (o := 0) (u := .slice B m2 d2) (by omega)) (k := q + 2) (o := 1) (u := .int .i64 fg) (by omega)) (k := q + 3) (o := 0) (u := .int .i64 qh) (by omega)) (k := q + 3) (o := 1) (u := .int .i64 qt) (by omega)) (by rw [hq]; omega), FZ.out⟩
end Go.Proofs.Ytombfempdfdeoaa
