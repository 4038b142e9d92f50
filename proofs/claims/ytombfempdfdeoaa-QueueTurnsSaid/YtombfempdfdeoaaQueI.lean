/- What the program's own Push of layer 8 answers; for slices of up to 16384 records. -/
import Derived.Test.YtombfempdfdeoaaQueH
import Derived.Test.YtombfempdfdeoaaQueD
namespace Go.Proofs.Ytombfempdfdeoaa
set_option linter.unusedVariables false
set_option linter.unusedSimpArgs false
open Go.RowKit
/-- an arena and a row come back: the records are the call's own. -/
def QAll (w : World) (r : Aren × Qu × Int) (e : Ending) (w' : World) : Prop :=
  ∃ B m d, e = .returned (.tuple #[.agg #[.slice B m d, .int .i64 r.1.2], .agg #[.int .i64 r.2.1.1, .int .i64 r.2.1.2], .int .i64 r.2.2]) ∧ w'.ownsRow w.heap.size 55 3 (.slice B m d) m (recC r.1.1) ∧ Below w.heap.size w w'
set_option maxRecDepth 100000 in
set_option maxHeartbeats 4000000 in
theorem qpPush_all (A : Option Addr) (n c : Nat) (rs : List Rec3) (fr hd tl key task : Int) (front : Bool) (w : World) (hx : Rs w A n c rs) (hn : n ≤ 16384) :
    Calls Try.prog 21 #[.agg #[.slice A n c, .int .i64 fr], .agg #[.int .i64 hd, .int .i64 tl], .int .i64 key, .int .i64 task, .bool front] w (QAll w (qPush (rs, fr) (hd, tl) key task front)) := by
  have HL := Lib.hid hx.len
  have RX := Lib.hid hx
  have RI := Lib.hid (fun (W : World) (h : Rs W A n c rs) => qpRight_any A n c rs fr hd tl W h hn)
  have CP := Lib.hid (fun (W : World) (h : Rs W A n c rs) => qpCopied_any A n c rs fr W h hn)
  have TK := Lib.hid (fun (W : World) (h : Rs W A n c rs) => arnTake_all A n c rs fr key task W h hn)
  obtain ⟨R, hR⟩ : ∃ R, qPush (rs, fr) (hd, tl) key task front = R := ⟨_, rfl⟩
  have HR := Lib.hid hR
  rw [hR]
  clear hx hR
  obtain ⟨v1, hv1⟩ : ∃ W, w.alloc (.cells #[.slice A n c, .int .i64 fr] 24) = W := ⟨_, rfl⟩
  have fr1 : Fr w v1 w.heap.size [.cells #[.slice A n c, .int .i64 fr] 24] := hv1 ▸ Fr.first w _
  have z1 : v1.heap.size = w.heap.size + 1 := by rw [← hv1, Fr.size1]
  obtain ⟨v2, hv2⟩ : ∃ W, v1.alloc (.cells #[.int .i64 hd, .int .i64 tl] 26) = W := ⟨_, rfl⟩
  have fr2 : Fr w v2 w.heap.size [.cells #[.slice A n c, .int .i64 fr] 24, .cells #[.int .i64 hd, .int .i64 tl] 26] := hv2 ▸ fr1.more z1 _
  have z2 : v2.heap.size = w.heap.size + 2 := by rw [← hv2, Fr.size1, z1]
  obtain ⟨v3, hv3⟩ : ∃ W, v2.alloc (.cells #[.slice none 0 0, .int .i64 0] 24) = W := ⟨_, rfl⟩
  have fr3 : Fr w v3 w.heap.size [.cells #[.slice A n c, .int .i64 fr] 24, .cells #[.int .i64 hd, .int .i64 tl] 26, .cells #[.slice none 0 0, .int .i64 0] 24] := hv3 ▸ fr2.more z2 _
  have z3 : v3.heap.size = w.heap.size + 3 := by rw [← hv3, Fr.size1, z2]
  obtain ⟨v4, hv4⟩ : ∃ W, v3.alloc (.cells #[.int .i64 0, .int .i64 0] 26) = W := ⟨_, rfl⟩
  have fr4 : Fr w v4 w.heap.size [.cells #[.slice A n c, .int .i64 fr] 24, .cells #[.int .i64 hd, .int .i64 tl] 26, .cells #[.slice none 0 0, .int .i64 0] 24, .cells #[.int .i64 0, .int .i64 0] 26] := hv4 ▸ fr3.more z3 _
  have z4 : v4.heap.size = w.heap.size + 4 := by rw [← hv4, Fr.size1, z3]
  generalize hq : w.heap.size = q at *
  have FR := Lib.hid fr4
  clear fr1 fr2 fr3 fr4
  have R1 := RI.out _ (FR.out.es RX.out)
  cases hr : qRight (rs, fr) (hd, tl)
  · have HE := Lib.hid (show R = ((rs, fr), (hd, tl), 1) by rw [← HR.out]; unfold qPush; rw [if_pos hr])
    rw [hr] at R1
    replace R1 := Lib.hid R1
    clear hr TK
    go_enter Try.func21, Try.ntmps21
    have c00 : v4.cell? ⟨q, 0, none⟩ = some (.slice A n c) := FR.out.cell 0 0 rfl rfl rfl
    have c01 : v4.cell? ⟨q, 1, none⟩ = some (.int .i64 fr) := FR.out.cell 0 1 rfl rfl rfl
    have c10 : v4.cell? ⟨q + 1, 0, none⟩ = some (.int .i64 hd) := FR.out.cell 1 0 rfl rfl rfl
    have c11 : v4.cell? ⟨q + 1, 1, none⟩ = some (.int .i64 tl) := FR.out.cell 1 1 rfl rfl rfl
    have c20 : v4.cell? ⟨q + 2, 0, none⟩ = some (.slice none 0 0) := FR.out.cell 2 0 rfl rfl rfl
    have c21 : v4.cell? ⟨q + 2, 1, none⟩ = some (.int .i64 0) := FR.out.cell 2 1 rfl rfl rfl
    have c30 : v4.cell? ⟨q + 3, 0, none⟩ = some (.int .i64 0) := FR.out.cell 3 0 rfl rfl rfl
    have c31 : v4.cell? ⟨q + 3, 1, none⟩ = some (.int .i64 0) := FR.out.cell 3 1 rfl rfl rfl
    go_wp2_with fail
    refine (R1.out).mono ?_
    rintro e w5 ⟨rfl, hb⟩
    clear c00 c01 c10 c11 c20 c21 c30 c31
    replace FR := Lib.hid (FR.out.step hb)
    clear hb
    have hszc := FR.out.sz
    simp only [List.length_cons, List.length_nil] at hszc
    have nzq : q ≠ q + 2 := by omega
    have nzr : q + 1 ≠ q + 2 := by omega
    have nzt : q ≠ q + 3 := by omega
    have nzu : q + 1 ≠ q + 3 := by omega
    go_wp2
    refine wp_region_noPanic ?_
    refine wp_region_held_drew (S := (fun wv => Hid (wv.heap[q]? = some (.cells #[.slice A n c, .int .i64 fr] 24) ∧ wv.heap[q + 1]? = some (.cells #[.int .i64 hd, .int .i64 tl] 26) ∧ Below q w wv))) (by kernel_rfl) (Lib.hid ⟨FR.out.blk 0 _ rfl, FR.out.blk 1 _ rfl, FR.out.bel.drew⟩) (fun hS => ?_)
    refine wpAnyH_take (i := 0) (oi := ⟨some 20, .load 24 (.tmp 5), 24, "queue.go:35", #[], none⟩) (v := .agg (([.slice A n c, .int .i64 fr] : List Value)).toArray) rfl (by kernel_rfl) (by kernel_rfl) (by kernel_rfl) (fun _ _ _ h => h) (yieldsIf_load_mid (by rfl) _ _ (by rfl) (q) 0 (by rfl) (([.slice A n c, .int .i64 fr] : List Value)) _ (fun wv hS => blk_rngl hS.out.1) Try.underlying24 (by rfl) (by kernel_rfl)) hS ?_
    try simp only [Act.put, List.setIfInBounds_toArray, List.set_cons_zero, List.set_cons_succ]
    refine wpAnyH_take (i := 2) (oi := ⟨some 22, .load 26 (.tmp 6), 26, "queue.go:35", #[⟨3, .gcOnly .lateStores⟩], none⟩) (v := .agg (([.int .i64 hd, .int .i64 tl] : List Value)).toArray) rfl (by kernel_rfl) (by kernel_rfl) (by kernel_rfl) (fun _ _ _ h => h) (yieldsIf_load_mid (by rfl) _ _ (by rfl) (q + 1) 0 (by rfl) (([.int .i64 hd, .int .i64 tl] : List Value)) _ (fun wv hS => blk_rngl hS.out.2.1) Try.underlying26 (by rfl) (by kernel_rfl)) hS ?_
    try simp only [Act.put, List.setIfInBounds_toArray, List.set_cons_zero, List.set_cons_succ]
    refine wpAnyH_ready (rs := [1]) (by kernel_rfl) (by simp) (AllReadyH.cons (o := ⟨some 21, .call { callee := .value (.func 27), args := #[.tmp 20], argTypes := #[24] }, 24, "queue.go:35", #[⟨0, .data⟩], none⟩) rfl (fun K hK => ?_) AllReadyH.nil)
    go_simp
    refine (CP.out _ (FR.out.drew.es RX.out)).mono ?_
    rintro e wa ⟨B, d, rfl, hown, hb⟩
    replace FR := Lib.hid (FR.out.drew.step hb)
    have OW := Lib.hid (own_base hown (show q + 4 ≤ w5.heap.size by omega))
    clear hown hb
    replace hS := Lib.hid (And.intro (FR.out.blk 0 _ rfl) (And.intro (FR.out.blk 1 _ rfl) FR.out.bel))
    have c20 : wa.cell? ⟨q + 2, 0, none⟩ = some (.slice none 0 0) := FR.out.cell 2 0 rfl rfl rfl
    have f20 : wa.frozen? ⟨q + 2, 0, none⟩ = false := FR.out.frozen 2 0 rfl rfl
    have c21 : wa.cell? ⟨q + 2, 1, none⟩ = some (.int .i64 0) := FR.out.cell 2 1 rfl rfl rfl
    have f21 : wa.frozen? ⟨q + 2, 1, none⟩ = false := FR.out.frozen 2 1 rfl rfl
    have c30 : wa.cell? ⟨q + 3, 0, none⟩ = some (.int .i64 0) := FR.out.cell 3 0 rfl rfl rfl
    have f30 : wa.frozen? ⟨q + 3, 0, none⟩ = false := FR.out.frozen 3 0 rfl rfl
    have c31 : wa.cell? ⟨q + 3, 1, none⟩ = some (.int .i64 0) := FR.out.cell 3 1 rfl rfl rfl
    have f31 : wa.frozen? ⟨q + 3, 1, none⟩ = false := FR.out.frozen 3 1 rfl rfl
    go_wp2_with fail
    refine Shut.out hK _ _ hS (fun _ => ?_)
    clear hK K
    try simp only [Act.put, List.setIfInBounds_toArray, List.set_cons_zero, List.set_cons_succ]
    refine wpAnyH_ready (rs := [3]) (by kernel_rfl) (by simp) (AllReadyH.cons (o := ⟨none, .store 24 (.tmp 10) (.tmp 21), 0, "queue.go:35", #[⟨1, .data⟩, ⟨1, .chain⟩, ⟨0, .phase⟩, ⟨1, .phase⟩, ⟨2, .textOnly .lateStores⟩], none⟩) rfl (fun K hK => ?_) AllReadyH.nil)
    go_simp
    replace hS := Lib.hid (And.intro (keep_pair hS.out.1 nzq (.slice B n d) (.int .i64 fr)) (And.intro (keep_pair hS.out.2.1 nzr (.slice B n d) (.int .i64 fr)) (bel_pair hS.out.2.2 (show q ≤ q + 2 by omega) (.slice B n d) (.int .i64 fr))))
    refine Shut.out hK _ _ hS (fun _ => ?_)
    clear hK K
    try simp only [Act.put, List.setIfInBounds_toArray, List.set_cons_zero, List.set_cons_succ]
    refine wpAnyH_ready (rs := [4]) (by kernel_rfl) (by simp) (AllReadyH.cons (o := ⟨none, .store 26 (.tmp 11) (.tmp 22), 0, "queue.go:35", #[⟨2, .data⟩, ⟨3, .chain⟩, ⟨0, .phase⟩, ⟨1, .phase⟩, ⟨2, .phase⟩, ⟨3, .phase⟩], none⟩) rfl (fun K hK => ?_) AllReadyH.nil)
    go_simp
    replace hS := Lib.hid (And.intro (keep_pair hS.out.1 nzt (.int .i64 hd) (.int .i64 tl)) (And.intro (keep_pair hS.out.2.1 nzu (.int .i64 hd) (.int .i64 tl)) (bel_pair hS.out.2.2 (show q ≤ q + 3 by omega) (.int .i64 hd) (.int .i64 tl))))
    refine Shut.out hK _ _ hS (fun _ => ?_)
    clear hK K
    try simp only [Act.put, List.setIfInBounds_toArray, List.set_cons_zero, List.set_cons_succ]
    refine wpAnyH_take (i := 5) (oi := ⟨some 12, .assign (.const (Value.int IntKind.i64 1)), 29, "queue.go:35", #[⟨4, .chain⟩, ⟨0, .phase⟩, ⟨1, .phase⟩, ⟨2, .phase⟩, ⟨3, .phase⟩, ⟨4, .phase⟩], none⟩) (v := ?_) rfl (by kernel_rfl) (by kernel_rfl) (by kernel_rfl) (fun _ _ _ h => h) (Or.inl ⟨by rfl, ?_⟩) hS ?_
    rotate_left
    · intro wv _; go_simp; try with_reducible rfl
    try simp only [Act.put, List.setIfInBounds_toArray, List.set_cons_zero, List.set_cons_succ]
    refine wpAnyH_done (by kernel_rfl) ?_ _
    refine NoPanic.normal ?_
    go_wp2
    have FZ : Fr w ((((wa.setCell ⟨q + 2, 0, none⟩ (.slice B n d)).setCell ⟨q + 2, 1, none⟩ (.int .i64 fr)).setCell ⟨q + 3, 0, none⟩ (.int .i64 hd)).setCell ⟨q + 3, 1, none⟩ (.int .i64 tl)) q [.cells #[.slice A n c, .int .i64 fr] 24, .cells #[.int .i64 hd, .int .i64 tl] 26, .cells #[.slice B n d, .int .i64 fr] 24, .cells #[.int .i64 hd, .int .i64 tl] 26] := ((((FR.out.set 2 0 rfl rfl (.slice B n d)).set 2 1 rfl rfl (.int .i64 fr)).set 3 0 rfl rfl (.int .i64 hd)).set 3 1 rfl rfl (.int .i64 tl))
    refine bodyPost_ret (res_ccs Try.results21 (by rfl) (by rfl) (FZ.load 2 rfl rfl Try.underlying24 (by kernel_rfl)) (FZ.load 3 rfl rfl Try.underlying26 (by kernel_rfl))) rfl ?_
    rw [HE.out]
    exact ⟨_, _, _, rfl, own_base (own_apart (own_apart (own_apart (own_apart (OW.out) (k := q + 2) (o := 0) (u := .slice B n d) (by omega)) (k := q + 2) (o := 1) (u := .int .i64 fr) (by omega)) (k := q + 3) (o := 0) (u := .int .i64 hd) (by omega)) (k := q + 3) (o := 1) (u := .int .i64 tl) (by omega)) (by rw [hq]; omega), FZ.out⟩
  · rw [hr] at R1
    replace R1 := Lib.hid R1
    have PP := push_prog (key := key) (task := task) (front := front) hr
    rw [HR.out] at PP
    have tp := @take_place (rs, fr) key task
    simp only [HL.out] at tp
    obtain ⟨rx, fx, ix, ex, hX⟩ : ∃ rx fx ix ex, arTake (rs, fr) key task = ((rx, fx), ix, ex) := ⟨_, _, _, _, rfl⟩
    have T1 := fun W h => TK.out W h
    rw [hX] at T1 PP tp
    simp only at PP tp
    replace T1 : Hid (∀ W, Rs W A n c rs → Calls Try.prog 33 #[.agg #[.slice A n c, .int .i64 fr], .int .i64 key, .int .i64 task] W (TakeAll W ((rx, fx), ix, ex))) := Lib.hid T1
    clear hr hX TK RI CP
    by_cases he0 : ex = 0
    · have b1 : (ex != 0) = false := by simp [he0]
      by_cases hh : hd = -1
      · have b2 : (hd == -1) = true := by simp [hh]
        have HE := Lib.hid (show R = ((rx, fx), (ix, ix), ex) by rw [PP.2.1 he0 hh, he0])
        clear PP tp he0 hh
        go_enter Try.func21, Try.ntmps21
        have c00 : v4.cell? ⟨q, 0, none⟩ = some (.slice A n c) := FR.out.cell 0 0 rfl rfl rfl
        have c01 : v4.cell? ⟨q, 1, none⟩ = some (.int .i64 fr) := FR.out.cell 0 1 rfl rfl rfl
        have c10 : v4.cell? ⟨q + 1, 0, none⟩ = some (.int .i64 hd) := FR.out.cell 1 0 rfl rfl rfl
        have c11 : v4.cell? ⟨q + 1, 1, none⟩ = some (.int .i64 tl) := FR.out.cell 1 1 rfl rfl rfl
        have c20 : v4.cell? ⟨q + 2, 0, none⟩ = some (.slice none 0 0) := FR.out.cell 2 0 rfl rfl rfl
        have c21 : v4.cell? ⟨q + 2, 1, none⟩ = some (.int .i64 0) := FR.out.cell 2 1 rfl rfl rfl
        have c30 : v4.cell? ⟨q + 3, 0, none⟩ = some (.int .i64 0) := FR.out.cell 3 0 rfl rfl rfl
        have c31 : v4.cell? ⟨q + 3, 1, none⟩ = some (.int .i64 0) := FR.out.cell 3 1 rfl rfl rfl
        go_wp2_with fail
        refine (R1.out).mono ?_
        rintro e w5 ⟨rfl, hb⟩
        clear c00 c01 c10 c11 c20 c21 c30 c31
        replace FR := Lib.hid (FR.out.step hb)
        clear hb
        have FR0 := FR.out.sz
        simp only [List.length_cons, List.length_nil] at FR0
        have c00 : w5.cell? ⟨q, 0, none⟩ = some (.slice A n c) := FR.out.cell 0 0 rfl rfl rfl
        have c01 : w5.cell? ⟨q, 1, none⟩ = some (.int .i64 fr) := FR.out.cell 0 1 rfl rfl rfl
        have c10 : w5.cell? ⟨q + 1, 0, none⟩ = some (.int .i64 hd) := FR.out.cell 1 0 rfl rfl rfl
        have c11 : w5.cell? ⟨q + 1, 1, none⟩ = some (.int .i64 tl) := FR.out.cell 1 1 rfl rfl rfl
        have c20 : w5.cell? ⟨q + 2, 0, none⟩ = some (.slice none 0 0) := FR.out.cell 2 0 rfl rfl rfl
        have c21 : w5.cell? ⟨q + 2, 1, none⟩ = some (.int .i64 0) := FR.out.cell 2 1 rfl rfl rfl
        have c30 : w5.cell? ⟨q + 3, 0, none⟩ = some (.int .i64 0) := FR.out.cell 3 0 rfl rfl rfl
        have c31 : w5.cell? ⟨q + 3, 1, none⟩ = some (.int .i64 0) := FR.out.cell 3 1 rfl rfl rfl
        go_wp2_with fail
        refine ((T1.out _ (FR.out.es RX.out))).mono ?_
        rintro e w6 ⟨B, m, d, rfl, hown, hb⟩
        clear c00 c01 c10 c11 c20 c21 c30 c31
        replace FR := Lib.hid (FR.out.step hb)
        clear hb
        have OW := Lib.hid (own_base hown FR0)
        clear hown FR0
        have gex := FR.out.sz
        simp only [List.length_cons, List.length_nil] at gex
        obtain ⟨w7, hw7⟩ : ∃ W, w6.alloc (.cells #[.slice B m d, .int .i64 fx] 24) = W := ⟨_, rfl⟩
        have hb : Below w6.heap.size w6 w7 := hw7 ▸ (Below.refl _ _).alloc (Nat.le_refl _) _
        have hv : w7.heap[w6.heap.size]? = some (.cells #[.slice B m d, .int .i64 fx] 24) := hw7 ▸ heap_alloc_new _ _
        replace FR := Lib.hid (FR.out.step hb)
        replace OW := Lib.hid (own_below OW.out hb)
        have Vx := Lib.hid hv
        generalize hsx : w6.heap.size = sx at *
        clear hb hv
        have p7c10 : w7.cell? ⟨q + 1, 0, none⟩ = some (.int .i64 hd) := FR.out.cell 1 0 rfl rfl rfl
        have p7f10 : w7.frozen? ⟨q + 1, 0, none⟩ = false := FR.out.frozen 1 0 rfl rfl
        have p7c11 : w7.cell? ⟨q + 1, 1, none⟩ = some (.int .i64 tl) := FR.out.cell 1 1 rfl rfl rfl
        have p7f11 : w7.frozen? ⟨q + 1, 1, none⟩ = false := FR.out.frozen 1 1 rfl rfl
        have p7cx0 : w7.cell? ⟨sx, 0, none⟩ = some (.slice B m d) := (blk_cell Vx.out 0).trans rfl
        have p7fx0 : w7.frozen? ⟨sx, 0, none⟩ = false := blk_frozen Vx.out 0
        have p7cx1 : w7.cell? ⟨sx, 1, none⟩ = some (.int .i64 fx) := (blk_cell Vx.out 1).trans rfl
        have p7fx1 : w7.frozen? ⟨sx, 1, none⟩ = false := blk_frozen Vx.out 1
        have hszw8 := FR.out.sz
        simp only [List.length_cons, List.length_nil] at hszw8
        obtain ⟨w8, hw8⟩ : ∃ W, ((w7.setCell ⟨q + 1, 0, none⟩ (.int .i64 ix)).setCell ⟨q + 1, 1, none⟩ (.int .i64 ix)) = W := ⟨_, rfl⟩
        have OW2 := (own_apart (own_apart OW.out (k := q + 1) (o := 0) (u := .int .i64 ix) (by omega)) (k := q + 1) (o := 1) (u := .int .i64 ix) (by omega))
        have Vx2 := ((Below.heap_setCell _ ⟨q + 1, 1, none⟩ (.int .i64 ix) sx (show sx ≠ q + 1 by omega)).trans ((Below.heap_setCell _ ⟨q + 1, 0, none⟩ (.int .i64 ix) sx (show sx ≠ q + 1 by omega)).trans Vx.out))
        replace FR := Lib.hid (show Fr w w8 q [.cells #[.slice A n c, .int .i64 fr] 24, .cells #[.int .i64 ix, .int .i64 ix] 26, .cells #[.slice none 0 0, .int .i64 0] 24, .cells #[.int .i64 0, .int .i64 0] 26] from hw8 ▸ ((FR.out.set 1 0 rfl rfl (.int .i64 ix)).set 1 1 rfl rfl (.int .i64 ix)))
        replace OW := Lib.hid (own_base (show World.ownsRow _ _ _ _ _ _ _ from OW2) (Nat.le_refl _))
        rw [hw8] at OW
        clear OW2
        replace Vx := Lib.hid (show w8.heap[sx]? = some (.cells #[.slice B m d, .int .i64 fx] 24) from hw8 ▸ Vx2)
        clear Vx2
        have nz02 : sx ≠ q + 2 := by omega
        have nz03 : sx ≠ q + 3 := by omega
        have nz12 : q + 1 ≠ q + 2 := by omega
        have nz13 : q + 1 ≠ q + 3 := by omega
        have c20 : w8.cell? ⟨q + 2, 0, none⟩ = some (.slice none 0 0) := FR.out.cell 2 0 rfl rfl rfl
        have f20 : w8.frozen? ⟨q + 2, 0, none⟩ = false := FR.out.frozen 2 0 rfl rfl
        have c21 : w8.cell? ⟨q + 2, 1, none⟩ = some (.int .i64 0) := FR.out.cell 2 1 rfl rfl rfl
        have f21 : w8.frozen? ⟨q + 2, 1, none⟩ = false := FR.out.frozen 2 1 rfl rfl
        have c30 : w8.cell? ⟨q + 3, 0, none⟩ = some (.int .i64 0) := FR.out.cell 3 0 rfl rfl rfl
        have f30 : w8.frozen? ⟨q + 3, 0, none⟩ = false := FR.out.frozen 3 0 rfl rfl
        have c31 : w8.cell? ⟨q + 3, 1, none⟩ = some (.int .i64 0) := FR.out.cell 3 1 rfl rfl rfl
        have f31 : w8.frozen? ⟨q + 3, 1, none⟩ = false := FR.out.frozen 3 1 rfl rfl
        have cx0 : w8.cell? ⟨sx, 0, none⟩ = some (.slice B m d) := (blk_cell Vx.out 0).trans rfl
        have fx0 : w8.frozen? ⟨sx, 0, none⟩ = false := blk_frozen Vx.out 0
        have cx1 : w8.cell? ⟨sx, 1, none⟩ = some (.int .i64 fx) := (blk_cell Vx.out 1).trans rfl
        have fx1 : w8.frozen? ⟨sx, 1, none⟩ = false := blk_frozen Vx.out 1
        go_wp2
        refine wp_region_noPanic ?_
        refine wp_region_held_drew (S := (fun wv => Hid (wv.heap[sx]? = some (.cells #[.slice B m d, .int .i64 fx] 24) ∧ wv.heap[q + 1]? = some (.cells #[.int .i64 ix, .int .i64 ix] 26) ∧ Below q w wv))) (by kernel_rfl) (Lib.hid ⟨Vx.out, FR.out.blk 1 _ rfl, FR.out.bel.drew⟩) (fun hS => ?_)
        refine wpAnyH_take (i := 0) (oi := ⟨some 65, .load 24 (.tmp 13), 24, "queue.go:51", #[], none⟩) (v := .agg (([.slice B m d, .int .i64 fx] : List Value)).toArray) rfl (by kernel_rfl) (by kernel_rfl) (by kernel_rfl) (fun _ _ _ h => h) (yieldsIf_load_mid (by rfl) _ _ (by rfl) (sx) 0 (by rfl) (([.slice B m d, .int .i64 fx] : List Value)) _ (fun wv hS => blk_rngl hS.out.1) Try.underlying24 (by rfl) (by kernel_rfl)) hS ?_
        try simp only [Act.put, List.setIfInBounds_toArray, List.set_cons_zero, List.set_cons_succ]
        refine wpAnyH_take (i := 1) (oi := ⟨some 66, .load 26 (.tmp 6), 26, "queue.go:51", #[⟨3, .gcOnly .lateStores⟩], none⟩) (v := .agg (([.int .i64 ix, .int .i64 ix] : List Value)).toArray) rfl (by kernel_rfl) (by kernel_rfl) (by kernel_rfl) (fun _ _ _ h => h) (yieldsIf_load_mid (by rfl) _ _ (by rfl) (q + 1) 0 (by rfl) (([.int .i64 ix, .int .i64 ix] : List Value)) _ (fun wv hS => blk_rngl hS.out.2.1) Try.underlying26 (by rfl) (by kernel_rfl)) hS ?_
        try simp only [Act.put, List.setIfInBounds_toArray, List.set_cons_zero, List.set_cons_succ]
        refine wpAnyH_take (i := 2) (oi := ⟨some 67, .move (.tmp 15), 29, "queue.go:51", #[⟨4, .gcOnly .lateStores⟩], none⟩) (v := ?_) rfl (by kernel_rfl) (by kernel_rfl) (by kernel_rfl) (fun _ _ _ h => h) (Or.inl ⟨by rfl, ?_⟩) hS ?_
        rotate_left
        · intro wv _; go_simp; try with_reducible rfl
        try simp only [Act.put, List.setIfInBounds_toArray, List.set_cons_zero, List.set_cons_succ]
        refine wpAnyH_ready (rs := [3]) (by kernel_rfl) (by simp) (AllReadyH.cons (o := ⟨none, .store 24 (.tmp 10) (.tmp 65), 0, "queue.go:51", #[⟨0, .data⟩, ⟨0, .phase⟩, ⟨1, .textOnly .lateStores⟩, ⟨2, .textOnly .lateStores⟩], none⟩) rfl (fun K hK => ?_) AllReadyH.nil)
        go_simp
        replace hS := Lib.hid (And.intro (keep_pair hS.out.1 nz02 (.slice B m d) (.int .i64 fx)) (And.intro (keep_pair hS.out.2.1 nz12 (.slice B m d) (.int .i64 fx)) (bel_pair hS.out.2.2 (show q ≤ q + 2 by omega) (.slice B m d) (.int .i64 fx))))
        refine Shut.out hK _ _ hS (fun _ => ?_)
        clear hK K
        try simp only [Act.put, List.setIfInBounds_toArray, List.set_cons_zero, List.set_cons_succ]
        refine wpAnyH_ready (rs := [4]) (by kernel_rfl) (by simp) (AllReadyH.cons (o := ⟨none, .store 26 (.tmp 11) (.tmp 66), 0, "queue.go:51", #[⟨1, .data⟩, ⟨3, .chain⟩, ⟨0, .phase⟩, ⟨1, .phase⟩, ⟨2, .textOnly .lateStores⟩, ⟨3, .phase⟩], none⟩) rfl (fun K hK => ?_) AllReadyH.nil)
        go_simp
        replace hS := Lib.hid (And.intro (keep_pair hS.out.1 nz03 (.int .i64 ix) (.int .i64 ix)) (And.intro (keep_pair hS.out.2.1 nz13 (.int .i64 ix) (.int .i64 ix)) (bel_pair hS.out.2.2 (show q ≤ q + 3 by omega) (.int .i64 ix) (.int .i64 ix))))
        refine Shut.out hK _ _ hS (fun _ => ?_)
        clear hK K
        try simp only [Act.put, List.setIfInBounds_toArray, List.set_cons_zero, List.set_cons_succ]
        refine wpAnyH_take (i := 5) (oi := ⟨some 12, .assign (.tmp 67), 29, "queue.go:51", #[⟨2, .data⟩, ⟨4, .chain⟩, ⟨0, .phase⟩, ⟨1, .phase⟩, ⟨2, .phase⟩, ⟨3, .phase⟩, ⟨4, .phase⟩], none⟩) (v := ?_) rfl (by kernel_rfl) (by kernel_rfl) (by kernel_rfl) (fun _ _ _ h => h) (Or.inl ⟨by rfl, ?_⟩) hS ?_
        rotate_left
        · intro wv _; go_simp; try with_reducible rfl
        try simp only [Act.put, List.setIfInBounds_toArray, List.set_cons_zero, List.set_cons_succ]
        refine wpAnyH_done (by kernel_rfl) ?_ _
        refine NoPanic.normal ?_
        go_wp2
        have FZ : Fr w (((((w8.setCell ⟨q + 2, 0, none⟩ (.slice B m d)).setCell ⟨q + 2, 1, none⟩ (.int .i64 fx)).setCell ⟨q + 3, 0, none⟩ (.int .i64 ix)).setCell ⟨q + 3, 1, none⟩ (.int .i64 ix))).drew q [.cells #[.slice A n c, .int .i64 fr] 24, .cells #[.int .i64 ix, .int .i64 ix] 26, .cells #[.slice B m d, .int .i64 fx] 24, .cells #[.int .i64 ix, .int .i64 ix] 26] := (((((FR.out.set 2 0 rfl rfl (.slice B m d)).set 2 1 rfl rfl (.int .i64 fx)).set 3 0 rfl rfl (.int .i64 ix)).set 3 1 rfl rfl (.int .i64 ix))).drew
        refine bodyPost_ret (res_ccs Try.results21 (by rfl) (by rfl) (FZ.load 2 rfl rfl Try.underlying24 (by kernel_rfl)) (FZ.load 3 rfl rfl Try.underlying26 (by kernel_rfl))) rfl ?_
        rw [HE.out]
        exact ⟨_, _, _, rfl, own_base (own_apart (own_apart (own_apart (own_apart (OW.out) (k := q + 2) (o := 0) (u := .slice B m d) (by omega)) (k := q + 2) (o := 1) (u := .int .i64 fx) (by omega)) (k := q + 3) (o := 0) (u := .int .i64 ix) (by omega)) (k := q + 3) (o := 1) (u := .int .i64 ix) (by omega)) (by rw [hq]; omega), FZ.out⟩
      · have b2 : (hd == -1) = false := by simp [hh]
        have hrl := (tp he0).2.2
        cases front
        · obtain ⟨r2, f2, e2, hS2⟩ : ∃ r2 f2 e2, arSet (rx, fx) tl ix = ((r2, f2), e2) := ⟨_, _, _, rfl⟩
          have HE := Lib.hid (show R = ((r2, f2), (hd, ix), e2) by rw [PP.2.2.2 he0 hh rfl, hS2])
          have S1 := fun (B : Option Addr) (m d : Nat) (W : World) (h : Rs W B m d rx) => arnSet_all B m d rx fx tl ix W h (by have h2 := h.len; omega)
          rw [hS2] at S1
          replace S1 : Hid (∀ (B : Option Addr) (m d : Nat) (W : World), Rs W B m d rx → Calls Try.prog 34 #[.agg #[.slice B m d, .int .i64 fx], .int .i64 tl, .int .i64 ix] W (GiveAll W ((r2, f2), e2))) := Lib.hid S1
          clear PP tp he0 hh hS2 hrl
          go_enter Try.func21, Try.ntmps21
          have c00 : v4.cell? ⟨q, 0, none⟩ = some (.slice A n c) := FR.out.cell 0 0 rfl rfl rfl
          have c01 : v4.cell? ⟨q, 1, none⟩ = some (.int .i64 fr) := FR.out.cell 0 1 rfl rfl rfl
          have c10 : v4.cell? ⟨q + 1, 0, none⟩ = some (.int .i64 hd) := FR.out.cell 1 0 rfl rfl rfl
          have c11 : v4.cell? ⟨q + 1, 1, none⟩ = some (.int .i64 tl) := FR.out.cell 1 1 rfl rfl rfl
          have c20 : v4.cell? ⟨q + 2, 0, none⟩ = some (.slice none 0 0) := FR.out.cell 2 0 rfl rfl rfl
          have c21 : v4.cell? ⟨q + 2, 1, none⟩ = some (.int .i64 0) := FR.out.cell 2 1 rfl rfl rfl
          have c30 : v4.cell? ⟨q + 3, 0, none⟩ = some (.int .i64 0) := FR.out.cell 3 0 rfl rfl rfl
          have c31 : v4.cell? ⟨q + 3, 1, none⟩ = some (.int .i64 0) := FR.out.cell 3 1 rfl rfl rfl
          go_wp2_with fail
          refine (R1.out).mono ?_
          rintro e w5 ⟨rfl, hb⟩
          clear c00 c01 c10 c11 c20 c21 c30 c31
          replace FR := Lib.hid (FR.out.step hb)
          clear hb
          have FR0 := FR.out.sz
          simp only [List.length_cons, List.length_nil] at FR0
          have c00 : w5.cell? ⟨q, 0, none⟩ = some (.slice A n c) := FR.out.cell 0 0 rfl rfl rfl
          have c01 : w5.cell? ⟨q, 1, none⟩ = some (.int .i64 fr) := FR.out.cell 0 1 rfl rfl rfl
          have c10 : w5.cell? ⟨q + 1, 0, none⟩ = some (.int .i64 hd) := FR.out.cell 1 0 rfl rfl rfl
          have c11 : w5.cell? ⟨q + 1, 1, none⟩ = some (.int .i64 tl) := FR.out.cell 1 1 rfl rfl rfl
          have c20 : w5.cell? ⟨q + 2, 0, none⟩ = some (.slice none 0 0) := FR.out.cell 2 0 rfl rfl rfl
          have c21 : w5.cell? ⟨q + 2, 1, none⟩ = some (.int .i64 0) := FR.out.cell 2 1 rfl rfl rfl
          have c30 : w5.cell? ⟨q + 3, 0, none⟩ = some (.int .i64 0) := FR.out.cell 3 0 rfl rfl rfl
          have c31 : w5.cell? ⟨q + 3, 1, none⟩ = some (.int .i64 0) := FR.out.cell 3 1 rfl rfl rfl
          go_wp2_with fail
          refine ((T1.out _ (FR.out.es RX.out))).mono ?_
          rintro e w6 ⟨B, m, d, rfl, hown, hb⟩
          clear c00 c01 c10 c11 c20 c21 c30 c31
          replace FR := Lib.hid (FR.out.step hb)
          clear hb
          have OW := Lib.hid (own_base hown FR0)
          clear hown FR0
          have gex := FR.out.sz
          simp only [List.length_cons, List.length_nil] at gex
          obtain ⟨w7, hw7⟩ : ∃ W, w6.alloc (.cells #[.slice B m d, .int .i64 fx] 24) = W := ⟨_, rfl⟩
          have hb : Below w6.heap.size w6 w7 := hw7 ▸ (Below.refl _ _).alloc (Nat.le_refl _) _
          have hv : w7.heap[w6.heap.size]? = some (.cells #[.slice B m d, .int .i64 fx] 24) := hw7 ▸ heap_alloc_new _ _
          replace FR := Lib.hid (FR.out.step hb)
          replace OW := Lib.hid (own_below OW.out hb)
          have Vx := Lib.hid hv
          generalize hsx : w6.heap.size = sx at *
          clear hb hv
          have FR0 := FR.out.sz
          simp only [List.length_cons, List.length_nil] at FR0
          have c00 : w7.cell? ⟨q, 0, none⟩ = some (.slice A n c) := FR.out.cell 0 0 rfl rfl rfl
          have c01 : w7.cell? ⟨q, 1, none⟩ = some (.int .i64 fr) := FR.out.cell 0 1 rfl rfl rfl
          have c10 : w7.cell? ⟨q + 1, 0, none⟩ = some (.int .i64 hd) := FR.out.cell 1 0 rfl rfl rfl
          have c11 : w7.cell? ⟨q + 1, 1, none⟩ = some (.int .i64 tl) := FR.out.cell 1 1 rfl rfl rfl
          have c20 : w7.cell? ⟨q + 2, 0, none⟩ = some (.slice none 0 0) := FR.out.cell 2 0 rfl rfl rfl
          have c21 : w7.cell? ⟨q + 2, 1, none⟩ = some (.int .i64 0) := FR.out.cell 2 1 rfl rfl rfl
          have c30 : w7.cell? ⟨q + 3, 0, none⟩ = some (.int .i64 0) := FR.out.cell 3 0 rfl rfl rfl
          have c31 : w7.cell? ⟨q + 3, 1, none⟩ = some (.int .i64 0) := FR.out.cell 3 1 rfl rfl rfl
          have cx0 : w7.cell? ⟨sx, 0, none⟩ = some (.slice B m d) := (blk_cell Vx.out 0).trans rfl
          have cx1 : w7.cell? ⟨sx, 1, none⟩ = some (.int .i64 fx) := (blk_cell Vx.out 1).trans rfl
          go_wp2_with fail
          refine ((S1.out _ _ _ _ (rs_own OW.out))).mono ?_
          rintro e w8 ⟨B2, m2, d2, rfl, hown, hb⟩
          clear c00 c01 c10 c11 c20 c21 c30 c31 cx0 cx1
          replace FR := Lib.hid (FR.out.step hb)
          replace OW := Lib.hid (own_below OW.out hb)
          replace Vx := Lib.hid (blk_below Vx.out hb (blk_lt Vx.out))
          clear hb
          replace OW := Lib.hid (own_base hown FR0)
          clear hown FR0
          have p8c10 : w8.cell? ⟨q + 1, 0, none⟩ = some (.int .i64 hd) := FR.out.cell 1 0 rfl rfl rfl
          have p8f10 : w8.frozen? ⟨q + 1, 0, none⟩ = false := FR.out.frozen 1 0 rfl rfl
          have p8c11 : w8.cell? ⟨q + 1, 1, none⟩ = some (.int .i64 tl) := FR.out.cell 1 1 rfl rfl rfl
          have p8f11 : w8.frozen? ⟨q + 1, 1, none⟩ = false := FR.out.frozen 1 1 rfl rfl
          have p8cx0 : w8.cell? ⟨sx, 0, none⟩ = some (.slice B m d) := (blk_cell Vx.out 0).trans rfl
          have p8fx0 : w8.frozen? ⟨sx, 0, none⟩ = false := blk_frozen Vx.out 0
          have p8cx1 : w8.cell? ⟨sx, 1, none⟩ = some (.int .i64 fx) := (blk_cell Vx.out 1).trans rfl
          have p8fx1 : w8.frozen? ⟨sx, 1, none⟩ = false := blk_frozen Vx.out 1
          have hszw9 := FR.out.sz
          simp only [List.length_cons, List.length_nil] at hszw9
          obtain ⟨w9, hw9⟩ : ∃ W, (((w8.setCell ⟨sx, 0, none⟩ (.slice B2 m2 d2)).setCell ⟨sx, 1, none⟩ (.int .i64 f2)).setCell ⟨q + 1, 1, none⟩ (.int .i64 ix)) = W := ⟨_, rfl⟩
          have OW2 := (own_apart (own_other (own_other OW.out (k := sx) (o := 0) (u := .slice B2 m2 d2) (own_ne OW.out Vx.out (by decide))) (k := sx) (o := 1) (u := .int .i64 f2) (own_ne OW.out Vx.out (by decide))) (k := q + 1) (o := 1) (u := .int .i64 ix) (by omega))
          have Vx2 := ((Below.heap_setCell _ ⟨q + 1, 1, none⟩ (.int .i64 ix) sx (show sx ≠ q + 1 by omega)).trans (blk_set (j := 1) (blk_set (j := 0) Vx.out (.slice B2 m2 d2)) (.int .i64 f2)))
          replace FR := Lib.hid (show Fr w w9 q [.cells #[.slice A n c, .int .i64 fr] 24, .cells #[.int .i64 hd, .int .i64 ix] 26, .cells #[.slice none 0 0, .int .i64 0] 24, .cells #[.int .i64 0, .int .i64 0] 26] from hw9 ▸ (((FR.out.other (b := sx) (j := 0) (by first | (simp only [List.length_set, List.length_cons, List.length_nil]; omega) | (simp; omega)) (.slice B2 m2 d2)).other (b := sx) (j := 1) (by first | (simp only [List.length_set, List.length_cons, List.length_nil]; omega) | (simp; omega)) (.int .i64 f2)).set 1 1 rfl rfl (.int .i64 ix)))
          replace OW := Lib.hid (own_base (show World.ownsRow _ _ _ _ _ _ _ from OW2) (Nat.le_refl _))
          rw [hw9] at OW
          clear OW2
          replace Vx := Lib.hid (show w9.heap[sx]? = some (.cells #[.slice B2 m2 d2, .int .i64 f2] 24) from hw9 ▸ Vx2)
          clear Vx2
          have nz02 : sx ≠ q + 2 := by omega
          have nz03 : sx ≠ q + 3 := by omega
          have nz12 : q + 1 ≠ q + 2 := by omega
          have nz13 : q + 1 ≠ q + 3 := by omega
          have c20 : w9.cell? ⟨q + 2, 0, none⟩ = some (.slice none 0 0) := FR.out.cell 2 0 rfl rfl rfl
          have f20 : w9.frozen? ⟨q + 2, 0, none⟩ = false := FR.out.frozen 2 0 rfl rfl
          have c21 : w9.cell? ⟨q + 2, 1, none⟩ = some (.int .i64 0) := FR.out.cell 2 1 rfl rfl rfl
          have f21 : w9.frozen? ⟨q + 2, 1, none⟩ = false := FR.out.frozen 2 1 rfl rfl
          have c30 : w9.cell? ⟨q + 3, 0, none⟩ = some (.int .i64 0) := FR.out.cell 3 0 rfl rfl rfl
          have f30 : w9.frozen? ⟨q + 3, 0, none⟩ = false := FR.out.frozen 3 0 rfl rfl
          have c31 : w9.cell? ⟨q + 3, 1, none⟩ = some (.int .i64 0) := FR.out.cell 3 1 rfl rfl rfl
          have f31 : w9.frozen? ⟨q + 3, 1, none⟩ = false := FR.out.frozen 3 1 rfl rfl
          have cx0 : w9.cell? ⟨sx, 0, none⟩ = some (.slice B2 m2 d2) := (blk_cell Vx.out 0).trans rfl
          have fx0 : w9.frozen? ⟨sx, 0, none⟩ = false := blk_frozen Vx.out 0
          have cx1 : w9.cell? ⟨sx, 1, none⟩ = some (.int .i64 f2) := (blk_cell Vx.out 1).trans rfl
          have fx1 : w9.frozen? ⟨sx, 1, none⟩ = false := blk_frozen Vx.out 1
          go_wp2
          refine wp_region_noPanic ?_
          refine wp_region_held_drew (S := (fun wv => Hid (wv.heap[sx]? = some (.cells #[.slice B2 m2 d2, .int .i64 f2] 24) ∧ wv.heap[q + 1]? = some (.cells #[.int .i64 hd, .int .i64 ix] 26) ∧ Below q w wv))) (by kernel_rfl) (Lib.hid ⟨Vx.out, FR.out.blk 1 _ rfl, FR.out.bel.drew⟩) (fun hS => ?_)
          refine wpAnyH_take (i := 0) (oi := ⟨some 65, .load 24 (.tmp 13), 24, "queue.go:51", #[], none⟩) (v := .agg (([.slice B2 m2 d2, .int .i64 f2] : List Value)).toArray) rfl (by kernel_rfl) (by kernel_rfl) (by kernel_rfl) (fun _ _ _ h => h) (yieldsIf_load_mid (by rfl) _ _ (by rfl) (sx) 0 (by rfl) (([.slice B2 m2 d2, .int .i64 f2] : List Value)) _ (fun wv hS => blk_rngl hS.out.1) Try.underlying24 (by rfl) (by kernel_rfl)) hS ?_
          try simp only [Act.put, List.setIfInBounds_toArray, List.set_cons_zero, List.set_cons_succ]
          refine wpAnyH_take (i := 1) (oi := ⟨some 66, .load 26 (.tmp 6), 26, "queue.go:51", #[⟨3, .gcOnly .lateStores⟩], none⟩) (v := .agg (([.int .i64 hd, .int .i64 ix] : List Value)).toArray) rfl (by kernel_rfl) (by kernel_rfl) (by kernel_rfl) (fun _ _ _ h => h) (yieldsIf_load_mid (by rfl) _ _ (by rfl) (q + 1) 0 (by rfl) (([.int .i64 hd, .int .i64 ix] : List Value)) _ (fun wv hS => blk_rngl hS.out.2.1) Try.underlying26 (by rfl) (by kernel_rfl)) hS ?_
          try simp only [Act.put, List.setIfInBounds_toArray, List.set_cons_zero, List.set_cons_succ]
          refine wpAnyH_take (i := 2) (oi := ⟨some 67, .move (.tmp 15), 29, "queue.go:51", #[⟨4, .gcOnly .lateStores⟩], none⟩) (v := ?_) rfl (by kernel_rfl) (by kernel_rfl) (by kernel_rfl) (fun _ _ _ h => h) (Or.inl ⟨by rfl, ?_⟩) hS ?_
          rotate_left
          · intro wv _; go_simp; try with_reducible rfl
          try simp only [Act.put, List.setIfInBounds_toArray, List.set_cons_zero, List.set_cons_succ]
          refine wpAnyH_ready (rs := [3]) (by kernel_rfl) (by simp) (AllReadyH.cons (o := ⟨none, .store 24 (.tmp 10) (.tmp 65), 0, "queue.go:51", #[⟨0, .data⟩, ⟨0, .phase⟩, ⟨1, .textOnly .lateStores⟩, ⟨2, .textOnly .lateStores⟩], none⟩) rfl (fun K hK => ?_) AllReadyH.nil)
          go_simp
          replace hS := Lib.hid (And.intro (keep_pair hS.out.1 nz02 (.slice B2 m2 d2) (.int .i64 f2)) (And.intro (keep_pair hS.out.2.1 nz12 (.slice B2 m2 d2) (.int .i64 f2)) (bel_pair hS.out.2.2 (show q ≤ q + 2 by omega) (.slice B2 m2 d2) (.int .i64 f2))))
          refine Shut.out hK _ _ hS (fun _ => ?_)
          clear hK K
          try simp only [Act.put, List.setIfInBounds_toArray, List.set_cons_zero, List.set_cons_succ]
          refine wpAnyH_ready (rs := [4]) (by kernel_rfl) (by simp) (AllReadyH.cons (o := ⟨none, .store 26 (.tmp 11) (.tmp 66), 0, "queue.go:51", #[⟨1, .data⟩, ⟨3, .chain⟩, ⟨0, .phase⟩, ⟨1, .phase⟩, ⟨2, .textOnly .lateStores⟩, ⟨3, .phase⟩], none⟩) rfl (fun K hK => ?_) AllReadyH.nil)
          go_simp
          replace hS := Lib.hid (And.intro (keep_pair hS.out.1 nz03 (.int .i64 hd) (.int .i64 ix)) (And.intro (keep_pair hS.out.2.1 nz13 (.int .i64 hd) (.int .i64 ix)) (bel_pair hS.out.2.2 (show q ≤ q + 3 by omega) (.int .i64 hd) (.int .i64 ix))))
          refine Shut.out hK _ _ hS (fun _ => ?_)
          clear hK K
          try simp only [Act.put, List.setIfInBounds_toArray, List.set_cons_zero, List.set_cons_succ]
          refine wpAnyH_take (i := 5) (oi := ⟨some 12, .assign (.tmp 67), 29, "queue.go:51", #[⟨2, .data⟩, ⟨4, .chain⟩, ⟨0, .phase⟩, ⟨1, .phase⟩, ⟨2, .phase⟩, ⟨3, .phase⟩, ⟨4, .phase⟩], none⟩) (v := ?_) rfl (by kernel_rfl) (by kernel_rfl) (by kernel_rfl) (fun _ _ _ h => h) (Or.inl ⟨by rfl, ?_⟩) hS ?_
          rotate_left
          · intro wv _; go_simp; try with_reducible rfl
          try simp only [Act.put, List.setIfInBounds_toArray, List.set_cons_zero, List.set_cons_succ]
          refine wpAnyH_done (by kernel_rfl) ?_ _
          refine NoPanic.normal ?_
          go_wp2
          have FZ : Fr w (((((w9.setCell ⟨q + 2, 0, none⟩ (.slice B2 m2 d2)).setCell ⟨q + 2, 1, none⟩ (.int .i64 f2)).setCell ⟨q + 3, 0, none⟩ (.int .i64 hd)).setCell ⟨q + 3, 1, none⟩ (.int .i64 ix))).drew q [.cells #[.slice A n c, .int .i64 fr] 24, .cells #[.int .i64 hd, .int .i64 ix] 26, .cells #[.slice B2 m2 d2, .int .i64 f2] 24, .cells #[.int .i64 hd, .int .i64 ix] 26] := (((((FR.out.set 2 0 rfl rfl (.slice B2 m2 d2)).set 2 1 rfl rfl (.int .i64 f2)).set 3 0 rfl rfl (.int .i64 hd)).set 3 1 rfl rfl (.int .i64 ix))).drew
          refine bodyPost_ret (res_ccs Try.results21 (by rfl) (by rfl) (FZ.load 2 rfl rfl Try.underlying24 (by kernel_rfl)) (FZ.load 3 rfl rfl Try.underlying26 (by kernel_rfl))) rfl ?_
          rw [HE.out]
          exact ⟨_, _, _, rfl, own_base (own_apart (own_apart (own_apart (own_apart (OW.out) (k := q + 2) (o := 0) (u := .slice B2 m2 d2) (by omega)) (k := q + 2) (o := 1) (u := .int .i64 f2) (by omega)) (k := q + 3) (o := 0) (u := .int .i64 hd) (by omega)) (k := q + 3) (o := 1) (u := .int .i64 ix) (by omega)) (by rw [hq]; omega), FZ.out⟩
        · obtain ⟨r2, f2, e2, hS2⟩ : ∃ r2 f2 e2, arSet (rx, fx) ix hd = ((r2, f2), e2) := ⟨_, _, _, rfl⟩
          have HE := Lib.hid (show R = ((r2, f2), (ix, tl), e2) by rw [PP.2.2.1 he0 hh rfl, hS2])
          have S1 := fun (B : Option Addr) (m d : Nat) (W : World) (h : Rs W B m d rx) => arnSet_all B m d rx fx ix hd W h (by have h2 := h.len; omega)
          rw [hS2] at S1
          replace S1 : Hid (∀ (B : Option Addr) (m d : Nat) (W : World), Rs W B m d rx → Calls Try.prog 34 #[.agg #[.slice B m d, .int .i64 fx], .int .i64 ix, .int .i64 hd] W (GiveAll W ((r2, f2), e2))) := Lib.hid S1
          clear PP tp he0 hh hS2 hrl
          go_enter Try.func21, Try.ntmps21
          have c00 : v4.cell? ⟨q, 0, none⟩ = some (.slice A n c) := FR.out.cell 0 0 rfl rfl rfl
          have c01 : v4.cell? ⟨q, 1, none⟩ = some (.int .i64 fr) := FR.out.cell 0 1 rfl rfl rfl
          have c10 : v4.cell? ⟨q + 1, 0, none⟩ = some (.int .i64 hd) := FR.out.cell 1 0 rfl rfl rfl
          have c11 : v4.cell? ⟨q + 1, 1, none⟩ = some (.int .i64 tl) := FR.out.cell 1 1 rfl rfl rfl
          have c20 : v4.cell? ⟨q + 2, 0, none⟩ = some (.slice none 0 0) := FR.out.cell 2 0 rfl rfl rfl
          have c21 : v4.cell? ⟨q + 2, 1, none⟩ = some (.int .i64 0) := FR.out.cell 2 1 rfl rfl rfl
          have c30 : v4.cell? ⟨q + 3, 0, none⟩ = some (.int .i64 0) := FR.out.cell 3 0 rfl rfl rfl
          have c31 : v4.cell? ⟨q + 3, 1, none⟩ = some (.int .i64 0) := FR.out.cell 3 1 rfl rfl rfl
          go_wp2_with fail
          refine (R1.out).mono ?_
          rintro e w5 ⟨rfl, hb⟩
          clear c00 c01 c10 c11 c20 c21 c30 c31
          replace FR := Lib.hid (FR.out.step hb)
          clear hb
          have FR0 := FR.out.sz
          simp only [List.length_cons, List.length_nil] at FR0
          have c00 : w5.cell? ⟨q, 0, none⟩ = some (.slice A n c) := FR.out.cell 0 0 rfl rfl rfl
          have c01 : w5.cell? ⟨q, 1, none⟩ = some (.int .i64 fr) := FR.out.cell 0 1 rfl rfl rfl
          have c10 : w5.cell? ⟨q + 1, 0, none⟩ = some (.int .i64 hd) := FR.out.cell 1 0 rfl rfl rfl
          have c11 : w5.cell? ⟨q + 1, 1, none⟩ = some (.int .i64 tl) := FR.out.cell 1 1 rfl rfl rfl
          have c20 : w5.cell? ⟨q + 2, 0, none⟩ = some (.slice none 0 0) := FR.out.cell 2 0 rfl rfl rfl
          have c21 : w5.cell? ⟨q + 2, 1, none⟩ = some (.int .i64 0) := FR.out.cell 2 1 rfl rfl rfl
          have c30 : w5.cell? ⟨q + 3, 0, none⟩ = some (.int .i64 0) := FR.out.cell 3 0 rfl rfl rfl
          have c31 : w5.cell? ⟨q + 3, 1, none⟩ = some (.int .i64 0) := FR.out.cell 3 1 rfl rfl rfl
          go_wp2_with fail
          refine ((T1.out _ (FR.out.es RX.out))).mono ?_
          rintro e w6 ⟨B, m, d, rfl, hown, hb⟩
          clear c00 c01 c10 c11 c20 c21 c30 c31
          replace FR := Lib.hid (FR.out.step hb)
          clear hb
          have OW := Lib.hid (own_base hown FR0)
          clear hown FR0
          have gex := FR.out.sz
          simp only [List.length_cons, List.length_nil] at gex
          obtain ⟨w7, hw7⟩ : ∃ W, w6.alloc (.cells #[.slice B m d, .int .i64 fx] 24) = W := ⟨_, rfl⟩
          have hb : Below w6.heap.size w6 w7 := hw7 ▸ (Below.refl _ _).alloc (Nat.le_refl _) _
          have hv : w7.heap[w6.heap.size]? = some (.cells #[.slice B m d, .int .i64 fx] 24) := hw7 ▸ heap_alloc_new _ _
          replace FR := Lib.hid (FR.out.step hb)
          replace OW := Lib.hid (own_below OW.out hb)
          have Vx := Lib.hid hv
          generalize hsx : w6.heap.size = sx at *
          clear hb hv
          have FR0 := FR.out.sz
          simp only [List.length_cons, List.length_nil] at FR0
          have c00 : w7.cell? ⟨q, 0, none⟩ = some (.slice A n c) := FR.out.cell 0 0 rfl rfl rfl
          have c01 : w7.cell? ⟨q, 1, none⟩ = some (.int .i64 fr) := FR.out.cell 0 1 rfl rfl rfl
          have c10 : w7.cell? ⟨q + 1, 0, none⟩ = some (.int .i64 hd) := FR.out.cell 1 0 rfl rfl rfl
          have c11 : w7.cell? ⟨q + 1, 1, none⟩ = some (.int .i64 tl) := FR.out.cell 1 1 rfl rfl rfl
          have c20 : w7.cell? ⟨q + 2, 0, none⟩ = some (.slice none 0 0) := FR.out.cell 2 0 rfl rfl rfl
          have c21 : w7.cell? ⟨q + 2, 1, none⟩ = some (.int .i64 0) := FR.out.cell 2 1 rfl rfl rfl
          have c30 : w7.cell? ⟨q + 3, 0, none⟩ = some (.int .i64 0) := FR.out.cell 3 0 rfl rfl rfl
          have c31 : w7.cell? ⟨q + 3, 1, none⟩ = some (.int .i64 0) := FR.out.cell 3 1 rfl rfl rfl
          have cx0 : w7.cell? ⟨sx, 0, none⟩ = some (.slice B m d) := (blk_cell Vx.out 0).trans rfl
          have cx1 : w7.cell? ⟨sx, 1, none⟩ = some (.int .i64 fx) := (blk_cell Vx.out 1).trans rfl
          go_wp2_with fail
          refine ((S1.out _ _ _ _ (rs_own OW.out))).mono ?_
          rintro e w8 ⟨B2, m2, d2, rfl, hown, hb⟩
          clear c00 c01 c10 c11 c20 c21 c30 c31 cx0 cx1
          replace FR := Lib.hid (FR.out.step hb)
          replace OW := Lib.hid (own_below OW.out hb)
          replace Vx := Lib.hid (blk_below Vx.out hb (blk_lt Vx.out))
          clear hb
          replace OW := Lib.hid (own_base hown FR0)
          clear hown FR0
          have p8c10 : w8.cell? ⟨q + 1, 0, none⟩ = some (.int .i64 hd) := FR.out.cell 1 0 rfl rfl rfl
          have p8f10 : w8.frozen? ⟨q + 1, 0, none⟩ = false := FR.out.frozen 1 0 rfl rfl
          have p8c11 : w8.cell? ⟨q + 1, 1, none⟩ = some (.int .i64 tl) := FR.out.cell 1 1 rfl rfl rfl
          have p8f11 : w8.frozen? ⟨q + 1, 1, none⟩ = false := FR.out.frozen 1 1 rfl rfl
          have p8cx0 : w8.cell? ⟨sx, 0, none⟩ = some (.slice B m d) := (blk_cell Vx.out 0).trans rfl
          have p8fx0 : w8.frozen? ⟨sx, 0, none⟩ = false := blk_frozen Vx.out 0
          have p8cx1 : w8.cell? ⟨sx, 1, none⟩ = some (.int .i64 fx) := (blk_cell Vx.out 1).trans rfl
          have p8fx1 : w8.frozen? ⟨sx, 1, none⟩ = false := blk_frozen Vx.out 1
          have hszw9 := FR.out.sz
          simp only [List.length_cons, List.length_nil] at hszw9
          obtain ⟨w9, hw9⟩ : ∃ W, (((w8.setCell ⟨sx, 0, none⟩ (.slice B2 m2 d2)).setCell ⟨sx, 1, none⟩ (.int .i64 f2)).setCell ⟨q + 1, 0, none⟩ (.int .i64 ix)) = W := ⟨_, rfl⟩
          have OW2 := (own_apart (own_other (own_other OW.out (k := sx) (o := 0) (u := .slice B2 m2 d2) (own_ne OW.out Vx.out (by decide))) (k := sx) (o := 1) (u := .int .i64 f2) (own_ne OW.out Vx.out (by decide))) (k := q + 1) (o := 0) (u := .int .i64 ix) (by omega))
          have Vx2 := ((Below.heap_setCell _ ⟨q + 1, 0, none⟩ (.int .i64 ix) sx (show sx ≠ q + 1 by omega)).trans (blk_set (j := 1) (blk_set (j := 0) Vx.out (.slice B2 m2 d2)) (.int .i64 f2)))
          replace FR := Lib.hid (show Fr w w9 q [.cells #[.slice A n c, .int .i64 fr] 24, .cells #[.int .i64 ix, .int .i64 tl] 26, .cells #[.slice none 0 0, .int .i64 0] 24, .cells #[.int .i64 0, .int .i64 0] 26] from hw9 ▸ (((FR.out.other (b := sx) (j := 0) (by first | (simp only [List.length_set, List.length_cons, List.length_nil]; omega) | (simp; omega)) (.slice B2 m2 d2)).other (b := sx) (j := 1) (by first | (simp only [List.length_set, List.length_cons, List.length_nil]; omega) | (simp; omega)) (.int .i64 f2)).set 1 0 rfl rfl (.int .i64 ix)))
          replace OW := Lib.hid (own_base (show World.ownsRow _ _ _ _ _ _ _ from OW2) (Nat.le_refl _))
          rw [hw9] at OW
          clear OW2
          replace Vx := Lib.hid (show w9.heap[sx]? = some (.cells #[.slice B2 m2 d2, .int .i64 f2] 24) from hw9 ▸ Vx2)
          clear Vx2
          have nz02 : sx ≠ q + 2 := by omega
          have nz03 : sx ≠ q + 3 := by omega
          have nz12 : q + 1 ≠ q + 2 := by omega
          have nz13 : q + 1 ≠ q + 3 := by omega
          have c20 : w9.cell? ⟨q + 2, 0, none⟩ = some (.slice none 0 0) := FR.out.cell 2 0 rfl rfl rfl
          have f20 : w9.frozen? ⟨q + 2, 0, none⟩ = false := FR.out.frozen 2 0 rfl rfl
          have c21 : w9.cell? ⟨q + 2, 1, none⟩ = some (.int .i64 0) := FR.out.cell 2 1 rfl rfl rfl
          have f21 : w9.frozen? ⟨q + 2, 1, none⟩ = false := FR.out.frozen 2 1 rfl rfl
          have c30 : w9.cell? ⟨q + 3, 0, none⟩ = some (.int .i64 0) := FR.out.cell 3 0 rfl rfl rfl
          have f30 : w9.frozen? ⟨q + 3, 0, none⟩ = false := FR.out.frozen 3 0 rfl rfl
          have c31 : w9.cell? ⟨q + 3, 1, none⟩ = some (.int .i64 0) := FR.out.cell 3 1 rfl rfl rfl
          have f31 : w9.frozen? ⟨q + 3, 1, none⟩ = false := FR.out.frozen 3 1 rfl rfl
          have cx0 : w9.cell? ⟨sx, 0, none⟩ = some (.slice B2 m2 d2) := (blk_cell Vx.out 0).trans rfl
          have fx0 : w9.frozen? ⟨sx, 0, none⟩ = false := blk_frozen Vx.out 0
          have cx1 : w9.cell? ⟨sx, 1, none⟩ = some (.int .i64 f2) := (blk_cell Vx.out 1).trans rfl
          have fx1 : w9.frozen? ⟨sx, 1, none⟩ = false := blk_frozen Vx.out 1
          go_wp2
          refine wp_region_noPanic ?_
          refine wp_region_held_drew (S := (fun wv => Hid (wv.heap[sx]? = some (.cells #[.slice B2 m2 d2, .int .i64 f2] 24) ∧ wv.heap[q + 1]? = some (.cells #[.int .i64 ix, .int .i64 tl] 26) ∧ Below q w wv))) (by kernel_rfl) (Lib.hid ⟨Vx.out, FR.out.blk 1 _ rfl, FR.out.bel.drew⟩) (fun hS => ?_)
          refine wpAnyH_take (i := 0) (oi := ⟨some 65, .load 24 (.tmp 13), 24, "queue.go:51", #[], none⟩) (v := .agg (([.slice B2 m2 d2, .int .i64 f2] : List Value)).toArray) rfl (by kernel_rfl) (by kernel_rfl) (by kernel_rfl) (fun _ _ _ h => h) (yieldsIf_load_mid (by rfl) _ _ (by rfl) (sx) 0 (by rfl) (([.slice B2 m2 d2, .int .i64 f2] : List Value)) _ (fun wv hS => blk_rngl hS.out.1) Try.underlying24 (by rfl) (by kernel_rfl)) hS ?_
          try simp only [Act.put, List.setIfInBounds_toArray, List.set_cons_zero, List.set_cons_succ]
          refine wpAnyH_take (i := 1) (oi := ⟨some 66, .load 26 (.tmp 6), 26, "queue.go:51", #[⟨3, .gcOnly .lateStores⟩], none⟩) (v := .agg (([.int .i64 ix, .int .i64 tl] : List Value)).toArray) rfl (by kernel_rfl) (by kernel_rfl) (by kernel_rfl) (fun _ _ _ h => h) (yieldsIf_load_mid (by rfl) _ _ (by rfl) (q + 1) 0 (by rfl) (([.int .i64 ix, .int .i64 tl] : List Value)) _ (fun wv hS => blk_rngl hS.out.2.1) Try.underlying26 (by rfl) (by kernel_rfl)) hS ?_
          try simp only [Act.put, List.setIfInBounds_toArray, List.set_cons_zero, List.set_cons_succ]
          refine wpAnyH_take (i := 2) (oi := ⟨some 67, .move (.tmp 15), 29, "queue.go:51", #[⟨4, .gcOnly .lateStores⟩], none⟩) (v := ?_) rfl (by kernel_rfl) (by kernel_rfl) (by kernel_rfl) (fun _ _ _ h => h) (Or.inl ⟨by rfl, ?_⟩) hS ?_
          rotate_left
          · intro wv _; go_simp; try with_reducible rfl
          try simp only [Act.put, List.setIfInBounds_toArray, List.set_cons_zero, List.set_cons_succ]
          refine wpAnyH_ready (rs := [3]) (by kernel_rfl) (by simp) (AllReadyH.cons (o := ⟨none, .store 24 (.tmp 10) (.tmp 65), 0, "queue.go:51", #[⟨0, .data⟩, ⟨0, .phase⟩, ⟨1, .textOnly .lateStores⟩, ⟨2, .textOnly .lateStores⟩], none⟩) rfl (fun K hK => ?_) AllReadyH.nil)
          go_simp
          replace hS := Lib.hid (And.intro (keep_pair hS.out.1 nz02 (.slice B2 m2 d2) (.int .i64 f2)) (And.intro (keep_pair hS.out.2.1 nz12 (.slice B2 m2 d2) (.int .i64 f2)) (bel_pair hS.out.2.2 (show q ≤ q + 2 by omega) (.slice B2 m2 d2) (.int .i64 f2))))
          refine Shut.out hK _ _ hS (fun _ => ?_)
          clear hK K
          try simp only [Act.put, List.setIfInBounds_toArray, List.set_cons_zero, List.set_cons_succ]
          refine wpAnyH_ready (rs := [4]) (by kernel_rfl) (by simp) (AllReadyH.cons (o := ⟨none, .store 26 (.tmp 11) (.tmp 66), 0, "queue.go:51", #[⟨1, .data⟩, ⟨3, .chain⟩, ⟨0, .phase⟩, ⟨1, .phase⟩, ⟨2, .textOnly .lateStores⟩, ⟨3, .phase⟩], none⟩) rfl (fun K hK => ?_) AllReadyH.nil)
          go_simp
          replace hS := Lib.hid (And.intro (keep_pair hS.out.1 nz03 (.int .i64 ix) (.int .i64 tl)) (And.intro (keep_pair hS.out.2.1 nz13 (.int .i64 ix) (.int .i64 tl)) (bel_pair hS.out.2.2 (show q ≤ q + 3 by omega) (.int .i64 ix) (.int .i64 tl))))
          refine Shut.out hK _ _ hS (fun _ => ?_)
          clear hK K
          try simp only [Act.put, List.setIfInBounds_toArray, List.set_cons_zero, List.set_cons_succ]
          refine wpAnyH_take (i := 5) (oi := ⟨some 12, .assign (.tmp 67), 29, "queue.go:51", #[⟨2, .data⟩, ⟨4, .chain⟩, ⟨0, .phase⟩, ⟨1, .phase⟩, ⟨2, .phase⟩, ⟨3, .phase⟩, ⟨4, .phase⟩], none⟩) (v := ?_) rfl (by kernel_rfl) (by kernel_rfl) (by kernel_rfl) (fun _ _ _ h => h) (Or.inl ⟨by rfl, ?_⟩) hS ?_
          rotate_left
          · intro wv _; go_simp; try with_reducible rfl
          try simp only [Act.put, List.setIfInBounds_toArray, List.set_cons_zero, List.set_cons_succ]
          refine wpAnyH_done (by kernel_rfl) ?_ _
          refine NoPanic.normal ?_
          go_wp2
          have FZ : Fr w (((((w9.setCell ⟨q + 2, 0, none⟩ (.slice B2 m2 d2)).setCell ⟨q + 2, 1, none⟩ (.int .i64 f2)).setCell ⟨q + 3, 0, none⟩ (.int .i64 ix)).setCell ⟨q + 3, 1, none⟩ (.int .i64 tl))).drew q [.cells #[.slice A n c, .int .i64 fr] 24, .cells #[.int .i64 ix, .int .i64 tl] 26, .cells #[.slice B2 m2 d2, .int .i64 f2] 24, .cells #[.int .i64 ix, .int .i64 tl] 26] := (((((FR.out.set 2 0 rfl rfl (.slice B2 m2 d2)).set 2 1 rfl rfl (.int .i64 f2)).set 3 0 rfl rfl (.int .i64 ix)).set 3 1 rfl rfl (.int .i64 tl))).drew
          refine bodyPost_ret (res_ccs Try.results21 (by rfl) (by rfl) (FZ.load 2 rfl rfl Try.underlying24 (by kernel_rfl)) (FZ.load 3 rfl rfl Try.underlying26 (by kernel_rfl))) rfl ?_
          rw [HE.out]
          exact ⟨_, _, _, rfl, own_base (own_apart (own_apart (own_apart (own_apart (OW.out) (k := q + 2) (o := 0) (u := .slice B2 m2 d2) (by omega)) (k := q + 2) (o := 1) (u := .int .i64 f2) (by omega)) (k := q + 3) (o := 0) (u := .int .i64 ix) (by omega)) (k := q + 3) (o := 1) (u := .int .i64 tl) (by omega)) (by rw [hq]; omega), FZ.out⟩
    · have b1 : (ex != 0) = true := by simp [he0]
      have HE := Lib.hid (show R = ((rx, fx), (hd, tl), ex) by rw [(PP.1 he0).2, (PP.1 he0).1])
      clear PP tp he0
      go_enter Try.func21, Try.ntmps21
      have c00 : v4.cell? ⟨q, 0, none⟩ = some (.slice A n c) := FR.out.cell 0 0 rfl rfl rfl
      have c01 : v4.cell? ⟨q, 1, none⟩ = some (.int .i64 fr) := FR.out.cell 0 1 rfl rfl rfl
      have c10 : v4.cell? ⟨q + 1, 0, none⟩ = some (.int .i64 hd) := FR.out.cell 1 0 rfl rfl rfl
      have c11 : v4.cell? ⟨q + 1, 1, none⟩ = some (.int .i64 tl) := FR.out.cell 1 1 rfl rfl rfl
      have c20 : v4.cell? ⟨q + 2, 0, none⟩ = some (.slice none 0 0) := FR.out.cell 2 0 rfl rfl rfl
      have c21 : v4.cell? ⟨q + 2, 1, none⟩ = some (.int .i64 0) := FR.out.cell 2 1 rfl rfl rfl
      have c30 : v4.cell? ⟨q + 3, 0, none⟩ = some (.int .i64 0) := FR.out.cell 3 0 rfl rfl rfl
      have c31 : v4.cell? ⟨q + 3, 1, none⟩ = some (.int .i64 0) := FR.out.cell 3 1 rfl rfl rfl
      go_wp2_with fail
      refine (R1.out).mono ?_
      rintro e w5 ⟨rfl, hb⟩
      clear c00 c01 c10 c11 c20 c21 c30 c31
      replace FR := Lib.hid (FR.out.step hb)
      clear hb
      have FR0 := FR.out.sz
      simp only [List.length_cons, List.length_nil] at FR0
      have c00 : w5.cell? ⟨q, 0, none⟩ = some (.slice A n c) := FR.out.cell 0 0 rfl rfl rfl
      have c01 : w5.cell? ⟨q, 1, none⟩ = some (.int .i64 fr) := FR.out.cell 0 1 rfl rfl rfl
      have c10 : w5.cell? ⟨q + 1, 0, none⟩ = some (.int .i64 hd) := FR.out.cell 1 0 rfl rfl rfl
      have c11 : w5.cell? ⟨q + 1, 1, none⟩ = some (.int .i64 tl) := FR.out.cell 1 1 rfl rfl rfl
      have c20 : w5.cell? ⟨q + 2, 0, none⟩ = some (.slice none 0 0) := FR.out.cell 2 0 rfl rfl rfl
      have c21 : w5.cell? ⟨q + 2, 1, none⟩ = some (.int .i64 0) := FR.out.cell 2 1 rfl rfl rfl
      have c30 : w5.cell? ⟨q + 3, 0, none⟩ = some (.int .i64 0) := FR.out.cell 3 0 rfl rfl rfl
      have c31 : w5.cell? ⟨q + 3, 1, none⟩ = some (.int .i64 0) := FR.out.cell 3 1 rfl rfl rfl
      go_wp2_with fail
      refine ((T1.out _ (FR.out.es RX.out))).mono ?_
      rintro e w6 ⟨B, m, d, rfl, hown, hb⟩
      clear c00 c01 c10 c11 c20 c21 c30 c31
      replace FR := Lib.hid (FR.out.step hb)
      clear hb
      have OW := Lib.hid (own_base hown FR0)
      clear hown FR0
      have gex := FR.out.sz
      simp only [List.length_cons, List.length_nil] at gex
      obtain ⟨w7, hw7⟩ : ∃ W, w6.alloc (.cells #[.slice B m d, .int .i64 fx] 24) = W := ⟨_, rfl⟩
      have hb : Below w6.heap.size w6 w7 := hw7 ▸ (Below.refl _ _).alloc (Nat.le_refl _) _
      have hv : w7.heap[w6.heap.size]? = some (.cells #[.slice B m d, .int .i64 fx] 24) := hw7 ▸ heap_alloc_new _ _
      replace FR := Lib.hid (FR.out.step hb)
      replace OW := Lib.hid (own_below OW.out hb)
      have Vx := Lib.hid hv
      generalize hsx : w6.heap.size = sx at *
      clear hb hv
      have nz02 : sx ≠ q + 2 := by omega
      have nz03 : sx ≠ q + 3 := by omega
      have nz12 : q + 1 ≠ q + 2 := by omega
      have nz13 : q + 1 ≠ q + 3 := by omega
      have c20 : w7.cell? ⟨q + 2, 0, none⟩ = some (.slice none 0 0) := FR.out.cell 2 0 rfl rfl rfl
      have f20 : w7.frozen? ⟨q + 2, 0, none⟩ = false := FR.out.frozen 2 0 rfl rfl
      have c21 : w7.cell? ⟨q + 2, 1, none⟩ = some (.int .i64 0) := FR.out.cell 2 1 rfl rfl rfl
      have f21 : w7.frozen? ⟨q + 2, 1, none⟩ = false := FR.out.frozen 2 1 rfl rfl
      have c30 : w7.cell? ⟨q + 3, 0, none⟩ = some (.int .i64 0) := FR.out.cell 3 0 rfl rfl rfl
      have f30 : w7.frozen? ⟨q + 3, 0, none⟩ = false := FR.out.frozen 3 0 rfl rfl
      have c31 : w7.cell? ⟨q + 3, 1, none⟩ = some (.int .i64 0) := FR.out.cell 3 1 rfl rfl rfl
      have f31 : w7.frozen? ⟨q + 3, 1, none⟩ = false := FR.out.frozen 3 1 rfl rfl
      have cx0 : w7.cell? ⟨sx, 0, none⟩ = some (.slice B m d) := (blk_cell Vx.out 0).trans rfl
      have fx0 : w7.frozen? ⟨sx, 0, none⟩ = false := blk_frozen Vx.out 0
      have cx1 : w7.cell? ⟨sx, 1, none⟩ = some (.int .i64 fx) := (blk_cell Vx.out 1).trans rfl
      have fx1 : w7.frozen? ⟨sx, 1, none⟩ = false := blk_frozen Vx.out 1
      go_wp2
      refine wp_region_noPanic ?_
      refine wp_region_held_drew (S := (fun wv => Hid (wv.heap[sx]? = some (.cells #[.slice B m d, .int .i64 fx] 24) ∧ wv.heap[q + 1]? = some (.cells #[.int .i64 hd, .int .i64 tl] 26) ∧ Below q w wv))) (by kernel_rfl) (Lib.hid ⟨Vx.out, FR.out.blk 1 _ rfl, FR.out.bel.drew⟩) (fun hS => ?_)
      refine wpAnyH_take (i := 0) (oi := ⟨some 33, .load 24 (.tmp 13), 24, "queue.go:39", #[], none⟩) (v := .agg (([.slice B m d, .int .i64 fx] : List Value)).toArray) rfl (by kernel_rfl) (by kernel_rfl) (by kernel_rfl) (fun _ _ _ h => h) (yieldsIf_load_mid (by rfl) _ _ (by rfl) (sx) 0 (by rfl) (([.slice B m d, .int .i64 fx] : List Value)) _ (fun wv hS => blk_rngl hS.out.1) Try.underlying24 (by rfl) (by kernel_rfl)) hS ?_
      try simp only [Act.put, List.setIfInBounds_toArray, List.set_cons_zero, List.set_cons_succ]
      refine wpAnyH_take (i := 1) (oi := ⟨some 34, .load 26 (.tmp 6), 26, "queue.go:39", #[⟨3, .gcOnly .lateStores⟩], none⟩) (v := .agg (([.int .i64 hd, .int .i64 tl] : List Value)).toArray) rfl (by kernel_rfl) (by kernel_rfl) (by kernel_rfl) (fun _ _ _ h => h) (yieldsIf_load_mid (by rfl) _ _ (by rfl) (q + 1) 0 (by rfl) (([.int .i64 hd, .int .i64 tl] : List Value)) _ (fun wv hS => blk_rngl hS.out.2.1) Try.underlying26 (by rfl) (by kernel_rfl)) hS ?_
      try simp only [Act.put, List.setIfInBounds_toArray, List.set_cons_zero, List.set_cons_succ]
      refine wpAnyH_take (i := 2) (oi := ⟨some 35, .move (.tmp 15), 29, "queue.go:39", #[⟨4, .gcOnly .lateStores⟩], none⟩) (v := ?_) rfl (by kernel_rfl) (by kernel_rfl) (by kernel_rfl) (fun _ _ _ h => h) (Or.inl ⟨by rfl, ?_⟩) hS ?_
      rotate_left
      · intro wv _; go_simp; try with_reducible rfl
      try simp only [Act.put, List.setIfInBounds_toArray, List.set_cons_zero, List.set_cons_succ]
      refine wpAnyH_ready (rs := [3]) (by kernel_rfl) (by simp) (AllReadyH.cons (o := ⟨none, .store 24 (.tmp 10) (.tmp 33), 0, "queue.go:39", #[⟨0, .data⟩, ⟨0, .phase⟩, ⟨1, .textOnly .lateStores⟩, ⟨2, .textOnly .lateStores⟩], none⟩) rfl (fun K hK => ?_) AllReadyH.nil)
      go_simp
      replace hS := Lib.hid (And.intro (keep_pair hS.out.1 nz02 (.slice B m d) (.int .i64 fx)) (And.intro (keep_pair hS.out.2.1 nz12 (.slice B m d) (.int .i64 fx)) (bel_pair hS.out.2.2 (show q ≤ q + 2 by omega) (.slice B m d) (.int .i64 fx))))
      refine Shut.out hK _ _ hS (fun _ => ?_)
      clear hK K
      try simp only [Act.put, List.setIfInBounds_toArray, List.set_cons_zero, List.set_cons_succ]
      refine wpAnyH_ready (rs := [4]) (by kernel_rfl) (by simp) (AllReadyH.cons (o := ⟨none, .store 26 (.tmp 11) (.tmp 34), 0, "queue.go:39", #[⟨1, .data⟩, ⟨3, .chain⟩, ⟨0, .phase⟩, ⟨1, .phase⟩, ⟨2, .textOnly .lateStores⟩, ⟨3, .phase⟩], none⟩) rfl (fun K hK => ?_) AllReadyH.nil)
      go_simp
      replace hS := Lib.hid (And.intro (keep_pair hS.out.1 nz03 (.int .i64 hd) (.int .i64 tl)) (And.intro (keep_pair hS.out.2.1 nz13 (.int .i64 hd) (.int .i64 tl)) (bel_pair hS.out.2.2 (show q ≤ q + 3 by omega) (.int .i64 hd) (.int .i64 tl))))
      refine Shut.out hK _ _ hS (fun _ => ?_)
      clear hK K
      try simp only [Act.put, List.setIfInBounds_toArray, List.set_cons_zero, List.set_cons_succ]
      refine wpAnyH_take (i := 5) (oi := ⟨some 12, .assign (.tmp 35), 29, "queue.go:39", #[⟨2, .data⟩, ⟨4, .chain⟩, ⟨0, .phase⟩, ⟨1, .phase⟩, ⟨2, .phase⟩, ⟨3, .phase⟩, ⟨4, .phase⟩], none⟩) (v := ?_) rfl (by kernel_rfl) (by kernel_rfl) (by kernel_rfl) (fun _ _ _ h => h) (Or.inl ⟨by rfl, ?_⟩) hS ?_
      rotate_left
      · intro wv _; go_simp; try with_reducible rfl
      try simp only [Act.put, List.setIfInBounds_toArray, List.set_cons_zero, List.set_cons_succ]
      refine wpAnyH_done (by kernel_rfl) ?_ _
      refine NoPanic.normal ?_
      go_wp2
      have FZ : Fr w (((((w7.setCell ⟨q + 2, 0, none⟩ (.slice B m d)).setCell ⟨q + 2, 1, none⟩ (.int .i64 fx)).setCell ⟨q + 3, 0, none⟩ (.int .i64 hd)).setCell ⟨q + 3, 1, none⟩ (.int .i64 tl))).drew q [.cells #[.slice A n c, .int .i64 fr] 24, .cells #[.int .i64 hd, .int .i64 tl] 26, .cells #[.slice B m d, .int .i64 fx] 24, .cells #[.int .i64 hd, .int .i64 tl] 26] := (((((FR.out.set 2 0 rfl rfl (.slice B m d)).set 2 1 rfl rfl (.int .i64 fx)).set 3 0 rfl rfl (.int .i64 hd)).set 3 1 rfl rfl (.int .i64 tl))).drew
      refine bodyPost_ret (res_ccs Try.results21 (by rfl) (by rfl) (FZ.load 2 rfl rfl Try.underlying24 (by kernel_rfl)) (FZ.load 3 rfl rfl Try.underlying26 (by kernel_rfl))) rfl ?_
      rw [HE.out]
      exact ⟨_, _, _, rfl, own_base (own_apart (own_apart (own_apart (own_apart (OW.out) (k := q + 2) (o := 0) (u := .slice B m d) (by omega)) (k := q + 2) (o := 1) (u := .int .i64 fx) (by omega)) (k := q + 3) (o := 0) (u := .int .i64 hd) (by omega)) (k := q + 3) (o := 1) (u := .int .i64 tl) (by omega)) (by rw [hq]; omega), FZ.out⟩
end Go.Proofs.Ytombfempdfdeoaa
