/- What the document's own Push of layer 8 answers; for slices of up to 16384 records. -/
import Derived.Test.YtombfempdfdeoaaQueC
namespace Go.Proofs.Ytombfempdfdeoaa
set_option linter.unusedVariables false
set_option linter.unusedSimpArgs false
open Go.RowKit
def QPost (w : World) (A : Option Addr) (n c : Nat) (r : Aren × Qu × Int) (e : Ending) (w' : World) : Prop :=
  ∃ B m d, e = .returned (.tuple #[.agg #[.slice B m d, .int .i64 r.1.2], .agg #[.int .i64 r.2.1.1, .int .i64 r.2.1.2], .int .i64 r.2.2]) ∧ Rs w' B m d r.1.1 ∧ Below w.heap.size w w' ∧ (r.2.2 = 0 → w'.ownsRow w.heap.size 55 3 (.slice B m d) m (recC r.1.1)) ∧ (r.2.2 ≠ 0 → Value.slice B m d = .slice A n c)
theorem qRight_right {p : Aren} {q : Qu} (h : qRight p q = true) : rightS p = true := by
  cases hr : rightS p with
  | true => rfl
  | false => unfold qRight at h; rw [qPl_wrong hr] at h; cases h
theorem right_small {p : Aren} (h : rightS p = true) : p.1.length ≤ 64 := (right_iff.1 h).1
theorem take_place {p : Aren} {k t : Int} (h : (arTake p k t).2.2 = 0) : 0 ≤ (arTake p k t).2.1 ∧ (arTake p k t).2.1 < (p.1.length : Int) ∧ (arTake p k t).1.1.length = p.1.length := by
  unfold arTake at h ⊢
  by_cases h1 : rightS p = false ∨ k < 0 ∨ t < 0
  · rw [if_pos h1] at h; simp at h
  · rw [if_neg h1] at h ⊢
    by_cases h2 : p.2 = -1
    · rw [if_pos h2] at h; simp at h
    · rw [if_neg h2]
      have hr : rightS p = true := by
        cases hr : rightS p with
        | true => rfl
        | false => exact absurd (Or.inl hr) h1
      obtain ⟨l, hk⟩ := Ok.of hr
      have hc := hk.chain
      cases l with
      | nil => exact absurd hc h2
      | cons x l => obtain ⟨e, g0, g1, _⟩ := hc; simp only [List.length_set]; exact ⟨by omega, by omega, trivial⟩
theorem places_app {n : Nat} {l : List Int} {i : Int} (h : Places n l) (h0 : 0 ≤ i) (h1 : i < (n : Int)) : (∀ x ∈ i :: l, 0 ≤ x ∧ x < (n : Int)) ∧ (∀ x ∈ l ++ [i], 0 ≤ x ∧ x < (n : Int)) := by
  constructor
  · intro x hx
    rcases List.mem_cons.1 hx with rfl | hx
    · exact ⟨h0, h1⟩
    · exact h.2 x hx
  · intro x hx
    rcases List.mem_append.1 hx with hx | hx
    · exact h.2 x hx
    · simp at hx; subst hx; exact ⟨h0, h1⟩
set_option maxRecDepth 100000 in
set_option maxHeartbeats 8000000 in
theorem refQPush_any (A : Option Addr) (n c : Nat) (rs : List Rec3) (fr hd tl key task : Int) (front : Bool) (w : World) (hx : Rs w A n c rs) (hn : n ≤ 16384) :
    Calls Try.prog 22 #[.agg #[.slice A n c, .int .i64 fr], .agg #[.int .i64 hd, .int .i64 tl], .int .i64 key, .int .i64 task, .bool front] w (QPost w A n c (qPush (rs, fr) (hd, tl) key task front)) := by
  have HL2 := Lib.hid hx.len
  have RX := Lib.hid hx
  have RI := Lib.hid (fun (W : World) (h : Rs W A n c rs) => refQRight_any A n c rs fr hd tl W h hn)
  have PL := Lib.hid (fun (W : World) (h : Rs W A n c rs) => refQPlaces_own A n c rs fr hd tl W h hn)
  have TK := Lib.hid (fun (W : World) (h : Rs W A n c rs) => refTake_own A n c rs fr key task W h hn)
  obtain ⟨R, hR⟩ : ∃ R, qPush (rs, fr) (hd, tl) key task front = R := ⟨_, rfl⟩
  have HR := Lib.hid hR
  rw [hR]
  clear hx hR
  obtain ⟨v1, hv1⟩ : ∃ W, w.alloc (.cells #[.slice A n c, .int .i64 fr] 24) = W := ⟨_, rfl⟩
  have fr1 : Fr w v1 w.heap.size [.cells #[.slice A n c, .int .i64 fr] 24] := hv1 ▸ Fr.first w _
  have z1 : v1.heap.size = w.heap.size + 1 := by rw [← hv1, Fr.size1]
  obtain ⟨v2, hv2⟩ : ∃ W, v1.alloc (.cells #[.int .i64 hd, .int .i64 tl] 26) = W := ⟨_, rfl⟩
  have fr2 : Fr w v2 w.heap.size [.cells #[.slice A n c, .int .i64 fr] 24, .cells #[.int .i64 hd, .int .i64 tl] 26] := hv2 ▸ fr1.more z1 _
  have z2 : v2.heap.size = w.heap.size + 2 := by rw [← hv2, Fr.size1, z1]
  obtain ⟨v3, hv3⟩ : ∃ W, v2.alloc (.cells #[.slice none 0 0, .int .i64 0] 24) = W := ⟨_, rfl⟩
  have fr3 : Fr w v3 w.heap.size [.cells #[.slice A n c, .int .i64 fr] 24, .cells #[.int .i64 hd, .int .i64 tl] 26, .cells #[.slice none 0 0, .int .i64 0] 24] := hv3 ▸ fr2.more z2 _
  have z3 : v3.heap.size = w.heap.size + 3 := by rw [← hv3, Fr.size1, z2]
  obtain ⟨v4, hv4⟩ : ∃ W, v3.alloc (.cells #[.int .i64 0, .int .i64 0] 26) = W := ⟨_, rfl⟩
  have fr4 : Fr w v4 w.heap.size [.cells #[.slice A n c, .int .i64 fr] 24, .cells #[.int .i64 hd, .int .i64 tl] 26, .cells #[.slice none 0 0, .int .i64 0] 24, .cells #[.int .i64 0, .int .i64 0] 26] := hv4 ▸ fr3.more z3 _
  have z4 : v4.heap.size = w.heap.size + 4 := by rw [← hv4, Fr.size1, z3]
  generalize hq : w.heap.size = q at *
  have FR := Lib.hid fr4
  clear fr1 fr2 fr3 fr4
  have R1 := RI.out _ (FR.out.es RX.out)
  cases hr : qRight (rs, fr) (hd, tl)
  · have HE := Lib.hid (show R = ((rs, fr), (hd, tl), 1) by rw [← HR.out]; unfold qPush; rw [if_pos hr])
    rw [hr] at R1
    replace R1 := Lib.hid R1
    clear hr
    go_enter Try.func22, Try.ntmps22
    have c00 : v4.cell? ⟨q, 0, none⟩ = some (.slice A n c) := FR.out.cell 0 0 rfl rfl rfl
    have c01 : v4.cell? ⟨q, 1, none⟩ = some (.int .i64 fr) := FR.out.cell 0 1 rfl rfl rfl
    have c10 : v4.cell? ⟨q + 1, 0, none⟩ = some (.int .i64 hd) := FR.out.cell 1 0 rfl rfl rfl
    have c11 : v4.cell? ⟨q + 1, 1, none⟩ = some (.int .i64 tl) := FR.out.cell 1 1 rfl rfl rfl
    have c20 : v4.cell? ⟨q + 2, 0, none⟩ = some (.slice none 0 0) := FR.out.cell 2 0 rfl rfl rfl
    have c21 : v4.cell? ⟨q + 2, 1, none⟩ = some (.int .i64 0) := FR.out.cell 2 1 rfl rfl rfl
    have c30 : v4.cell? ⟨q + 3, 0, none⟩ = some (.int .i64 0) := FR.out.cell 3 0 rfl rfl rfl
    have c31 : v4.cell? ⟨q + 3, 1, none⟩ = some (.int .i64 0) := FR.out.cell 3 1 rfl rfl rfl
    go_wp2_with fail
    refine (R1.out).mono ?_
    rintro e w5 ⟨rfl, hb⟩
    clear c00 c01 c10 c11 c20 c21 c30 c31
    replace FR := Lib.hid (FR.out.step hb)
    clear hb
    have nz02 : q ≠ q + 2 := by omega
    have nz03 : q ≠ q + 3 := by omega
    have nz12 : q + 1 ≠ q + 2 := by omega
    have nz13 : q + 1 ≠ q + 3 := by omega
    have c20 : w5.cell? ⟨q + 2, 0, none⟩ = some (.slice none 0 0) := FR.out.cell 2 0 rfl rfl rfl
    have f20 : w5.frozen? ⟨q + 2, 0, none⟩ = false := FR.out.frozen 2 0 rfl rfl
    have c21 : w5.cell? ⟨q + 2, 1, none⟩ = some (.int .i64 0) := FR.out.cell 2 1 rfl rfl rfl
    have f21 : w5.frozen? ⟨q + 2, 1, none⟩ = false := FR.out.frozen 2 1 rfl rfl
    have c30 : w5.cell? ⟨q + 3, 0, none⟩ = some (.int .i64 0) := FR.out.cell 3 0 rfl rfl rfl
    have f30 : w5.frozen? ⟨q + 3, 0, none⟩ = false := FR.out.frozen 3 0 rfl rfl
    have c31 : w5.cell? ⟨q + 3, 1, none⟩ = some (.int .i64 0) := FR.out.cell 3 1 rfl rfl rfl
    have f31 : w5.frozen? ⟨q + 3, 1, none⟩ = false := FR.out.frozen 3 1 rfl rfl
    go_wp2
    refine wp_region_noPanic ?_
    refine wp_region_held_drew (S := (fun wv => Hid (wv.heap[q]? = some (.cells #[.slice A n c, .int .i64 fr] 24) ∧ wv.heap[q + 1]? = some (.cells #[.int .i64 hd, .int .i64 tl] 26) ∧ Below q w wv))) (by kernel_rfl) (Lib.hid ⟨FR.out.blk 0 _ rfl, FR.out.blk 1 _ rfl, FR.out.bel.drew⟩) (fun hS => ?_)
    refine wpAnyH_take (i := 0) (oi := ⟨some 23, .load 24 (.tmp 5), 24, "ref.go:70", #[], none⟩) (v := .agg (([.slice A n c, .int .i64 fr] : List Value)).toArray) rfl (by kernel_rfl) (by kernel_rfl) (by kernel_rfl) (fun _ _ _ h => h) (yieldsIf_load_mid (by rfl) _ _ (by rfl) (q) 0 (by rfl) (([.slice A n c, .int .i64 fr] : List Value)) _ (fun wv hS => blk_rngl hS.out.1) Try.underlying24 (by rfl) (by kernel_rfl)) hS ?_
    try simp only [Act.put, List.setIfInBounds_toArray, List.set_cons_zero, List.set_cons_succ]
    refine wpAnyH_take (i := 1) (oi := ⟨some 24, .load 26 (.tmp 6), 26, "ref.go:70", #[⟨2, .gcOnly .lateStores⟩], none⟩) (v := .agg (([.int .i64 hd, .int .i64 tl] : List Value)).toArray) rfl (by kernel_rfl) (by kernel_rfl) (by kernel_rfl) (fun _ _ _ h => h) (yieldsIf_load_mid (by rfl) _ _ (by rfl) (q + 1) 0 (by rfl) (([.int .i64 hd, .int .i64 tl] : List Value)) _ (fun wv hS => blk_rngl hS.out.2.1) Try.underlying26 (by rfl) (by kernel_rfl)) hS ?_
    try simp only [Act.put, List.setIfInBounds_toArray, List.set_cons_zero, List.set_cons_succ]
    refine wpAnyH_ready (rs := [2]) (by kernel_rfl) (by simp) (AllReadyH.cons (o := ⟨none, .store 24 (.tmp 10) (.tmp 23), 0, "ref.go:70", #[⟨0, .data⟩, ⟨0, .phase⟩, ⟨1, .textOnly .lateStores⟩], none⟩) rfl (fun K hK => ?_) AllReadyH.nil)
    go_simp
    replace hS := Lib.hid (And.intro (keep_pair hS.out.1 nz02 (.slice A n c) (.int .i64 fr)) (And.intro (keep_pair hS.out.2.1 nz12 (.slice A n c) (.int .i64 fr)) (bel_pair hS.out.2.2 (show q ≤ q + 2 by omega) (.slice A n c) (.int .i64 fr))))
    refine Shut.out hK _ _ hS (fun _ => ?_)
    clear hK K
    try simp only [Act.put, List.setIfInBounds_toArray, List.set_cons_zero, List.set_cons_succ]
    refine wpAnyH_ready (rs := [3]) (by kernel_rfl) (by simp) (AllReadyH.cons (o := ⟨none, .store 26 (.tmp 11) (.tmp 24), 0, "ref.go:70", #[⟨1, .data⟩, ⟨2, .chain⟩, ⟨0, .phase⟩, ⟨1, .phase⟩, ⟨2, .phase⟩], none⟩) rfl (fun K hK => ?_) AllReadyH.nil)
    go_simp
    replace hS := Lib.hid (And.intro (keep_pair hS.out.1 nz03 (.int .i64 hd) (.int .i64 tl)) (And.intro (keep_pair hS.out.2.1 nz13 (.int .i64 hd) (.int .i64 tl)) (bel_pair hS.out.2.2 (show q ≤ q + 3 by omega) (.int .i64 hd) (.int .i64 tl))))
    refine Shut.out hK _ _ hS (fun _ => ?_)
    clear hK K
    try simp only [Act.put, List.setIfInBounds_toArray, List.set_cons_zero, List.set_cons_succ]
    refine wpAnyH_take (i := 4) (oi := ⟨some 12, .assign (.const (Value.int IntKind.i64 1)), 29, "ref.go:70", #[⟨3, .chain⟩, ⟨0, .phase⟩, ⟨1, .phase⟩, ⟨2, .phase⟩, ⟨3, .phase⟩], none⟩) (v := ?_) rfl (by kernel_rfl) (by kernel_rfl) (by kernel_rfl) (fun _ _ _ h => h) (Or.inl ⟨by rfl, ?_⟩) hS ?_
    rotate_left
    · intro wv _; go_simp; try with_reducible rfl
    try simp only [Act.put, List.setIfInBounds_toArray, List.set_cons_zero, List.set_cons_succ]
    refine wpAnyH_done (by kernel_rfl) ?_ _
    refine NoPanic.normal ?_
    go_wp2
    have FZ : Fr w (((((w5.setCell ⟨q + 2, 0, none⟩ (.slice A n c)).setCell ⟨q + 2, 1, none⟩ (.int .i64 fr)).setCell ⟨q + 3, 0, none⟩ (.int .i64 hd)).setCell ⟨q + 3, 1, none⟩ (.int .i64 tl))).drew q [.cells #[.slice A n c, .int .i64 fr] 24, .cells #[.int .i64 hd, .int .i64 tl] 26, .cells #[.slice A n c, .int .i64 fr] 24, .cells #[.int .i64 hd, .int .i64 tl] 26] := (((((FR.out.set 2 0 rfl rfl (.slice A n c)).set 2 1 rfl rfl (.int .i64 fr)).set 3 0 rfl rfl (.int .i64 hd)).set 3 1 rfl rfl (.int .i64 tl))).drew
    refine bodyPost_ret (res_ccs Try.results22 (by rfl) (by rfl) (FZ.load 2 rfl rfl Try.underlying24 (by kernel_rfl)) (FZ.load 3 rfl rfl Try.underlying26 (by kernel_rfl))) rfl ?_
    rw [HE.out]
    exact ⟨_, _, _, rfl, FZ.es RX.out, FZ.out, fun h => by simp at h, fun _ => rfl⟩
  · rw [hr] at R1
    replace R1 := Lib.hid R1
    have hsm : n ≤ 64 := by have := right_small (qRight_right hr); rw [← HL2.out]; exact this
    have T1 := fun (W : World) (h : Rs W A n c rs) => TK.out W h
    have HPL := qPlaces_places (rs, fr) (hd, tl)
    have hpn := HPL.len
    simp only [HL2.out] at HPL hpn
    have hE : R = if (arTake (rs, fr) key task).2.2 ≠ 0 then ((rs, fr), (hd, tl), (arTake (rs, fr) key task).2.2) else ((laidR (arTake (rs, fr) key task).1.1 (if front = true then (arTake (rs, fr) key task).2.1 :: qPlaces (rs, fr) (hd, tl) else qPlaces (rs, fr) (hd, tl) ++ [(arTake (rs, fr) key task).2.1]), (arTake (rs, fr) key task).1.2), laidQ (if front = true then (arTake (rs, fr) key task).2.1 :: qPlaces (rs, fr) (hd, tl) else qPlaces (rs, fr) (hd, tl) ++ [(arTake (rs, fr) key task).2.1]), 0) := by rw [← HR.out]; unfold qPush; rw [if_neg (by rw [hr]; simp)]
    have tp := @take_place (rs, fr) key task
    simp only [HL2.out] at tp
    obtain ⟨rx, fx, ix, ex, hX⟩ : ∃ rx fx ix ex, arTake (rs, fr) key task = ((rx, fx), ix, ex) := ⟨_, _, _, _, rfl⟩
    obtain ⟨pl, hpl⟩ : ∃ pl, qPlaces (rs, fr) (hd, tl) = pl := ⟨_, rfl⟩
    have P1 := fun (W : World) (h : Rs W A n c rs) => PL.out W h
    rw [hX] at T1 hE tp
    rw [hpl] at P1 hE HPL hpn
    simp only at hE tp
    replace T1 : ∀ (W : World), Rs W A n c rs → Calls Try.prog 35 #[.agg #[.slice A n c, .int .i64 fr], .int .i64 key, .int .i64 task] W (TakeOwn W ((rx, fx), ix, ex)) := T1
    replace T1 := Lib.hid T1
    replace P1 := Lib.hid P1
    have HPLS := Lib.hid HPL
    clear hr hX hpl HPL TK PL RI
    by_cases he0 : ex = 0
    · obtain ⟨t0, t1, t2⟩ := tp he0
      have b1 : (ex != 0) = false := by simp [he0]
      rw [if_neg (by simp [he0])] at hE
      obtain ⟨pa, pb⟩ := places_app HPLS.out t0 t1
      have HE0 := Lib.hid he0
      have HPA := Lib.hid pa; have HPB := Lib.hid pb; have HLX := Lib.hid t2
      clear tp pa pb t0 t1 t2 he0
      have LD := Lib.hid (fun (B : Option Addr) (m d : Nat) (C : Option Addr) (k c2 : Nat) (l : List Int) (W : World) (h : Rs W B m d rx) (hi : Is W C k c2 l) (hp : ∀ x ∈ l, 0 ≤ x ∧ x < (n : Int)) (hk : k ≤ 70) => refLaid_any B m d rx fx C k c2 l W h hi (by have := h.len; rw [HLX.out] at this; rw [← this]; exact hp) (by have := h.len; rw [HLX.out] at this; omega) (by omega))
      obtain ⟨i5, hi5, hz0, hz1, hz2⟩ := info_of infoInt
      cases front
      · rw [if_neg (by simp : ¬ false = true)] at hE
        have HE := Lib.hid hE
        clear hE
        go_enter Try.func22, Try.ntmps22
        have c00 : v4.cell? ⟨q, 0, none⟩ = some (.slice A n c) := FR.out.cell 0 0 rfl rfl rfl
        have c01 : v4.cell? ⟨q, 1, none⟩ = some (.int .i64 fr) := FR.out.cell 0 1 rfl rfl rfl
        have c10 : v4.cell? ⟨q + 1, 0, none⟩ = some (.int .i64 hd) := FR.out.cell 1 0 rfl rfl rfl
        have c11 : v4.cell? ⟨q + 1, 1, none⟩ = some (.int .i64 tl) := FR.out.cell 1 1 rfl rfl rfl
        have c20 : v4.cell? ⟨q + 2, 0, none⟩ = some (.slice none 0 0) := FR.out.cell 2 0 rfl rfl rfl
        have c21 : v4.cell? ⟨q + 2, 1, none⟩ = some (.int .i64 0) := FR.out.cell 2 1 rfl rfl rfl
        have c30 : v4.cell? ⟨q + 3, 0, none⟩ = some (.int .i64 0) := FR.out.cell 3 0 rfl rfl rfl
        have c31 : v4.cell? ⟨q + 3, 1, none⟩ = some (.int .i64 0) := FR.out.cell 3 1 rfl rfl rfl
        go_wp2_with fail
        refine (R1.out).mono ?_
        rintro e w5 ⟨rfl, hb⟩
        clear c00 c01 c10 c11 c20 c21 c30 c31
        replace FR := Lib.hid (FR.out.step hb)
        clear hb
        have hq4 := FR.out.sz
        simp only [List.length_cons, List.length_nil] at hq4
        have c00 : w5.cell? ⟨q, 0, none⟩ = some (.slice A n c) := FR.out.cell 0 0 rfl rfl rfl
        have c01 : w5.cell? ⟨q, 1, none⟩ = some (.int .i64 fr) := FR.out.cell 0 1 rfl rfl rfl
        have c10 : w5.cell? ⟨q + 1, 0, none⟩ = some (.int .i64 hd) := FR.out.cell 1 0 rfl rfl rfl
        have c11 : w5.cell? ⟨q + 1, 1, none⟩ = some (.int .i64 tl) := FR.out.cell 1 1 rfl rfl rfl
        have c20 : w5.cell? ⟨q + 2, 0, none⟩ = some (.slice none 0 0) := FR.out.cell 2 0 rfl rfl rfl
        have c21 : w5.cell? ⟨q + 2, 1, none⟩ = some (.int .i64 0) := FR.out.cell 2 1 rfl rfl rfl
        have c30 : w5.cell? ⟨q + 3, 0, none⟩ = some (.int .i64 0) := FR.out.cell 3 0 rfl rfl rfl
        have c31 : w5.cell? ⟨q + 3, 1, none⟩ = some (.int .i64 0) := FR.out.cell 3 1 rfl rfl rfl
        go_wp2_with fail
        refine ((P1.out _ (FR.out.es RX.out))).mono ?_
        rintro e w6 ⟨C, k, c2, rfl, hown, hb⟩
        clear c00 c01 c10 c11 c20 c21 c30 c31
        replace FR := Lib.hid (FR.out.step hb)
        have h34 : w5.heap.size ≤ w6.heap.size := hb.size
        clear hb
        have OC := Lib.hid hown
        have hpk : pl.length = k := by have := hown.1; rw [intC_len] at this; omega
        have LC : ∀ j, (Value.slice C k c2).ownBlock = some j → q + 4 ≤ j ∧ j < w6.heap.size := fun j h => by have := hown.lt j h; exact ⟨by omega, this.2⟩
        clear hown
        have c00 : w6.cell? ⟨q, 0, none⟩ = some (.slice A n c) := FR.out.cell 0 0 rfl rfl rfl
        have c01 : w6.cell? ⟨q, 1, none⟩ = some (.int .i64 fr) := FR.out.cell 0 1 rfl rfl rfl
        have c10 : w6.cell? ⟨q + 1, 0, none⟩ = some (.int .i64 hd) := FR.out.cell 1 0 rfl rfl rfl
        have c11 : w6.cell? ⟨q + 1, 1, none⟩ = some (.int .i64 tl) := FR.out.cell 1 1 rfl rfl rfl
        have c20 : w6.cell? ⟨q + 2, 0, none⟩ = some (.slice none 0 0) := FR.out.cell 2 0 rfl rfl rfl
        have c21 : w6.cell? ⟨q + 2, 1, none⟩ = some (.int .i64 0) := FR.out.cell 2 1 rfl rfl rfl
        have c30 : w6.cell? ⟨q + 3, 0, none⟩ = some (.int .i64 0) := FR.out.cell 3 0 rfl rfl rfl
        have c31 : w6.cell? ⟨q + 3, 1, none⟩ = some (.int .i64 0) := FR.out.cell 3 1 rfl rfl rfl
        go_wp2_with fail
        refine ((T1.out _ (FR.out.es RX.out))).mono ?_
        rintro e w7 ⟨B, m, d, rfl, hrs, hb, hown⟩
        clear c00 c01 c10 c11 c20 c21 c30 c31
        replace FR := Lib.hid (FR.out.step hb)
        replace OC := Lib.hid (own_below OC.out hb)
        have OB := Lib.hid (hown HE0.out)
        have h45 : w6.heap.size ≤ w7.heap.size := hb.size
        clear hrs hb hown
        have gex := FR.out.sz
        simp only [List.length_cons, List.length_nil] at gex
        obtain ⟨w8, hw8⟩ : ∃ W, w7.alloc (.cells #[.slice B m d, .int .i64 fx] 24) = W := ⟨_, rfl⟩
        have hb : Below w7.heap.size w7 w8 := hw8 ▸ (Below.refl _ _).alloc (Nat.le_refl _) _
        have hv : w8.heap[w7.heap.size]? = some (.cells #[.slice B m d, .int .i64 fx] 24) := hw8 ▸ heap_alloc_new _ _
        replace FR := Lib.hid (FR.out.step hb)
        replace OC := Lib.hid (own_below OC.out hb)
        replace OB := Lib.hid (own_below OB.out hb)
        have Vx := Lib.hid hv
        generalize hsx : w7.heap.size = sx at *
        clear hb hv
        have hbl : Below w8.heap.size w8 (w8.alloc (.cells (intC [ix]).toArray 3)) := (Below.refl _ _).alloc (Nat.le_refl _) _
        replace FR := Lib.hid (FR.out.step hbl)
        replace OC := Lib.hid (own_below OC.out hbl)
        replace OB := Lib.hid (own_below OB.out hbl)
        replace Vx := Lib.hid (blk_below Vx.out hbl (blk_lt Vx.out))
        obtain ⟨A9, c9, w9, hap, own9, hgr⟩ := app_ints (w8.alloc (.cells (intC [ix]).toArray 3)) w5.heap.size _ k pl OC.out _ 1 1 [ix] (is_lit w8 [ix] rfl) (by omega) (by have h1 := blk_lt Vx.out; omega)
        replace FR := Lib.hid (FR.out.grown hgr (fun j hj => by have := LC j hj; simp only [List.length_cons, List.length_nil]; omega))
        replace Vx := Lib.hid (blk_grown Vx.out hgr (fun j hj => by have := LC j hj; omega))
        replace OB := Lib.hid (own_grown OB.out hgr (fun j hj => (LC j hj).2))
        clear hbl hgr OC
        obtain ⟨_, _, he, his9⟩ := Es.of_own own9 (intC_one _)
        injection he with he1 he2 he3; subst he1; subst he3
        have IL := Lib.hid (show Is w9 A9 (k + 1) c9 (pl ++ [ix]) from his9)
        obtain ⟨_, _, he, hrb⟩ := rs_of_own OB.out
        injection he with he1 he2 he3; subst he1; subst he3
        have RB := Lib.hid hrb
        clear own9 his9 hrb OB h45 LC
        have L1 := Lib.hid (LD.out B m d A9 (k + 1) c9 (pl ++ [ix]) w9 RB.out IL.out HPB.out (by omega))
        have c00 : w9.cell? ⟨q, 0, none⟩ = some (.slice A n c) := FR.out.cell 0 0 rfl rfl rfl
        have c01 : w9.cell? ⟨q, 1, none⟩ = some (.int .i64 fr) := FR.out.cell 0 1 rfl rfl rfl
        have c10 : w9.cell? ⟨q + 1, 0, none⟩ = some (.int .i64 hd) := FR.out.cell 1 0 rfl rfl rfl
        have c11 : w9.cell? ⟨q + 1, 1, none⟩ = some (.int .i64 tl) := FR.out.cell 1 1 rfl rfl rfl
        have c20 : w9.cell? ⟨q + 2, 0, none⟩ = some (.slice none 0 0) := FR.out.cell 2 0 rfl rfl rfl
        have c21 : w9.cell? ⟨q + 2, 1, none⟩ = some (.int .i64 0) := FR.out.cell 2 1 rfl rfl rfl
        have c30 : w9.cell? ⟨q + 3, 0, none⟩ = some (.int .i64 0) := FR.out.cell 3 0 rfl rfl rfl
        have c31 : w9.cell? ⟨q + 3, 1, none⟩ = some (.int .i64 0) := FR.out.cell 3 1 rfl rfl rfl
        have cx0 : w9.cell? ⟨sx, 0, none⟩ = some (.slice B m d) := (blk_cell Vx.out 0).trans rfl
        have cx1 : w9.cell? ⟨sx, 1, none⟩ = some (.int .i64 fx) := (blk_cell Vx.out 1).trans rfl
        go_wp2_with (at_builtin; refine eapp_run (by rfl) rfl rfl rfl hap ?_)
        clear c00 c01 c10 c11 c20 c21 c30 c31 cx0 cx1
        have FR9 := FR.out.sz
        simp only [List.length_cons, List.length_nil] at FR9
        refine L1.out.mono ?_
        rintro e wl ⟨B2, m2, d2, rfl, hrs, hb⟩
        replace FR := Lib.hid (FR.out.step hb)
        replace RB := Lib.hid (Es.below RB.out hb)
        replace IL := Lib.hid (Es.below IL.out hb)
        replace Vx := Lib.hid (blk_below Vx.out hb (blk_lt Vx.out))
        have RR := Lib.hid (own_base hrs (show q + 4 ≤ w9.heap.size from by have := FR9; omega))
        clear hb hrs hap L1 RB IL FR9
        have ltxy := blk_lt Vx.out
        have gey := FR.out.sz
        simp only [List.length_cons, List.length_nil] at gey
        obtain ⟨w9, hw9⟩ : ∃ W, (wl.alloc (.cells #[.slice B2 m2 d2, .int .i64 fx] 24)).alloc (.cells #[.int .i64 (laidQ (pl ++ [ix])).1, .int .i64 (laidQ (pl ++ [ix])).2] 26) = W := ⟨_, rfl⟩
        have hb : Below wl.heap.size wl w9 := hw9 ▸ ((Below.refl _ _).alloc (Nat.le_refl _) _).alloc (by simp) _
        have hv : w9.heap[wl.heap.size]? = some (.cells #[.slice B2 m2 d2, .int .i64 fx] 24) := hw9 ▸ (heap_alloc_old _ _ (by simp)).trans (heap_alloc_new _ _)
        have hv2 : w9.heap[wl.heap.size + 1]? = some (.cells #[.int .i64 (laidQ (pl ++ [ix])).1, .int .i64 (laidQ (pl ++ [ix])).2] 26) := by have := heap_alloc_new (wl.alloc (.cells #[.slice B2 m2 d2, .int .i64 fx] 24)) (.cells #[.int .i64 (laidQ (pl ++ [ix])).1, .int .i64 (laidQ (pl ++ [ix])).2] 26); rw [hw9] at this; simpa using this
        replace FR := Lib.hid (FR.out.step hb)
        replace RR := Lib.hid (own_below RR.out hb)
        replace Vx := Lib.hid (blk_below Vx.out hb (blk_lt Vx.out))
        have Vy := Lib.hid hv
        have Vz := Lib.hid hv2
        have nexy := Nat.ne_of_lt ltxy
        generalize hsy : wl.heap.size = sy at *
        clear hb hv hv2 ltxy
        have nz02 : sy ≠ q + 2 := by omega
        have nz03 : sy ≠ q + 3 := by omega
        have nz12 : sy + 1 ≠ q + 2 := by omega
        have nz13 : sy + 1 ≠ q + 3 := by omega
        have c20 : w9.cell? ⟨q + 2, 0, none⟩ = some (.slice none 0 0) := FR.out.cell 2 0 rfl rfl rfl
        have f20 : w9.frozen? ⟨q + 2, 0, none⟩ = false := FR.out.frozen 2 0 rfl rfl
        have c21 : w9.cell? ⟨q + 2, 1, none⟩ = some (.int .i64 0) := FR.out.cell 2 1 rfl rfl rfl
        have f21 : w9.frozen? ⟨q + 2, 1, none⟩ = false := FR.out.frozen 2 1 rfl rfl
        have c30 : w9.cell? ⟨q + 3, 0, none⟩ = some (.int .i64 0) := FR.out.cell 3 0 rfl rfl rfl
        have f30 : w9.frozen? ⟨q + 3, 0, none⟩ = false := FR.out.frozen 3 0 rfl rfl
        have c31 : w9.cell? ⟨q + 3, 1, none⟩ = some (.int .i64 0) := FR.out.cell 3 1 rfl rfl rfl
        have f31 : w9.frozen? ⟨q + 3, 1, none⟩ = false := FR.out.frozen 3 1 rfl rfl
        have cx0 : w9.cell? ⟨sx, 0, none⟩ = some (.slice B m d) := (blk_cell Vx.out 0).trans rfl
        have fx0 : w9.frozen? ⟨sx, 0, none⟩ = false := blk_frozen Vx.out 0
        have cx1 : w9.cell? ⟨sx, 1, none⟩ = some (.int .i64 fx) := (blk_cell Vx.out 1).trans rfl
        have fx1 : w9.frozen? ⟨sx, 1, none⟩ = false := blk_frozen Vx.out 1
        have cy0 : w9.cell? ⟨sy, 0, none⟩ = some (.slice B2 m2 d2) := (blk_cell Vy.out 0).trans rfl
        have fy0 : w9.frozen? ⟨sy, 0, none⟩ = false := blk_frozen Vy.out 0
        have cy1 : w9.cell? ⟨sy, 1, none⟩ = some (.int .i64 fx) := (blk_cell Vy.out 1).trans rfl
        have fy1 : w9.frozen? ⟨sy, 1, none⟩ = false := blk_frozen Vy.out 1
        have cz0 : w9.cell? ⟨sy + 1, 0, none⟩ = some (.int .i64 (laidQ (pl ++ [ix])).1) := (blk_cell Vz.out 0).trans rfl
        have fz0 : w9.frozen? ⟨sy + 1, 0, none⟩ = false := blk_frozen Vz.out 0
        have cz1 : w9.cell? ⟨sy + 1, 1, none⟩ = some (.int .i64 (laidQ (pl ++ [ix])).2) := (blk_cell Vz.out 1).trans rfl
        have fz1 : w9.frozen? ⟨sy + 1, 1, none⟩ = false := blk_frozen Vz.out 1
        go_wp2
        refine wp_region_noPanic ?_
        refine wp_region_held_drew (S := (fun wv => Hid (wv.heap[sy]? = some (.cells #[.slice B2 m2 d2, .int .i64 fx] 24) ∧ wv.heap[sy + 1]? = some (.cells #[.int .i64 (laidQ (pl ++ [ix])).1, .int .i64 (laidQ (pl ++ [ix])).2] 26) ∧ Below q w wv))) (by kernel_rfl) (Lib.hid ⟨Vy.out, Vz.out, FR.out.bel.drew⟩) (fun hS => ?_)
        refine wpAnyH_take (i := 0) (oi := ⟨some 56, .load 24 (.tmp 17), 24, "ref.go:83", #[], none⟩) (v := .agg (([.slice B2 m2 d2, .int .i64 fx] : List Value)).toArray) rfl (by kernel_rfl) (by kernel_rfl) (by kernel_rfl) (fun _ _ _ h => h) (yieldsIf_load_mid (by rfl) _ _ (by rfl) (sy) 0 (by rfl) (([.slice B2 m2 d2, .int .i64 fx] : List Value)) _ (fun wv hS => blk_rngl hS.out.1) Try.underlying24 (by rfl) (by kernel_rfl)) hS ?_
        try simp only [Act.put, List.setIfInBounds_toArray, List.set_cons_zero, List.set_cons_succ]
        refine wpAnyH_take (i := 1) (oi := ⟨some 57, .load 26 (.tmp 18), 26, "ref.go:83", #[⟨2, .gcOnly .lateStores⟩], none⟩) (v := .agg (([.int .i64 (laidQ (pl ++ [ix])).1, .int .i64 (laidQ (pl ++ [ix])).2] : List Value)).toArray) rfl (by kernel_rfl) (by kernel_rfl) (by kernel_rfl) (fun _ _ _ h => h) (yieldsIf_load_mid (by rfl) _ _ (by rfl) (sy + 1) 0 (by rfl) (([.int .i64 (laidQ (pl ++ [ix])).1, .int .i64 (laidQ (pl ++ [ix])).2] : List Value)) _ (fun wv hS => blk_rngl hS.out.2.1) Try.underlying26 (by rfl) (by kernel_rfl)) hS ?_
        try simp only [Act.put, List.setIfInBounds_toArray, List.set_cons_zero, List.set_cons_succ]
        refine wpAnyH_ready (rs := [2]) (by kernel_rfl) (by simp) (AllReadyH.cons (o := ⟨none, .store 24 (.tmp 10) (.tmp 56), 0, "ref.go:83", #[⟨0, .data⟩, ⟨0, .phase⟩, ⟨1, .textOnly .lateStores⟩], none⟩) rfl (fun K hK => ?_) AllReadyH.nil)
        go_simp
        replace hS := Lib.hid (And.intro (keep_pair hS.out.1 nz02 (.slice B2 m2 d2) (.int .i64 fx)) (And.intro (keep_pair hS.out.2.1 nz12 (.slice B2 m2 d2) (.int .i64 fx)) (bel_pair hS.out.2.2 (show q ≤ q + 2 by omega) (.slice B2 m2 d2) (.int .i64 fx))))
        refine Shut.out hK _ _ hS (fun _ => ?_)
        clear hK K
        try simp only [Act.put, List.setIfInBounds_toArray, List.set_cons_zero, List.set_cons_succ]
        refine wpAnyH_ready (rs := [3]) (by kernel_rfl) (by simp) (AllReadyH.cons (o := ⟨none, .store 26 (.tmp 11) (.tmp 57), 0, "ref.go:83", #[⟨1, .data⟩, ⟨2, .chain⟩, ⟨0, .phase⟩, ⟨1, .phase⟩, ⟨2, .phase⟩], none⟩) rfl (fun K hK => ?_) AllReadyH.nil)
        go_simp
        replace hS := Lib.hid (And.intro (keep_pair hS.out.1 nz03 (.int .i64 (laidQ (pl ++ [ix])).1) (.int .i64 (laidQ (pl ++ [ix])).2)) (And.intro (keep_pair hS.out.2.1 nz13 (.int .i64 (laidQ (pl ++ [ix])).1) (.int .i64 (laidQ (pl ++ [ix])).2)) (bel_pair hS.out.2.2 (show q ≤ q + 3 by omega) (.int .i64 (laidQ (pl ++ [ix])).1) (.int .i64 (laidQ (pl ++ [ix])).2))))
        refine Shut.out hK _ _ hS (fun _ => ?_)
        clear hK K
        try simp only [Act.put, List.setIfInBounds_toArray, List.set_cons_zero, List.set_cons_succ]
        refine wpAnyH_take (i := 4) (oi := ⟨some 12, .assign (.const (Value.int IntKind.i64 0)), 29, "ref.go:83", #[⟨3, .chain⟩, ⟨0, .phase⟩, ⟨1, .phase⟩, ⟨2, .phase⟩, ⟨3, .phase⟩], none⟩) (v := ?_) rfl (by kernel_rfl) (by kernel_rfl) (by kernel_rfl) (fun _ _ _ h => h) (Or.inl ⟨by rfl, ?_⟩) hS ?_
        rotate_left
        · intro wv _; go_simp; try with_reducible rfl
        try simp only [Act.put, List.setIfInBounds_toArray, List.set_cons_zero, List.set_cons_succ]
        refine wpAnyH_done (by kernel_rfl) ?_ _
        refine NoPanic.normal ?_
        go_wp2
        have FZ : Fr w (((((w9.setCell ⟨q + 2, 0, none⟩ (.slice B2 m2 d2)).setCell ⟨q + 2, 1, none⟩ (.int .i64 fx)).setCell ⟨q + 3, 0, none⟩ (.int .i64 (laidQ (pl ++ [ix])).1)).setCell ⟨q + 3, 1, none⟩ (.int .i64 (laidQ (pl ++ [ix])).2))).drew q [.cells #[.slice A n c, .int .i64 fr] 24, .cells #[.int .i64 hd, .int .i64 tl] 26, .cells #[.slice B2 m2 d2, .int .i64 fx] 24, .cells #[.int .i64 (laidQ (pl ++ [ix])).1, .int .i64 (laidQ (pl ++ [ix])).2] 26] := (((((FR.out.set 2 0 rfl rfl (.slice B2 m2 d2)).set 2 1 rfl rfl (.int .i64 fx)).set 3 0 rfl rfl (.int .i64 (laidQ (pl ++ [ix])).1)).set 3 1 rfl rfl (.int .i64 (laidQ (pl ++ [ix])).2))).drew
        refine bodyPost_ret (res_ccs Try.results22 (by rfl) (by rfl) (FZ.load 2 rfl rfl Try.underlying24 (by kernel_rfl)) (FZ.load 3 rfl rfl Try.underlying26 (by kernel_rfl))) rfl ?_
        have hrs := own_apart (own_apart (own_apart (own_apart (RR.out) (k := q + 2) (o := 0) (u := .slice B2 m2 d2) (by omega)) (k := q + 2) (o := 1) (u := .int .i64 fx) (by omega)) (k := q + 3) (o := 0) (u := .int .i64 (laidQ (pl ++ [ix])).1) (by omega)) (k := q + 3) (o := 1) (u := .int .i64 (laidQ (pl ++ [ix])).2) (by omega)
        obtain ⟨_, _, he, hrr⟩ := rs_of_own hrs
        injection he with he1 he2 he3; subst he1; subst he3
        rw [HE.out]
        exact ⟨_, _, _, rfl, Es.drew hrr, FZ.out, fun _ => own_base hrs (show w.heap.size ≤ q + 4 by omega), fun h => absurd rfl h⟩
      · rw [if_pos (rfl : true = true)] at hE
        have HE := Lib.hid hE
        clear hE
        go_enter Try.func22, Try.ntmps22
        have c00 : v4.cell? ⟨q, 0, none⟩ = some (.slice A n c) := FR.out.cell 0 0 rfl rfl rfl
        have c01 : v4.cell? ⟨q, 1, none⟩ = some (.int .i64 fr) := FR.out.cell 0 1 rfl rfl rfl
        have c10 : v4.cell? ⟨q + 1, 0, none⟩ = some (.int .i64 hd) := FR.out.cell 1 0 rfl rfl rfl
        have c11 : v4.cell? ⟨q + 1, 1, none⟩ = some (.int .i64 tl) := FR.out.cell 1 1 rfl rfl rfl
        have c20 : v4.cell? ⟨q + 2, 0, none⟩ = some (.slice none 0 0) := FR.out.cell 2 0 rfl rfl rfl
        have c21 : v4.cell? ⟨q + 2, 1, none⟩ = some (.int .i64 0) := FR.out.cell 2 1 rfl rfl rfl
        have c30 : v4.cell? ⟨q + 3, 0, none⟩ = some (.int .i64 0) := FR.out.cell 3 0 rfl rfl rfl
        have c31 : v4.cell? ⟨q + 3, 1, none⟩ = some (.int .i64 0) := FR.out.cell 3 1 rfl rfl rfl
        go_wp2_with fail
        refine (R1.out).mono ?_
        rintro e w5 ⟨rfl, hb⟩
        clear c00 c01 c10 c11 c20 c21 c30 c31
        replace FR := Lib.hid (FR.out.step hb)
        clear hb
        have hq4 := FR.out.sz
        simp only [List.length_cons, List.length_nil] at hq4
        have c00 : w5.cell? ⟨q, 0, none⟩ = some (.slice A n c) := FR.out.cell 0 0 rfl rfl rfl
        have c01 : w5.cell? ⟨q, 1, none⟩ = some (.int .i64 fr) := FR.out.cell 0 1 rfl rfl rfl
        have c10 : w5.cell? ⟨q + 1, 0, none⟩ = some (.int .i64 hd) := FR.out.cell 1 0 rfl rfl rfl
        have c11 : w5.cell? ⟨q + 1, 1, none⟩ = some (.int .i64 tl) := FR.out.cell 1 1 rfl rfl rfl
        have c20 : w5.cell? ⟨q + 2, 0, none⟩ = some (.slice none 0 0) := FR.out.cell 2 0 rfl rfl rfl
        have c21 : w5.cell? ⟨q + 2, 1, none⟩ = some (.int .i64 0) := FR.out.cell 2 1 rfl rfl rfl
        have c30 : w5.cell? ⟨q + 3, 0, none⟩ = some (.int .i64 0) := FR.out.cell 3 0 rfl rfl rfl
        have c31 : w5.cell? ⟨q + 3, 1, none⟩ = some (.int .i64 0) := FR.out.cell 3 1 rfl rfl rfl
        go_wp2_with fail
        refine ((P1.out _ (FR.out.es RX.out))).mono ?_
        rintro e w6 ⟨C, k, c2, rfl, hown, hb⟩
        clear c00 c01 c10 c11 c20 c21 c30 c31
        replace FR := Lib.hid (FR.out.step hb)
        have h34 : w5.heap.size ≤ w6.heap.size := hb.size
        clear hb
        have OC := Lib.hid hown
        have hpk : pl.length = k := by have := hown.1; rw [intC_len] at this; omega
        have LC : ∀ j, (Value.slice C k c2).ownBlock = some j → q + 4 ≤ j ∧ j < w6.heap.size := fun j h => by have := hown.lt j h; exact ⟨by omega, this.2⟩
        clear hown
        have c00 : w6.cell? ⟨q, 0, none⟩ = some (.slice A n c) := FR.out.cell 0 0 rfl rfl rfl
        have c01 : w6.cell? ⟨q, 1, none⟩ = some (.int .i64 fr) := FR.out.cell 0 1 rfl rfl rfl
        have c10 : w6.cell? ⟨q + 1, 0, none⟩ = some (.int .i64 hd) := FR.out.cell 1 0 rfl rfl rfl
        have c11 : w6.cell? ⟨q + 1, 1, none⟩ = some (.int .i64 tl) := FR.out.cell 1 1 rfl rfl rfl
        have c20 : w6.cell? ⟨q + 2, 0, none⟩ = some (.slice none 0 0) := FR.out.cell 2 0 rfl rfl rfl
        have c21 : w6.cell? ⟨q + 2, 1, none⟩ = some (.int .i64 0) := FR.out.cell 2 1 rfl rfl rfl
        have c30 : w6.cell? ⟨q + 3, 0, none⟩ = some (.int .i64 0) := FR.out.cell 3 0 rfl rfl rfl
        have c31 : w6.cell? ⟨q + 3, 1, none⟩ = some (.int .i64 0) := FR.out.cell 3 1 rfl rfl rfl
        go_wp2_with fail
        refine ((T1.out _ (FR.out.es RX.out))).mono ?_
        rintro e w7 ⟨B, m, d, rfl, hrs, hb, hown⟩
        clear c00 c01 c10 c11 c20 c21 c30 c31
        replace FR := Lib.hid (FR.out.step hb)
        replace OC := Lib.hid (own_below OC.out hb)
        have OB := Lib.hid (hown HE0.out)
        have h45 : w6.heap.size ≤ w7.heap.size := hb.size
        clear hrs hb hown
        have gex := FR.out.sz
        simp only [List.length_cons, List.length_nil] at gex
        obtain ⟨w8, hw8⟩ : ∃ W, w7.alloc (.cells #[.slice B m d, .int .i64 fx] 24) = W := ⟨_, rfl⟩
        have hb : Below w7.heap.size w7 w8 := hw8 ▸ (Below.refl _ _).alloc (Nat.le_refl _) _
        have hv : w8.heap[w7.heap.size]? = some (.cells #[.slice B m d, .int .i64 fx] 24) := hw8 ▸ heap_alloc_new _ _
        replace FR := Lib.hid (FR.out.step hb)
        replace OC := Lib.hid (own_below OC.out hb)
        replace OB := Lib.hid (own_below OB.out hb)
        have Vx := Lib.hid hv
        generalize hsx : w7.heap.size = sx at *
        clear hb hv
        obtain ⟨_, _, he, hip⟩ := Es.of_own OC.out (intC_one _)
        injection he with he1 he2 he3; subst he1; subst he3
        obtain ⟨A9, c9, w9, hap, own9, hgr⟩ := app_ints (w8.alloc (.cells (intC [ix]).toArray 3)) w8.heap.size _ 1 [ix] (lit_ints w8 (Nat.le_refl _) [ix] (by simp) rfl) C k c2 pl (Es.alloc hip _) (by omega) (by simp)
        have hb : Below w8.heap.size w8 w9 := ((Below.refl _ _).alloc (Nat.le_refl _) _).grown hgr (by simp) (by simp [Value.ownBlock])
        replace FR := Lib.hid (FR.out.step hb)
        replace OB := Lib.hid (own_below OB.out hb)
        replace Vx := Lib.hid (blk_below Vx.out hb (blk_lt Vx.out))
        clear hb hgr hip OC
        obtain ⟨_, _, he, his9⟩ := Es.of_own own9 (intC_one _)
        injection he with he1 he2 he3; subst he1; subst he3
        have IL := Lib.hid (show Is w9 A9 (1 + k) c9 (ix :: pl) from his9)
        obtain ⟨_, _, he, hrb⟩ := rs_of_own OB.out
        injection he with he1 he2 he3; subst he1; subst he3
        have RB := Lib.hid hrb
        clear own9 his9 hrb OB h45 LC
        have L1 := Lib.hid (LD.out B m d A9 (1 + k) c9 (ix :: pl) w9 RB.out IL.out HPA.out (by omega))
        have c00 : w9.cell? ⟨q, 0, none⟩ = some (.slice A n c) := FR.out.cell 0 0 rfl rfl rfl
        have c01 : w9.cell? ⟨q, 1, none⟩ = some (.int .i64 fr) := FR.out.cell 0 1 rfl rfl rfl
        have c10 : w9.cell? ⟨q + 1, 0, none⟩ = some (.int .i64 hd) := FR.out.cell 1 0 rfl rfl rfl
        have c11 : w9.cell? ⟨q + 1, 1, none⟩ = some (.int .i64 tl) := FR.out.cell 1 1 rfl rfl rfl
        have c20 : w9.cell? ⟨q + 2, 0, none⟩ = some (.slice none 0 0) := FR.out.cell 2 0 rfl rfl rfl
        have c21 : w9.cell? ⟨q + 2, 1, none⟩ = some (.int .i64 0) := FR.out.cell 2 1 rfl rfl rfl
        have c30 : w9.cell? ⟨q + 3, 0, none⟩ = some (.int .i64 0) := FR.out.cell 3 0 rfl rfl rfl
        have c31 : w9.cell? ⟨q + 3, 1, none⟩ = some (.int .i64 0) := FR.out.cell 3 1 rfl rfl rfl
        have cx0 : w9.cell? ⟨sx, 0, none⟩ = some (.slice B m d) := (blk_cell Vx.out 0).trans rfl
        have cx1 : w9.cell? ⟨sx, 1, none⟩ = some (.int .i64 fx) := (blk_cell Vx.out 1).trans rfl
        go_wp2_with (at_builtin; refine eapp_run (by rfl) rfl rfl rfl hap ?_)
        clear c00 c01 c10 c11 c20 c21 c30 c31 cx0 cx1
        have FR9 := FR.out.sz
        simp only [List.length_cons, List.length_nil] at FR9
        refine L1.out.mono ?_
        rintro e wl ⟨B2, m2, d2, rfl, hrs, hb⟩
        replace FR := Lib.hid (FR.out.step hb)
        replace RB := Lib.hid (Es.below RB.out hb)
        replace IL := Lib.hid (Es.below IL.out hb)
        replace Vx := Lib.hid (blk_below Vx.out hb (blk_lt Vx.out))
        have RR := Lib.hid (own_base hrs (show q + 4 ≤ w9.heap.size from by have := FR9; omega))
        clear hb hrs hap L1 RB IL FR9
        have ltxy := blk_lt Vx.out
        have gey := FR.out.sz
        simp only [List.length_cons, List.length_nil] at gey
        obtain ⟨w9, hw9⟩ : ∃ W, (wl.alloc (.cells #[.slice B2 m2 d2, .int .i64 fx] 24)).alloc (.cells #[.int .i64 (laidQ (ix :: pl)).1, .int .i64 (laidQ (ix :: pl)).2] 26) = W := ⟨_, rfl⟩
        have hb : Below wl.heap.size wl w9 := hw9 ▸ ((Below.refl _ _).alloc (Nat.le_refl _) _).alloc (by simp) _
        have hv : w9.heap[wl.heap.size]? = some (.cells #[.slice B2 m2 d2, .int .i64 fx] 24) := hw9 ▸ (heap_alloc_old _ _ (by simp)).trans (heap_alloc_new _ _)
        have hv2 : w9.heap[wl.heap.size + 1]? = some (.cells #[.int .i64 (laidQ (ix :: pl)).1, .int .i64 (laidQ (ix :: pl)).2] 26) := by have := heap_alloc_new (wl.alloc (.cells #[.slice B2 m2 d2, .int .i64 fx] 24)) (.cells #[.int .i64 (laidQ (ix :: pl)).1, .int .i64 (laidQ (ix :: pl)).2] 26); rw [hw9] at this; simpa using this
        replace FR := Lib.hid (FR.out.step hb)
        replace RR := Lib.hid (own_below RR.out hb)
        replace Vx := Lib.hid (blk_below Vx.out hb (blk_lt Vx.out))
        have Vy := Lib.hid hv
        have Vz := Lib.hid hv2
        have nexy := Nat.ne_of_lt ltxy
        generalize hsy : wl.heap.size = sy at *
        clear hb hv hv2 ltxy
        have nz02 : sy ≠ q + 2 := by omega
        have nz03 : sy ≠ q + 3 := by omega
        have nz12 : sy + 1 ≠ q + 2 := by omega
        have nz13 : sy + 1 ≠ q + 3 := by omega
        have c20 : w9.cell? ⟨q + 2, 0, none⟩ = some (.slice none 0 0) := FR.out.cell 2 0 rfl rfl rfl
        have f20 : w9.frozen? ⟨q + 2, 0, none⟩ = false := FR.out.frozen 2 0 rfl rfl
        have c21 : w9.cell? ⟨q + 2, 1, none⟩ = some (.int .i64 0) := FR.out.cell 2 1 rfl rfl rfl
        have f21 : w9.frozen? ⟨q + 2, 1, none⟩ = false := FR.out.frozen 2 1 rfl rfl
        have c30 : w9.cell? ⟨q + 3, 0, none⟩ = some (.int .i64 0) := FR.out.cell 3 0 rfl rfl rfl
        have f30 : w9.frozen? ⟨q + 3, 0, none⟩ = false := FR.out.frozen 3 0 rfl rfl
        have c31 : w9.cell? ⟨q + 3, 1, none⟩ = some (.int .i64 0) := FR.out.cell 3 1 rfl rfl rfl
        have f31 : w9.frozen? ⟨q + 3, 1, none⟩ = false := FR.out.frozen 3 1 rfl rfl
        have cx0 : w9.cell? ⟨sx, 0, none⟩ = some (.slice B m d) := (blk_cell Vx.out 0).trans rfl
        have fx0 : w9.frozen? ⟨sx, 0, none⟩ = false := blk_frozen Vx.out 0
        have cx1 : w9.cell? ⟨sx, 1, none⟩ = some (.int .i64 fx) := (blk_cell Vx.out 1).trans rfl
        have fx1 : w9.frozen? ⟨sx, 1, none⟩ = false := blk_frozen Vx.out 1
        have cy0 : w9.cell? ⟨sy, 0, none⟩ = some (.slice B2 m2 d2) := (blk_cell Vy.out 0).trans rfl
        have fy0 : w9.frozen? ⟨sy, 0, none⟩ = false := blk_frozen Vy.out 0
        have cy1 : w9.cell? ⟨sy, 1, none⟩ = some (.int .i64 fx) := (blk_cell Vy.out 1).trans rfl
        have fy1 : w9.frozen? ⟨sy, 1, none⟩ = false := blk_frozen Vy.out 1
        have cz0 : w9.cell? ⟨sy + 1, 0, none⟩ = some (.int .i64 (laidQ (ix :: pl)).1) := (blk_cell Vz.out 0).trans rfl
        have fz0 : w9.frozen? ⟨sy + 1, 0, none⟩ = false := blk_frozen Vz.out 0
        have cz1 : w9.cell? ⟨sy + 1, 1, none⟩ = some (.int .i64 (laidQ (ix :: pl)).2) := (blk_cell Vz.out 1).trans rfl
        have fz1 : w9.frozen? ⟨sy + 1, 1, none⟩ = false := blk_frozen Vz.out 1
        go_wp2
        refine wp_region_noPanic ?_
        refine wp_region_held_drew (S := (fun wv => Hid (wv.heap[sy]? = some (.cells #[.slice B2 m2 d2, .int .i64 fx] 24) ∧ wv.heap[sy + 1]? = some (.cells #[.int .i64 (laidQ (ix :: pl)).1, .int .i64 (laidQ (ix :: pl)).2] 26) ∧ Below q w wv))) (by kernel_rfl) (Lib.hid ⟨Vy.out, Vz.out, FR.out.bel.drew⟩) (fun hS => ?_)
        refine wpAnyH_take (i := 0) (oi := ⟨some 56, .load 24 (.tmp 17), 24, "ref.go:83", #[], none⟩) (v := .agg (([.slice B2 m2 d2, .int .i64 fx] : List Value)).toArray) rfl (by kernel_rfl) (by kernel_rfl) (by kernel_rfl) (fun _ _ _ h => h) (yieldsIf_load_mid (by rfl) _ _ (by rfl) (sy) 0 (by rfl) (([.slice B2 m2 d2, .int .i64 fx] : List Value)) _ (fun wv hS => blk_rngl hS.out.1) Try.underlying24 (by rfl) (by kernel_rfl)) hS ?_
        try simp only [Act.put, List.setIfInBounds_toArray, List.set_cons_zero, List.set_cons_succ]
        refine wpAnyH_take (i := 1) (oi := ⟨some 57, .load 26 (.tmp 18), 26, "ref.go:83", #[⟨2, .gcOnly .lateStores⟩], none⟩) (v := .agg (([.int .i64 (laidQ (ix :: pl)).1, .int .i64 (laidQ (ix :: pl)).2] : List Value)).toArray) rfl (by kernel_rfl) (by kernel_rfl) (by kernel_rfl) (fun _ _ _ h => h) (yieldsIf_load_mid (by rfl) _ _ (by rfl) (sy + 1) 0 (by rfl) (([.int .i64 (laidQ (ix :: pl)).1, .int .i64 (laidQ (ix :: pl)).2] : List Value)) _ (fun wv hS => blk_rngl hS.out.2.1) Try.underlying26 (by rfl) (by kernel_rfl)) hS ?_
        try simp only [Act.put, List.setIfInBounds_toArray, List.set_cons_zero, List.set_cons_succ]
        refine wpAnyH_ready (rs := [2]) (by kernel_rfl) (by simp) (AllReadyH.cons (o := ⟨none, .store 24 (.tmp 10) (.tmp 56), 0, "ref.go:83", #[⟨0, .data⟩, ⟨0, .phase⟩, ⟨1, .textOnly .lateStores⟩], none⟩) rfl (fun K hK => ?_) AllReadyH.nil)
        go_simp
        replace hS := Lib.hid (And.intro (keep_pair hS.out.1 nz02 (.slice B2 m2 d2) (.int .i64 fx)) (And.intro (keep_pair hS.out.2.1 nz12 (.slice B2 m2 d2) (.int .i64 fx)) (bel_pair hS.out.2.2 (show q ≤ q + 2 by omega) (.slice B2 m2 d2) (.int .i64 fx))))
        refine Shut.out hK _ _ hS (fun _ => ?_)
        clear hK K
        try simp only [Act.put, List.setIfInBounds_toArray, List.set_cons_zero, List.set_cons_succ]
        refine wpAnyH_ready (rs := [3]) (by kernel_rfl) (by simp) (AllReadyH.cons (o := ⟨none, .store 26 (.tmp 11) (.tmp 57), 0, "ref.go:83", #[⟨1, .data⟩, ⟨2, .chain⟩, ⟨0, .phase⟩, ⟨1, .phase⟩, ⟨2, .phase⟩], none⟩) rfl (fun K hK => ?_) AllReadyH.nil)
        go_simp
        replace hS := Lib.hid (And.intro (keep_pair hS.out.1 nz03 (.int .i64 (laidQ (ix :: pl)).1) (.int .i64 (laidQ (ix :: pl)).2)) (And.intro (keep_pair hS.out.2.1 nz13 (.int .i64 (laidQ (ix :: pl)).1) (.int .i64 (laidQ (ix :: pl)).2)) (bel_pair hS.out.2.2 (show q ≤ q + 3 by omega) (.int .i64 (laidQ (ix :: pl)).1) (.int .i64 (laidQ (ix :: pl)).2))))
        refine Shut.out hK _ _ hS (fun _ => ?_)
        clear hK K
        try simp only [Act.put, List.setIfInBounds_toArray, List.set_cons_zero, List.set_cons_succ]
        refine wpAnyH_take (i := 4) (oi := ⟨some 12, .assign (.const (Value.int IntKind.i64 0)), 29, "ref.go:83", #[⟨3, .chain⟩, ⟨0, .phase⟩, ⟨1, .phase⟩, ⟨2, .phase⟩, ⟨3, .phase⟩], none⟩) (v := ?_) rfl (by kernel_rfl) (by kernel_rfl) (by kernel_rfl) (fun _ _ _ h => h) (Or.inl ⟨by rfl, ?_⟩) hS ?_
        rotate_left
        · intro wv _; go_simp; try with_reducible rfl
        try simp only [Act.put, List.setIfInBounds_toArray, List.set_cons_zero, List.set_cons_succ]
        refine wpAnyH_done (by kernel_rfl) ?_ _
        refine NoPanic.normal ?_
        go_wp2
        have FZ : Fr w (((((w9.setCell ⟨q + 2, 0, none⟩ (.slice B2 m2 d2)).setCell ⟨q + 2, 1, none⟩ (.int .i64 fx)).setCell ⟨q + 3, 0, none⟩ (.int .i64 (laidQ (ix :: pl)).1)).setCell ⟨q + 3, 1, none⟩ (.int .i64 (laidQ (ix :: pl)).2))).drew q [.cells #[.slice A n c, .int .i64 fr] 24, .cells #[.int .i64 hd, .int .i64 tl] 26, .cells #[.slice B2 m2 d2, .int .i64 fx] 24, .cells #[.int .i64 (laidQ (ix :: pl)).1, .int .i64 (laidQ (ix :: pl)).2] 26] := (((((FR.out.set 2 0 rfl rfl (.slice B2 m2 d2)).set 2 1 rfl rfl (.int .i64 fx)).set 3 0 rfl rfl (.int .i64 (laidQ (ix :: pl)).1)).set 3 1 rfl rfl (.int .i64 (laidQ (ix :: pl)).2))).drew
        refine bodyPost_ret (res_ccs Try.results22 (by rfl) (by rfl) (FZ.load 2 rfl rfl Try.underlying24 (by kernel_rfl)) (FZ.load 3 rfl rfl Try.underlying26 (by kernel_rfl))) rfl ?_
        have hrs := own_apart (own_apart (own_apart (own_apart (RR.out) (k := q + 2) (o := 0) (u := .slice B2 m2 d2) (by omega)) (k := q + 2) (o := 1) (u := .int .i64 fx) (by omega)) (k := q + 3) (o := 0) (u := .int .i64 (laidQ (ix :: pl)).1) (by omega)) (k := q + 3) (o := 1) (u := .int .i64 (laidQ (ix :: pl)).2) (by omega)
        obtain ⟨_, _, he, hrr⟩ := rs_of_own hrs
        injection he with he1 he2 he3; subst he1; subst he3
        rw [HE.out]
        exact ⟨_, _, _, rfl, Es.drew hrr, FZ.out, fun _ => own_base hrs (show w.heap.size ≤ q + 4 by omega), fun h => absurd rfl h⟩
    · have b1 : (ex != 0) = true := by simp [he0]
      have HE := Lib.hid (show R = ((rs, fr), (hd, tl), ex) by rw [hE, if_pos he0])
      have HN := Lib.hid he0
      clear hE tp he0
      go_enter Try.func22, Try.ntmps22
      have c00 : v4.cell? ⟨q, 0, none⟩ = some (.slice A n c) := FR.out.cell 0 0 rfl rfl rfl
      have c01 : v4.cell? ⟨q, 1, none⟩ = some (.int .i64 fr) := FR.out.cell 0 1 rfl rfl rfl
      have c10 : v4.cell? ⟨q + 1, 0, none⟩ = some (.int .i64 hd) := FR.out.cell 1 0 rfl rfl rfl
      have c11 : v4.cell? ⟨q + 1, 1, none⟩ = some (.int .i64 tl) := FR.out.cell 1 1 rfl rfl rfl
      have c20 : v4.cell? ⟨q + 2, 0, none⟩ = some (.slice none 0 0) := FR.out.cell 2 0 rfl rfl rfl
      have c21 : v4.cell? ⟨q + 2, 1, none⟩ = some (.int .i64 0) := FR.out.cell 2 1 rfl rfl rfl
      have c30 : v4.cell? ⟨q + 3, 0, none⟩ = some (.int .i64 0) := FR.out.cell 3 0 rfl rfl rfl
      have c31 : v4.cell? ⟨q + 3, 1, none⟩ = some (.int .i64 0) := FR.out.cell 3 1 rfl rfl rfl
      go_wp2_with fail
      refine (R1.out).mono ?_
      rintro e w5 ⟨rfl, hb⟩
      clear c00 c01 c10 c11 c20 c21 c30 c31
      replace FR := Lib.hid (FR.out.step hb)
      clear hb
      have c00 : w5.cell? ⟨q, 0, none⟩ = some (.slice A n c) := FR.out.cell 0 0 rfl rfl rfl
      have c01 : w5.cell? ⟨q, 1, none⟩ = some (.int .i64 fr) := FR.out.cell 0 1 rfl rfl rfl
      have c10 : w5.cell? ⟨q + 1, 0, none⟩ = some (.int .i64 hd) := FR.out.cell 1 0 rfl rfl rfl
      have c11 : w5.cell? ⟨q + 1, 1, none⟩ = some (.int .i64 tl) := FR.out.cell 1 1 rfl rfl rfl
      have c20 : w5.cell? ⟨q + 2, 0, none⟩ = some (.slice none 0 0) := FR.out.cell 2 0 rfl rfl rfl
      have c21 : w5.cell? ⟨q + 2, 1, none⟩ = some (.int .i64 0) := FR.out.cell 2 1 rfl rfl rfl
      have c30 : w5.cell? ⟨q + 3, 0, none⟩ = some (.int .i64 0) := FR.out.cell 3 0 rfl rfl rfl
      have c31 : w5.cell? ⟨q + 3, 1, none⟩ = some (.int .i64 0) := FR.out.cell 3 1 rfl rfl rfl
      go_wp2_with fail
      refine ((P1.out _ (FR.out.es RX.out))).mono ?_
      rintro e w6 ⟨C, k, c2, rfl, his, hb⟩
      clear c00 c01 c10 c11 c20 c21 c30 c31
      replace FR := Lib.hid (FR.out.step hb)
      clear hb
      have c00 : w6.cell? ⟨q, 0, none⟩ = some (.slice A n c) := FR.out.cell 0 0 rfl rfl rfl
      have c01 : w6.cell? ⟨q, 1, none⟩ = some (.int .i64 fr) := FR.out.cell 0 1 rfl rfl rfl
      have c10 : w6.cell? ⟨q + 1, 0, none⟩ = some (.int .i64 hd) := FR.out.cell 1 0 rfl rfl rfl
      have c11 : w6.cell? ⟨q + 1, 1, none⟩ = some (.int .i64 tl) := FR.out.cell 1 1 rfl rfl rfl
      have c20 : w6.cell? ⟨q + 2, 0, none⟩ = some (.slice none 0 0) := FR.out.cell 2 0 rfl rfl rfl
      have c21 : w6.cell? ⟨q + 2, 1, none⟩ = some (.int .i64 0) := FR.out.cell 2 1 rfl rfl rfl
      have c30 : w6.cell? ⟨q + 3, 0, none⟩ = some (.int .i64 0) := FR.out.cell 3 0 rfl rfl rfl
      have c31 : w6.cell? ⟨q + 3, 1, none⟩ = some (.int .i64 0) := FR.out.cell 3 1 rfl rfl rfl
      go_wp2_with fail
      refine ((T1.out _ (FR.out.es RX.out))).mono ?_
      rintro e w7 ⟨B, m, d, rfl, hrs, hb, hown⟩
      clear c00 c01 c10 c11 c20 c21 c30 c31
      replace FR := Lib.hid (FR.out.step hb)
      clear hb
      have gex := FR.out.sz
      simp only [List.length_cons, List.length_nil] at gex
      obtain ⟨w8, hw8⟩ : ∃ W, w7.alloc (.cells #[.slice B m d, .int .i64 fx] 24) = W := ⟨_, rfl⟩
      have hb : Below w7.heap.size w7 w8 := hw8 ▸ (Below.refl _ _).alloc (Nat.le_refl _) _
      have hv : w8.heap[w7.heap.size]? = some (.cells #[.slice B m d, .int .i64 fx] 24) := hw8 ▸ heap_alloc_new _ _
      replace FR := Lib.hid (FR.out.step hb)
      have Vx := Lib.hid hv
      generalize hsx : w7.heap.size = sx at *
      clear hb hv
      have nz02 : q ≠ q + 2 := by omega
      have nz03 : q ≠ q + 3 := by omega
      have nz12 : q + 1 ≠ q + 2 := by omega
      have nz13 : q + 1 ≠ q + 3 := by omega
      have c20 : w8.cell? ⟨q + 2, 0, none⟩ = some (.slice none 0 0) := FR.out.cell 2 0 rfl rfl rfl
      have f20 : w8.frozen? ⟨q + 2, 0, none⟩ = false := FR.out.frozen 2 0 rfl rfl
      have c21 : w8.cell? ⟨q + 2, 1, none⟩ = some (.int .i64 0) := FR.out.cell 2 1 rfl rfl rfl
      have f21 : w8.frozen? ⟨q + 2, 1, none⟩ = false := FR.out.frozen 2 1 rfl rfl
      have c30 : w8.cell? ⟨q + 3, 0, none⟩ = some (.int .i64 0) := FR.out.cell 3 0 rfl rfl rfl
      have f30 : w8.frozen? ⟨q + 3, 0, none⟩ = false := FR.out.frozen 3 0 rfl rfl
      have c31 : w8.cell? ⟨q + 3, 1, none⟩ = some (.int .i64 0) := FR.out.cell 3 1 rfl rfl rfl
      have f31 : w8.frozen? ⟨q + 3, 1, none⟩ = false := FR.out.frozen 3 1 rfl rfl
      have cx0 : w8.cell? ⟨sx, 0, none⟩ = some (.slice B m d) := (blk_cell Vx.out 0).trans rfl
      have fx0 : w8.frozen? ⟨sx, 0, none⟩ = false := blk_frozen Vx.out 0
      have cx1 : w8.cell? ⟨sx, 1, none⟩ = some (.int .i64 fx) := (blk_cell Vx.out 1).trans rfl
      have fx1 : w8.frozen? ⟨sx, 1, none⟩ = false := blk_frozen Vx.out 1
      go_wp2
      refine wp_region_noPanic ?_
      refine wp_region_held_drew (S := (fun wv => Hid (wv.heap[q]? = some (.cells #[.slice A n c, .int .i64 fr] 24) ∧ wv.heap[q + 1]? = some (.cells #[.int .i64 hd, .int .i64 tl] 26) ∧ Below q w wv))) (by kernel_rfl) (Lib.hid ⟨FR.out.blk 0 _ rfl, FR.out.blk 1 _ rfl, FR.out.bel.drew⟩) (fun hS => ?_)
      refine wpAnyH_take (i := 0) (oi := ⟨some 38, .load 24 (.tmp 5), 24, "ref.go:75", #[], none⟩) (v := .agg (([.slice A n c, .int .i64 fr] : List Value)).toArray) rfl (by kernel_rfl) (by kernel_rfl) (by kernel_rfl) (fun _ _ _ h => h) (yieldsIf_load_mid (by rfl) _ _ (by rfl) (q) 0 (by rfl) (([.slice A n c, .int .i64 fr] : List Value)) _ (fun wv hS => blk_rngl hS.out.1) Try.underlying24 (by rfl) (by kernel_rfl)) hS ?_
      try simp only [Act.put, List.setIfInBounds_toArray, List.set_cons_zero, List.set_cons_succ]
      refine wpAnyH_take (i := 1) (oi := ⟨some 39, .load 26 (.tmp 6), 26, "ref.go:75", #[⟨3, .gcOnly .lateStores⟩], none⟩) (v := .agg (([.int .i64 hd, .int .i64 tl] : List Value)).toArray) rfl (by kernel_rfl) (by kernel_rfl) (by kernel_rfl) (fun _ _ _ h => h) (yieldsIf_load_mid (by rfl) _ _ (by rfl) (q + 1) 0 (by rfl) (([.int .i64 hd, .int .i64 tl] : List Value)) _ (fun wv hS => blk_rngl hS.out.2.1) Try.underlying26 (by rfl) (by kernel_rfl)) hS ?_
      try simp only [Act.put, List.setIfInBounds_toArray, List.set_cons_zero, List.set_cons_succ]
      refine wpAnyH_take (i := 2) (oi := ⟨some 40, .move (.tmp 16), 29, "ref.go:75", #[⟨4, .gcOnly .lateStores⟩], none⟩) (v := ?_) rfl (by kernel_rfl) (by kernel_rfl) (by kernel_rfl) (fun _ _ _ h => h) (Or.inl ⟨by rfl, ?_⟩) hS ?_
      rotate_left
      · intro wv _; go_simp; try with_reducible rfl
      try simp only [Act.put, List.setIfInBounds_toArray, List.set_cons_zero, List.set_cons_succ]
      refine wpAnyH_ready (rs := [3]) (by kernel_rfl) (by simp) (AllReadyH.cons (o := ⟨none, .store 24 (.tmp 10) (.tmp 38), 0, "ref.go:75", #[⟨0, .data⟩, ⟨0, .phase⟩, ⟨1, .textOnly .lateStores⟩, ⟨2, .textOnly .lateStores⟩], none⟩) rfl (fun K hK => ?_) AllReadyH.nil)
      go_simp
      replace hS := Lib.hid (And.intro (keep_pair hS.out.1 nz02 (.slice A n c) (.int .i64 fr)) (And.intro (keep_pair hS.out.2.1 nz12 (.slice A n c) (.int .i64 fr)) (bel_pair hS.out.2.2 (show q ≤ q + 2 by omega) (.slice A n c) (.int .i64 fr))))
      refine Shut.out hK _ _ hS (fun _ => ?_)
      clear hK K
      try simp only [Act.put, List.setIfInBounds_toArray, List.set_cons_zero, List.set_cons_succ]
      refine wpAnyH_ready (rs := [4]) (by kernel_rfl) (by simp) (AllReadyH.cons (o := ⟨none, .store 26 (.tmp 11) (.tmp 39), 0, "ref.go:75", #[⟨1, .data⟩, ⟨3, .chain⟩, ⟨0, .phase⟩, ⟨1, .phase⟩, ⟨2, .textOnly .lateStores⟩, ⟨3, .phase⟩], none⟩) rfl (fun K hK => ?_) AllReadyH.nil)
      go_simp
      replace hS := Lib.hid (And.intro (keep_pair hS.out.1 nz03 (.int .i64 hd) (.int .i64 tl)) (And.intro (keep_pair hS.out.2.1 nz13 (.int .i64 hd) (.int .i64 tl)) (bel_pair hS.out.2.2 (show q ≤ q + 3 by omega) (.int .i64 hd) (.int .i64 tl))))
      refine Shut.out hK _ _ hS (fun _ => ?_)
      clear hK K
      try simp only [Act.put, List.setIfInBounds_toArray, List.set_cons_zero, List.set_cons_succ]
      refine wpAnyH_take (i := 5) (oi := ⟨some 12, .assign (.tmp 40), 29, "ref.go:75", #[⟨2, .data⟩, ⟨4, .chain⟩, ⟨0, .phase⟩, ⟨1, .phase⟩, ⟨2, .phase⟩, ⟨3, .phase⟩, ⟨4, .phase⟩], none⟩) (v := ?_) rfl (by kernel_rfl) (by kernel_rfl) (by kernel_rfl) (fun _ _ _ h => h) (Or.inl ⟨by rfl, ?_⟩) hS ?_
      rotate_left
      · intro wv _; go_simp; try with_reducible rfl
      try simp only [Act.put, List.setIfInBounds_toArray, List.set_cons_zero, List.set_cons_succ]
      refine wpAnyH_done (by kernel_rfl) ?_ _
      refine NoPanic.normal ?_
      go_wp2
      have FZ : Fr w (((((w8.setCell ⟨q + 2, 0, none⟩ (.slice A n c)).setCell ⟨q + 2, 1, none⟩ (.int .i64 fr)).setCell ⟨q + 3, 0, none⟩ (.int .i64 hd)).setCell ⟨q + 3, 1, none⟩ (.int .i64 tl))).drew q [.cells #[.slice A n c, .int .i64 fr] 24, .cells #[.int .i64 hd, .int .i64 tl] 26, .cells #[.slice A n c, .int .i64 fr] 24, .cells #[.int .i64 hd, .int .i64 tl] 26] := (((((FR.out.set 2 0 rfl rfl (.slice A n c)).set 2 1 rfl rfl (.int .i64 fr)).set 3 0 rfl rfl (.int .i64 hd)).set 3 1 rfl rfl (.int .i64 tl))).drew
      refine bodyPost_ret (res_ccs Try.results22 (by rfl) (by rfl) (FZ.load 2 rfl rfl Try.underlying24 (by kernel_rfl)) (FZ.load 3 rfl rfl Try.underlying26 (by kernel_rfl))) rfl ?_
      rw [HE.out]
      exact ⟨_, _, _, rfl, FZ.es RX.out, FZ.out, fun h => absurd h HN.out, fun _ => rfl⟩
end Go.Proofs.Ytombfempdfdeoaa
