/- What the document's own Laid of layer 8 answers; for slices of up to 16384 records and places. -/
import Derived.Test.YtombfempdfdeoaaQueB
namespace Go.Proofs.Ytombfempdfdeoaa
set_option linter.unusedVariables false
set_option linter.unusedSimpArgs false
open Go.RowKit
def LaidPost (w : World) (rs : List Rec3) (fr : Int) (q : Qu) (e : Ending) (w' : World) : Prop :=
  ∃ B m d, e = .returned (.tuple #[.agg #[.slice B m d, .int .i64 fr], .agg #[.int .i64 q.1, .int .i64 q.2]]) ∧ w'.ownsRow w.heap.size 55 3 (.slice B m d) m (recC rs) ∧ Below w.heap.size w w'
theorem headD_drop {l : List Int} {i : Nat} {x : Int} (h : l.drop i = x :: l.drop (i + 1)) : headD' (l.drop i) = x := by rw [h]; rfl
theorem headD_end {l : List Int} {i : Nat} (h : l.length ≤ i) : headD' (l.drop i) = -1 := by rw [List.drop_of_length_le h]; rfl
theorem lastD_at {l : List Int} {m : Nat} {x : Int} (hm : l.length = m + 1) (h : l.drop m = x :: l.drop (m + 1)) : lastD l = x := by
  have h2 : l = l.take m ++ [x] := by
    have h3 := List.take_append_drop m l
    rw [h, List.drop_of_length_le (by omega : l.length ≤ m + 1)] at h3
    exact h3.symm
  rw [h2, lastD_app]
theorem laid_step {cur : List Rec3} {l : List Int} {i : Nat} {x : Int} {R : List Rec3} (h : l.drop i = x :: l.drop (i + 1)) (hr : laidR cur (l.drop i) = R) : laidR (setN cur x (headD' (l.drop (i + 1)))) (l.drop (i + 1)) = R := by
  rw [h] at hr; exact hr
theorem own_g {w : World} {base n d : Nat} {B : Option Addr} {e : TypeId} {k : Nat} {cs : List Value} (h : w.ownsRow base e k (.slice B n d) n cs) (hn : 0 < n) : ∃ g, B = some ⟨g, 0, none⟩ ∧ base ≤ g ∧ g < w.heap.size := by
  rcases h.2 with ⟨h1, h0⟩ | ⟨g, cap, cur, h1, _⟩
  · omega
  · injection h1 with h1; subst h1
    have := h.lt g (by simp [Value.ownBlock])
    exact ⟨g, rfl, this.1, this.2⟩
set_option maxRecDepth 100000 in
set_option maxHeartbeats 8000000 in
theorem refLaid_any (A : Option Addr) (n c : Nat) (rs : List Rec3) (fr : Int) (A2 : Option Addr) (m c2 : Nat) (l : List Int) (w : World) (hx : Rs w A n c rs) (hl : Is w A2 m c2 l) (hp : ∀ x ∈ l, 0 ≤ x ∧ x < (n : Int)) (hn : n ≤ 16384) (hm : m ≤ 16384) :
    Calls Try.prog 36 #[.agg #[.slice A n c, .int .i64 fr], .slice A2 m c2] w (LaidPost w (laidR rs l) fr (laidQ l)) := by
  have HL2 := Lib.hid hx.len
  have RX := Lib.hid hx; have IX := Lib.hid hl
  have HM := Lib.hid hl.len
  have HP := Lib.hid hp
  have CP := Lib.hid (fun (W : World) (h : Rs W A n c rs) => refCopy_any A n c rs fr W h hn)
  obtain ⟨R, hR⟩ : ∃ R, laidR rs l = R := ⟨_, rfl⟩
  have HR := Lib.hid hR
  rw [hR]
  clear hx hl hp hR
  obtain ⟨v1, hv1⟩ : ∃ W, w.alloc (.cells #[.slice A n c, .int .i64 fr] 24) = W := ⟨_, rfl⟩
  have fr1 : Fr w v1 w.heap.size [.cells #[.slice A n c, .int .i64 fr] 24] := hv1 ▸ Fr.first w _
  have z1 : v1.heap.size = w.heap.size + 1 := by rw [← hv1, Fr.size1]
  obtain ⟨v2, hv2⟩ : ∃ W, v1.alloc (.cells #[.slice none 0 0, .int .i64 0] 24) = W := ⟨_, rfl⟩
  have fr2 : Fr w v2 w.heap.size [.cells #[.slice A n c, .int .i64 fr] 24, .cells #[.slice none 0 0, .int .i64 0] 24] := hv2 ▸ fr1.more z1 _
  have z2 : v2.heap.size = w.heap.size + 2 := by rw [← hv2, Fr.size1, z1]
  obtain ⟨v3, hv3⟩ : ∃ W, v2.alloc (.cells #[.int .i64 0, .int .i64 0] 26) = W := ⟨_, rfl⟩
  have fr3 : Fr w v3 w.heap.size [.cells #[.slice A n c, .int .i64 fr] 24, .cells #[.slice none 0 0, .int .i64 0] 24, .cells #[.int .i64 0, .int .i64 0] 26] := hv3 ▸ fr2.more z2 _
  have z3 : v3.heap.size = w.heap.size + 3 := by rw [← hv3, Fr.size1, z2]
  generalize hq : w.heap.size = q at *
  have FR := Lib.hid fr3
  clear fr1 fr2 fr3
  have C1 := Lib.hid (CP.out _ (FR.out.es RX.out))
  clear CP
  by_cases h0 : m = 0
  · have b0 : ((m : Int) == 0) = true := by simp [h0]
    have hl0 : l = [] := List.eq_nil_of_length_eq_zero (by rw [HM.out, h0])
    have HE := Lib.hid (show R = rs by rw [← HR.out, hl0]; rfl)
    have HQ := Lib.hid (show laidQ l = (-1, -1) by rw [hl0]; rfl)
    clear hl0 h0 HR
    go_enter Try.func36, Try.ntmps36
    have c00 : v3.cell? ⟨q, 0, none⟩ = some (.slice A n c) := FR.out.cell 0 0 rfl rfl rfl
    have c01 : v3.cell? ⟨q, 1, none⟩ = some (.int .i64 fr) := FR.out.cell 0 1 rfl rfl rfl
    have c10 : v3.cell? ⟨q + 1, 0, none⟩ = some (.slice none 0 0) := FR.out.cell 1 0 rfl rfl rfl
    have c11 : v3.cell? ⟨q + 1, 1, none⟩ = some (.int .i64 0) := FR.out.cell 1 1 rfl rfl rfl
    have c20 : v3.cell? ⟨q + 2, 0, none⟩ = some (.int .i64 0) := FR.out.cell 2 0 rfl rfl rfl
    have c21 : v3.cell? ⟨q + 2, 1, none⟩ = some (.int .i64 0) := FR.out.cell 2 1 rfl rfl rfl
    go_wp2_with fail
    refine (C1.out).mono ?_
    rintro e w4 ⟨B, d, rfl, hown, hb⟩
    clear c00 c01 c10 c11 c20 c21
    replace FR := Lib.hid (FR.out.step hb)
    clear hb
    rw [z3] at hown
    have OW := Lib.hid hown
    clear hown
    have LG := fun g h => (OW.out.lt g h).2
    have geo := FR.out.sz
    simp only [List.length_cons, List.length_nil] at geo
    obtain ⟨w5, hw5⟩ : ∃ W, w4.alloc (.cells #[.slice B n d, .int .i64 fr] 24) = W := ⟨_, rfl⟩
    have hb : Below w4.heap.size w4 w5 := hw5 ▸ (Below.refl _ _).alloc (Nat.le_refl _) _
    have hv : w5.heap[w4.heap.size]? = some (.cells #[.slice B n d, .int .i64 fr] 24) := hw5 ▸ heap_alloc_new _ _
    replace FR := Lib.hid (FR.out.step hb)
    replace OW := Lib.hid (own_below OW.out hb)
    have Vo := Lib.hid hv
    generalize hso : w4.heap.size = so at *
    clear hb hv
    have c00 : w5.cell? ⟨q, 0, none⟩ = some (.slice A n c) := FR.out.cell 0 0 rfl rfl rfl
    have f00 : w5.frozen? ⟨q, 0, none⟩ = false := FR.out.frozen 0 0 rfl rfl
    have c01 : w5.cell? ⟨q, 1, none⟩ = some (.int .i64 fr) := FR.out.cell 0 1 rfl rfl rfl
    have f01 : w5.frozen? ⟨q, 1, none⟩ = false := FR.out.frozen 0 1 rfl rfl
    have c10 : w5.cell? ⟨q + 1, 0, none⟩ = some (.slice none 0 0) := FR.out.cell 1 0 rfl rfl rfl
    have f10 : w5.frozen? ⟨q + 1, 0, none⟩ = false := FR.out.frozen 1 0 rfl rfl
    have c11 : w5.cell? ⟨q + 1, 1, none⟩ = some (.int .i64 0) := FR.out.cell 1 1 rfl rfl rfl
    have f11 : w5.frozen? ⟨q + 1, 1, none⟩ = false := FR.out.frozen 1 1 rfl rfl
    have c20 : w5.cell? ⟨q + 2, 0, none⟩ = some (.int .i64 0) := FR.out.cell 2 0 rfl rfl rfl
    have f20 : w5.frozen? ⟨q + 2, 0, none⟩ = false := FR.out.frozen 2 0 rfl rfl
    have c21 : w5.cell? ⟨q + 2, 1, none⟩ = some (.int .i64 0) := FR.out.cell 2 1 rfl rfl rfl
    have f21 : w5.frozen? ⟨q + 2, 1, none⟩ = false := FR.out.frozen 2 1 rfl rfl
    have co0 : w5.cell? ⟨so, 0, none⟩ = some (.slice B n d) := (blk_cell Vo.out 0).trans rfl
    have fo0 : w5.frozen? ⟨so, 0, none⟩ = false := blk_frozen Vo.out 0
    have co1 : w5.cell? ⟨so, 1, none⟩ = some (.int .i64 fr) := (blk_cell Vo.out 1).trans rfl
    have fo1 : w5.frozen? ⟨so, 1, none⟩ = false := blk_frozen Vo.out 1
    go_wp2
    have FZ : Fr w ((((w5.setCell ⟨q + 1, 0, none⟩ (.slice B n d)).setCell ⟨q + 1, 1, none⟩ (.int .i64 fr)).setCell ⟨q + 2, 0, none⟩ (.int .i64 (-1))).setCell ⟨q + 2, 1, none⟩ (.int .i64 (-1))) q [.cells #[.slice A n c, .int .i64 fr] 24, .cells #[.slice B n d, .int .i64 fr] 24, .cells #[.int .i64 (-1), .int .i64 (-1)] 26] := ((((FR.out.set 1 0 rfl rfl (.slice B n d)).set 1 1 rfl rfl (.int .i64 fr)).set 2 0 rfl rfl (.int .i64 (-1))).set 2 1 rfl rfl (.int .i64 (-1)))
    refine bodyPost_ret (res_cc Try.results36 (by rfl) (by rfl) (FZ.load 1 rfl rfl Try.underlying24 (by kernel_rfl)) (FZ.load 2 rfl rfl Try.underlying26 (by kernel_rfl))) rfl ?_
    have hrs := own_base (own_apart (own_apart (own_apart (own_apart (OW.out) (k := q + 1) (o := 0) (u := .slice B n d) (by omega)) (k := q + 1) (o := 1) (u := .int .i64 fr) (by omega)) (k := q + 2) (o := 0) (u := .int .i64 (-1)) (by omega)) (k := q + 2) (o := 1) (u := .int .i64 (-1)) (by omega)) (show w.heap.size ≤ q + 3 by omega)
    rw [HE.out, HQ.out]
    exact ⟨_, _, _, rfl, hrs, FZ.out⟩
  · have b0 : ((m : Int) == 0) = false := by simp [h0]
    have hnp : 0 < n := by obtain ⟨_, _, x0, _, _, _, hd⟩ := (show Is w A2 m c2 l from IX.out).look 0 (by omega); have := HP.out x0 (by rw [List.drop_zero] at hd; rw [hd]; simp); omega
    go_enter Try.func36, Try.ntmps36
    have c00 : v3.cell? ⟨q, 0, none⟩ = some (.slice A n c) := FR.out.cell 0 0 rfl rfl rfl
    have c01 : v3.cell? ⟨q, 1, none⟩ = some (.int .i64 fr) := FR.out.cell 0 1 rfl rfl rfl
    have c10 : v3.cell? ⟨q + 1, 0, none⟩ = some (.slice none 0 0) := FR.out.cell 1 0 rfl rfl rfl
    have c11 : v3.cell? ⟨q + 1, 1, none⟩ = some (.int .i64 0) := FR.out.cell 1 1 rfl rfl rfl
    have c20 : v3.cell? ⟨q + 2, 0, none⟩ = some (.int .i64 0) := FR.out.cell 2 0 rfl rfl rfl
    have c21 : v3.cell? ⟨q + 2, 1, none⟩ = some (.int .i64 0) := FR.out.cell 2 1 rfl rfl rfl
    go_wp2_with fail
    refine (C1.out).mono ?_
    rintro e w4 ⟨B, d, rfl, hown, hb⟩
    clear c00 c01 c10 c11 c20 c21
    replace FR := Lib.hid (FR.out.step hb)
    clear hb
    rw [z3] at hown
    have OW := Lib.hid hown
    clear hown
    have LG := fun g h => (OW.out.lt g h).2
    have geo := FR.out.sz
    simp only [List.length_cons, List.length_nil] at geo
    obtain ⟨w5, hw5⟩ : ∃ W, w4.alloc (.cells #[.slice B n d, .int .i64 fr] 24) = W := ⟨_, rfl⟩
    have hb : Below w4.heap.size w4 w5 := hw5 ▸ (Below.refl _ _).alloc (Nat.le_refl _) _
    have hv : w5.heap[w4.heap.size]? = some (.cells #[.slice B n d, .int .i64 fr] 24) := hw5 ▸ heap_alloc_new _ _
    replace FR := Lib.hid (FR.out.step hb)
    replace OW := Lib.hid (own_below OW.out hb)
    have Vo := Lib.hid hv
    generalize hso : w4.heap.size = so at *
    clear hb hv
    obtain ⟨g, rfl, hg1, hg2⟩ := own_g OW.out hnp
    have hgo : g < so := LG g (by simp [Value.ownBlock])
    clear LG
    have nog : so ≠ g := Nat.ne_of_gt hgo
    have c00 : w5.cell? ⟨q, 0, none⟩ = some (.slice A n c) := FR.out.cell 0 0 rfl rfl rfl
    have f00 : w5.frozen? ⟨q, 0, none⟩ = false := FR.out.frozen 0 0 rfl rfl
    have c01 : w5.cell? ⟨q, 1, none⟩ = some (.int .i64 fr) := FR.out.cell 0 1 rfl rfl rfl
    have f01 : w5.frozen? ⟨q, 1, none⟩ = false := FR.out.frozen 0 1 rfl rfl
    have c10 : w5.cell? ⟨q + 1, 0, none⟩ = some (.slice none 0 0) := FR.out.cell 1 0 rfl rfl rfl
    have f10 : w5.frozen? ⟨q + 1, 0, none⟩ = false := FR.out.frozen 1 0 rfl rfl
    have c11 : w5.cell? ⟨q + 1, 1, none⟩ = some (.int .i64 0) := FR.out.cell 1 1 rfl rfl rfl
    have f11 : w5.frozen? ⟨q + 1, 1, none⟩ = false := FR.out.frozen 1 1 rfl rfl
    have c20 : w5.cell? ⟨q + 2, 0, none⟩ = some (.int .i64 0) := FR.out.cell 2 0 rfl rfl rfl
    have f20 : w5.frozen? ⟨q + 2, 0, none⟩ = false := FR.out.frozen 2 0 rfl rfl
    have c21 : w5.cell? ⟨q + 2, 1, none⟩ = some (.int .i64 0) := FR.out.cell 2 1 rfl rfl rfl
    have f21 : w5.frozen? ⟨q + 2, 1, none⟩ = false := FR.out.frozen 2 1 rfl rfl
    have co0 : w5.cell? ⟨so, 0, none⟩ = some (.slice (some ⟨g, 0, none⟩) n d) := (blk_cell Vo.out 0).trans rfl
    have fo0 : w5.frozen? ⟨so, 0, none⟩ = false := blk_frozen Vo.out 0
    have co1 : w5.cell? ⟨so, 1, none⟩ = some (.int .i64 fr) := (blk_cell Vo.out 1).trans rfl
    have fo1 : w5.frozen? ⟨so, 1, none⟩ = false := blk_frozen Vo.out 1
    go_wp2
    clear c00 f00 c01 f01 c10 f10 c11 f11 c20 f20 c21 f21 co0 fo0 co1 fo1
    clear hv1 hv2 hv3 z1 z2 z3 hg2
    go_loopw [7, 8] (fun iv _ wr => ∃ (i : Nat) (cur : List Rec3), iv = .int .i64 (i : Int) ∧ i ≤ m ∧ Hid (wr.ownsRow (q + 3) 55 3 (.slice (some ⟨g, 0, none⟩) n d) n (recC cur)) ∧ Hid (Fr w wr q [.cells #[.slice A n c, .int .i64 fr] 24, .cells #[.slice none 0 0, .int .i64 0] 24, .cells #[.int .i64 0, .int .i64 0] 26]) ∧ Hid (wr.heap[so]? = some (.cells #[.slice (some ⟨g, 0, none⟩) n d, .int .i64 fr] 24)) ∧ Hid (laidR cur (l.drop i) = R)) (fun iv _ _ => m - (intOf iv).toNat)
    case atStart => exact ⟨0, rs, rfl, by omega, OW.out, FR.out, Vo.out, HR.out⟩
    case round =>
      clear OW FR Vo HR
      obtain ⟨i, cur, rfl, hi, OW, FR, Vo, HR⟩ := hrel
      have hcl : cur.length = n := by have := OW.out.1; rw [recC_len] at this; omega
      have IW := Lib.hid (FR.out.es IX.out)
      by_cases hlt : i < m
      · have b1 : decide ((i : Int) < (m : Int)) = true := by simpa using hlt
        have c00 : wr.cell? ⟨q, 0, none⟩ = some (.slice A n c) := FR.out.cell 0 0 rfl rfl rfl
        have c01 : wr.cell? ⟨q, 1, none⟩ = some (.int .i64 fr) := FR.out.cell 0 1 rfl rfl rfl
        have c10 : wr.cell? ⟨q + 1, 0, none⟩ = some (.slice none 0 0) := FR.out.cell 1 0 rfl rfl rfl
        have c11 : wr.cell? ⟨q + 1, 1, none⟩ = some (.int .i64 0) := FR.out.cell 1 1 rfl rfl rfl
        have c20 : wr.cell? ⟨q + 2, 0, none⟩ = some (.int .i64 0) := FR.out.cell 2 0 rfl rfl rfl
        have c21 : wr.cell? ⟨q + 2, 1, none⟩ = some (.int .i64 0) := FR.out.cell 2 1 rfl rfl rfl
        have co0 : wr.cell? ⟨so, 0, none⟩ = some (.slice (some ⟨g, 0, none⟩) n d) := (blk_cell Vo.out 0).trans rfl
        have co1 : wr.cell? ⟨so, 1, none⟩ = some (.int .i64 fr) := (blk_cell Vo.out 1).trans rfl
        obtain ⟨lb, loff, x, hA2, hlb, hlc, hdr⟩ := (show Is _ _ m c2 l from IW.out).look i hlt
        have hx := HP.out x (mem_at hdr)
        obtain ⟨k, rfl⟩ : ∃ k : Nat, x = k := ⟨x.toNat, by omega⟩
        have hi0 : (0 : Int) ≤ (i : Int) := by omega
        have hi1 : (i : Int) < (m : Int) := by omega
        have hk0 : (0 : Int) ≤ (k : Int) := hx.1
        have hk1 : (k : Int) < (n : Int) := hx.2
        obtain ⟨e0, e1, e2⟩ := recC_at cur k (by omega)
        have g2 := (OW.out.cellAt (k * 3 + 2) (by omega)).trans e2
        have f2 := OW.out.frozenAt (k * 3 + 2)
        have hls := laid_step hdr HR.out
        have own7 := fun v : Int => (OW.out.stored (k * 3 + 2) (.int .i64 v)).1
        simp only [← recC_next cur k _ (show k < cur.length by omega)] at own7
        have OW7 := Lib.hid own7
        have HLS := Lib.hid hls
        clear e0 e1 e2 own7 hls hx OW HR hcl
        by_cases hlt2 : i + 1 < m
        · have b2 : decide ((i : Int) + 1 < (m : Int)) = true := by simp; omega
          obtain ⟨lb2, loff2, y, hA3, hlb2, hlc2, hdr2⟩ := (show Is _ _ m c2 l from IW.out).look (i + 1) hlt2
          rw [hA2] at hA3; injection hA3 with hA3; injection hA3 with h1 h2; subst h1; subst h2
          have HNX := Lib.hid (headD_drop hdr2)
          have hi2 : (0 : Int) ≤ (i : Int) + 1 := by omega
          have hi3 : (i : Int) + 1 < (m : Int) := by omega
          subst hA2
          clear hdr hdr2 hlb hlb2 IW
          go_wp2
          go_region
          go_wp2
          go_roundw
          case rel => exact ⟨i + 1, _, by go_num, by omega, OW7.out (y), (FR.out.other (by simp only [List.length_cons, List.length_nil]; omega) _).drew, (Below.heap_setCell _ _ _ _ (by simp only; exact nog)).trans Vo.out, HNX.out ▸ HLS.out⟩
          case measure => simp [intOf]; omega
        · have b2 : decide ((i : Int) + 1 < (m : Int)) = false := by simp; omega
          have HNX := Lib.hid (headD_end (l := l) (i := i + 1) (by rw [HM.out]; omega))
          subst hA2
          clear hdr hlb IW
          go_wp2
          go_region
          go_wp2
          go_roundw
          case rel => exact ⟨i + 1, _, by go_num, by omega, OW7.out (-1), (FR.out.other (by simp only [List.length_cons, List.length_nil]; omega) _).drew, (Below.heap_setCell _ _ _ _ (by simp only; exact nog)).trans Vo.out, HNX.out ▸ HLS.out⟩
          case measure => simp [intOf]; omega
      · obtain rfl : i = m := by omega
        have b1 : decide ((i : Int) < (i : Int)) = false := by simp
        obtain ⟨k, hk⟩ : ∃ k, i = k + 1 := ⟨i - 1, by omega⟩
        have c00 : wr.cell? ⟨q, 0, none⟩ = some (.slice A n c) := FR.out.cell 0 0 rfl rfl rfl
        have f00 : wr.frozen? ⟨q, 0, none⟩ = false := FR.out.frozen 0 0 rfl rfl
        have c01 : wr.cell? ⟨q, 1, none⟩ = some (.int .i64 fr) := FR.out.cell 0 1 rfl rfl rfl
        have f01 : wr.frozen? ⟨q, 1, none⟩ = false := FR.out.frozen 0 1 rfl rfl
        have c10 : wr.cell? ⟨q + 1, 0, none⟩ = some (.slice none 0 0) := FR.out.cell 1 0 rfl rfl rfl
        have f10 : wr.frozen? ⟨q + 1, 0, none⟩ = false := FR.out.frozen 1 0 rfl rfl
        have c11 : wr.cell? ⟨q + 1, 1, none⟩ = some (.int .i64 0) := FR.out.cell 1 1 rfl rfl rfl
        have f11 : wr.frozen? ⟨q + 1, 1, none⟩ = false := FR.out.frozen 1 1 rfl rfl
        have c20 : wr.cell? ⟨q + 2, 0, none⟩ = some (.int .i64 0) := FR.out.cell 2 0 rfl rfl rfl
        have f20 : wr.frozen? ⟨q + 2, 0, none⟩ = false := FR.out.frozen 2 0 rfl rfl
        have c21 : wr.cell? ⟨q + 2, 1, none⟩ = some (.int .i64 0) := FR.out.cell 2 1 rfl rfl rfl
        have f21 : wr.frozen? ⟨q + 2, 1, none⟩ = false := FR.out.frozen 2 1 rfl rfl
        have co0 : wr.cell? ⟨so, 0, none⟩ = some (.slice (some ⟨g, 0, none⟩) n d) := (blk_cell Vo.out 0).trans rfl
        have fo0 : wr.frozen? ⟨so, 0, none⟩ = false := blk_frozen Vo.out 0
        have co1 : wr.cell? ⟨so, 1, none⟩ = some (.int .i64 fr) := (blk_cell Vo.out 1).trans rfl
        have fo1 : wr.frozen? ⟨so, 1, none⟩ = false := blk_frozen Vo.out 1
        obtain ⟨lb, loff, x, hA2, hlb, hlc, hdr⟩ := (show Is _ _ i c2 l from IX.out).look 0 (by omega)
        have nl1 : lb ≠ q + 1 := by omega
        have nl2 := nl1.symm
        have ns1 : so ≠ q + 1 := by omega
        have ns2 := ns1.symm
        have ns3 : so ≠ q + 2 := by omega
        have ns4 := ns3.symm
        have hlq : lb < q := by omega
        replace hlc := (FR.out.bel.cell (p := ⟨lb, loff + 0, none⟩) (by simp only; omega)).trans hlc
        obtain ⟨lb2, loff2, y, hA3, hlb2, hlc2, hdr2⟩ := (show Is _ _ i c2 l from IW.out).look k (by omega)
        rw [hA2] at hA3; injection hA3 with hA3; injection hA3 with h1 h2; subst h1; subst h2
        have HQ := Lib.hid (show laidQ l = (x, y) from Prod.ext (by rw [List.drop_zero] at hdr; show headD' l = x; rw [hdr]; rfl) (lastD_at (by rw [HM.out, hk]) hdr2))
        have HE := Lib.hid (show R = cur by rw [← HR.out, List.drop_of_length_le (Nat.le_of_eq HM.out)]; rfl)
        have hm1 : IntKind.i64.wrap ((i : Int) - 1) = (k : Int) := by rw [IntKind.wrap_i64]; omega
        have hi0 : (0 : Int) < (i : Int) := by omega
        have hi0n : 0 < i := by omega
        have hk0 : (0 : Int) ≤ (k : Int) := by omega
        have hk1 : (k : Int) < (i : Int) := by omega
        subst hA2
        rw [Nat.add_zero] at hlc
        clear nl1 nl2
        clear hdr hdr2 hlb hlb2 IW hk HR hcl
        go_wp2
        refine wp_region_noPanic ?_
        refine wp_region_held_drew (S := (fun wv => Hid (wv.heap[so]? = some (.cells #[.slice (some ⟨g, 0, none⟩) n d, .int .i64 fr] 24) ∧ Below q wr wv))) (by kernel_rfl) (Lib.hid ⟨Vo.out, (Below.refl q wr).drew⟩) (fun hS => ?_)
        refine wpAnyH_take (i := 0) (oi := ⟨some 41, .load 24 (.tmp 6), 24, "ref.go:64", #[], none⟩) (v := .agg (([.slice (some ⟨g, 0, none⟩) n d, .int .i64 fr] : List Value)).toArray) rfl (by kernel_rfl) (by kernel_rfl) (by kernel_rfl) (fun _ _ _ h => h) (yieldsIf_load_mid (by rfl) _ _ (by rfl) (so) 0 (by rfl) (([.slice (some ⟨g, 0, none⟩) n d, .int .i64 fr] : List Value)) _ (fun wv hS => blk_rngs hS.out.1) Try.underlying24 (by rfl) (by kernel_rfl)) hS ?_
        try simp only [Act.put, List.setIfInBounds_toArray, List.set_cons_zero, List.set_cons_succ]
        refine wpAnyH_take (i := 1) (oi := ⟨some 42, .move (.tmp 1), 37, "ref.go:64", #[⟨11, .gcOnly .lateStores⟩], none⟩) (v := ?_) rfl (by kernel_rfl) (by kernel_rfl) (by kernel_rfl) (fun _ _ _ h => h) (Or.inl ⟨by rfl, ?_⟩) hS ?_
        rotate_left
        · intro wv _; go_simp; try with_reducible rfl
        try simp only [Act.put, List.setIfInBounds_toArray, List.set_cons_zero, List.set_cons_succ]
        refine wpAnyH_take (i := 2) (oi := ⟨some 43, .indexAddr 37 (.tmp 42) (.const (Value.int IntKind.i64 0)), 0, "ref.go:64", #[⟨1, .data⟩, ⟨11, .gcOnly .lateStores⟩], none⟩) (v := ?_) rfl (by kernel_rfl) (by kernel_rfl) (by kernel_rfl) (fun _ _ _ h => h) (Or.inl ⟨by rfl, ?_⟩) hS ?_
        rotate_left
        · intro wv _; go_simp; try with_reducible rfl
        try simp only [Act.put, List.setIfInBounds_toArray, List.set_cons_zero, List.set_cons_succ]
        refine wpAnyH_take (i := 3) (oi := ⟨some 44, .load 3 (.tmp 43), 3, "ref.go:64", #[⟨2, .data⟩, ⟨11, .gcOnly .lateStores⟩], none⟩) (v := ?_) rfl (by kernel_rfl) (by kernel_rfl) (by kernel_rfl) (fun _ _ _ h => h) (Or.inl ⟨by rfl, ?_⟩) hS ?_
        rotate_left
        · intro wv hS; have hrun := (hS.out.2.cell (p := ⟨lb, loff, none⟩) hlq).trans hlc; go_simp; try with_reducible rfl
        try simp only [Act.put, List.setIfInBounds_toArray, List.set_cons_zero, List.set_cons_succ]
        refine wpAnyH_take (i := 4) (oi := ⟨some 45, .move (.tmp 1), 37, "ref.go:64", #[⟨11, .gcOnly .lateStores⟩], none⟩) (v := ?_) rfl (by kernel_rfl) (by kernel_rfl) (by kernel_rfl) (fun _ _ _ h => h) (Or.inl ⟨by rfl, ?_⟩) hS ?_
        rotate_left
        · intro wv _; go_simp; try with_reducible rfl
        try simp only [Act.put, List.setIfInBounds_toArray, List.set_cons_zero, List.set_cons_succ]
        refine wpAnyH_take (i := 5) (oi := ⟨some 46, .move (.tmp 1), 37, "ref.go:64", #[], none⟩) (v := ?_) rfl (by kernel_rfl) (by kernel_rfl) (by kernel_rfl) (fun _ _ _ h => h) (Or.inl ⟨by rfl, ?_⟩) hS ?_
        rotate_left
        · intro wv _; go_simp; try with_reducible rfl
        try simp only [Act.put, List.setIfInBounds_toArray, List.set_cons_zero, List.set_cons_succ]
        refine wpAnyH_take (i := 6) (oi := ⟨some 47, .call { callee := .builtin .len, args := #[.tmp 46], argTypes := #[37] }, 3, "ref.go:64", #[⟨5, .data⟩], none⟩) (v := ?_) rfl (by kernel_rfl) (by kernel_rfl) (by kernel_rfl) (fun _ _ _ h => h) (Or.inl ⟨by rfl, ?_⟩) hS ?_
        rotate_left
        · intro wv _; go_simp; try with_reducible rfl
        try simp only [Act.put, List.setIfInBounds_toArray, List.set_cons_zero, List.set_cons_succ]
        refine wpAnyH_take (i := 7) (oi := ⟨some 48, .binOp .sub 3 (.tmp 47) (.const (Value.int IntKind.i64 1)) 3, 3, "ref.go:64", #[⟨6, .data⟩, ⟨11, .gcOnly .lateStores⟩], none⟩) (v := ?_) rfl (by kernel_rfl) (by kernel_rfl) (by kernel_rfl) (fun _ _ _ h => h) (Or.inl ⟨by rfl, ?_⟩) hS ?_
        rotate_left
        · intro wv _; go_simp; try with_reducible rfl
        try simp only [Act.put, List.setIfInBounds_toArray, List.set_cons_zero, List.set_cons_succ]
        refine wpAnyH_take (i := 8) (oi := ⟨some 49, .indexAddr 37 (.tmp 45) (.tmp 48), 0, "ref.go:64", #[⟨4, .data⟩, ⟨7, .data⟩, ⟨11, .gcOnly .lateStores⟩], none⟩) (v := ?_) rfl (by kernel_rfl) (by kernel_rfl) (by kernel_rfl) (fun _ _ _ h => h) (Or.inl ⟨by rfl, ?_⟩) hS ?_
        rotate_left
        · intro wv _; go_simp; try with_reducible rfl
        try simp only [Act.put, List.setIfInBounds_toArray, List.set_cons_zero, List.set_cons_succ]
        refine wpAnyH_take (i := 9) (oi := ⟨some 50, .load 3 (.tmp 49), 3, "ref.go:64", #[⟨8, .data⟩, ⟨11, .gcOnly .lateStores⟩], none⟩) (v := ?_) rfl (by kernel_rfl) (by kernel_rfl) (by kernel_rfl) (fun _ _ _ h => h) (Or.inl ⟨by rfl, ?_⟩) hS ?_
        rotate_left
        · intro wv hS; have hrun := (hS.out.2.cell (p := ⟨lb, loff + k, none⟩) hlq).trans hlc2; go_simp; try with_reducible rfl
        try simp only [Act.put, List.setIfInBounds_toArray, List.set_cons_zero, List.set_cons_succ]
        refine wpAnyH_take (i := 10) (oi := ⟨some 51, .build 26 #[(0, .tmp 44), (1, .tmp 50)], 26, "ref.go:64", #[⟨3, .data⟩, ⟨9, .data⟩, ⟨11, .gcOnly .lateStores⟩], none⟩) (v := ?_) rfl (by kernel_rfl) (by kernel_rfl) (by kernel_rfl) (fun _ _ _ h => h) (Or.inl ⟨by rfl, ?_⟩) hS ?_
        rotate_left
        · intro wv _; go_simp; try with_reducible rfl
        try simp only [Act.put, List.setIfInBounds_toArray, List.set_cons_zero, List.set_cons_succ]
        refine wpAnyH_ready (rs := [11]) (by kernel_rfl) (by simp) (AllReadyH.cons (o := ⟨none, .store 24 (.tmp 4) (.tmp 41), 0, "ref.go:64", #[⟨0, .data⟩, ⟨0, .phase⟩, ⟨1, .textOnly .lateStores⟩, ⟨2, .textOnly .lateStores⟩, ⟨3, .textOnly .lateStores⟩, ⟨4, .textOnly .lateStores⟩, ⟨5, .textOnly .lateStores⟩, ⟨6, .textOnly .lateStoresUnsure⟩, ⟨7, .textOnly .lateStores⟩, ⟨8, .textOnly .lateStores⟩, ⟨9, .textOnly .lateStores⟩, ⟨10, .textOnly .lateStores⟩], none⟩) rfl (fun K hK => ?_) AllReadyH.nil)
        go_simp
        replace hS := Lib.hid <| And.intro (keep_pair hS.out.1 ns1 (.slice (some ⟨g, 0, none⟩) n d) (.int .i64 fr)) (bel_pair hS.out.2 (show q ≤ q + 1 by omega) (.slice (some ⟨g, 0, none⟩) n d) (.int .i64 fr))
        refine Shut.out hK _ _ hS (fun _ => ?_)
        clear hK K
        try simp only [Act.put, List.setIfInBounds_toArray, List.set_cons_zero, List.set_cons_succ]
        refine wpAnyH_ready (rs := [12]) (by kernel_rfl) (by simp) (AllReadyH.cons (o := ⟨none, .store 26 (.tmp 5) (.tmp 51), 0, "ref.go:64", #[⟨10, .data⟩, ⟨11, .chain⟩, ⟨0, .phase⟩, ⟨1, .phase⟩, ⟨2, .phase⟩, ⟨3, .phase⟩, ⟨4, .phase⟩, ⟨5, .phase⟩, ⟨6, .phase⟩, ⟨7, .phase⟩, ⟨8, .phase⟩, ⟨9, .phase⟩, ⟨10, .phase⟩, ⟨11, .phase⟩], none⟩) rfl (fun K hK => ?_) AllReadyH.nil)
        go_simp
        replace hS := Lib.hid <| And.intro (keep_pair hS.out.1 ns3 (.int .i64 x) (.int .i64 y)) (bel_pair hS.out.2 (show q ≤ q + 2 by omega) (.int .i64 x) (.int .i64 y))
        refine Shut.out hK _ _ hS (fun _ => ?_)
        clear hK K
        try simp only [Act.put, List.setIfInBounds_toArray, List.set_cons_zero, List.set_cons_succ]
        refine wpAnyH_done (by kernel_rfl) ?_ _
        refine NoPanic.normal ?_
        go_wp2
        have FZ : Fr w (((((wr.setCell ⟨q + 1, 0, none⟩ (.slice (some ⟨g, 0, none⟩) n d)).setCell ⟨q + 1, 1, none⟩ (.int .i64 fr)).setCell ⟨q + 2, 0, none⟩ (.int .i64 x)).setCell ⟨q + 2, 1, none⟩ (.int .i64 y))).drew q [.cells #[.slice A n c, .int .i64 fr] 24, .cells #[.slice (some ⟨g, 0, none⟩) n d, .int .i64 fr] 24, .cells #[.int .i64 x, .int .i64 y] 26] := (((((FR.out.set 1 0 rfl rfl (.slice (some ⟨g, 0, none⟩) n d)).set 1 1 rfl rfl (.int .i64 fr)).set 2 0 rfl rfl (.int .i64 x)).set 2 1 rfl rfl (.int .i64 y))).drew
        refine bodyPost_ret (res_cc Try.results36 (by rfl) (by rfl) (FZ.load 1 rfl rfl Try.underlying24 (by kernel_rfl)) (FZ.load 2 rfl rfl Try.underlying26 (by kernel_rfl))) rfl ?_
        have hrs := own_base (own_apart (own_apart (own_apart (own_apart (OW.out) (k := q + 1) (o := 0) (u := .slice (some ⟨g, 0, none⟩) n d) (by omega)) (k := q + 1) (o := 1) (u := .int .i64 fr) (by omega)) (k := q + 2) (o := 0) (u := .int .i64 x) (by omega)) (k := q + 2) (o := 1) (u := .int .i64 y) (by omega)) (show w.heap.size ≤ q + 3 by omega)
        rw [HE.out, HQ.out]
        exact ⟨_, _, _, rfl, hrs, FZ.out⟩
end Go.Proofs.Ytombfempdfdeoaa
