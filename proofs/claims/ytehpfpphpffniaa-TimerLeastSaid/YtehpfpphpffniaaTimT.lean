/- The walk of TimerAnswers: it answers true, over any world; no condition. -/
import Derived.Test.YtehpfpphpffniaaTimS
namespace Go.Proofs.Ytehpfpphpffniaa
set_option linter.unusedVariables false
set_option linter.unusedSimpArgs false
open Go.RowKit
set_option maxRecDepth 100000 in
set_option maxHeartbeats 8000000 in
theorem answers12_walk (A : Option Addr) (n c : Nat) (h : List Tm) (x0 x1 k : Int) (w : World) (hx : Tms w A n c h) :
    Calls Try.prog 3 #[.slice A n c, .agg #[.int .i64 x0, .int .i64 x1], .int .i64 k] w fun e w' => e = .returned (.bool true) ∧ Below w.heap.size w w' := by
  have hlen := hx.len
  have RX := Lib.hid hx
  clear hx
  have HB := Lib.hid (And.intro (Below.refl w.heap.size w) (Nat.le_refl w.heap.size))
  have gq := HB.out.2
  obtain ⟨w1, hw1⟩ : ∃ W, (w.alloc (.cells #[.int .i64 x0, .int .i64 x1] 24)) = W := ⟨_, rfl⟩
  have hb : Below w.heap.size w w1 := hw1 ▸ ((Below.refl _ _).alloc (Nat.le_refl _) _)
  have hv0 : w1.heap[w.heap.size]? = some (.cells #[.int .i64 x0, .int .i64 x1] 24) := by
    have h0 := heap_alloc_new w (.cells #[.int .i64 x0, .int .i64 x1] 24)
    rw [show w.heap.size = w.heap.size by simp [Nat.add_assoc]] at h0
    rw [← hw1]
    exact h0
  replace RX := Lib.hid (Es.below RX.out hb)
  replace HB := Lib.hid (And.intro (HB.out.1.trans (hb.mono HB.out.2)) (Nat.le_trans HB.out.2 hb.size))
  have Vt := Lib.hid hv0
  have get := gq
  generalize hst : w.heap.size = st at *
  clear hb gq hv0
  subst hst
  by_cases hn : (30 : Int) < (n : Int)
  · have b0 : decide ((30 : Int) < (n : Int)) = true := decide_eq_true hn
    have b0n : decide (30 < n) = true := by simp; omega
    clear hn
    go_enter Try.func3, Try.ntmps3
    go_wp2_with fail
    refine (alive12 _).mono ?_
    rintro e w2 ⟨rfl, hb⟩
    replace Vt := Lib.hid (blk_below Vt.out hb (blk_lt Vt.out))
    replace RX := Lib.hid (Es.below RX.out hb)
    replace HB := Lib.hid (And.intro (HB.out.1.trans (hb.mono HB.out.2)) (Nat.le_trans HB.out.2 hb.size))
    clear hb
    go_wp2
    go_ret
    exact ⟨rfl, HB.out.1⟩
  · have b0 : decide ((30 : Int) < (n : Int)) = false := decide_eq_false hn
    have b0n : decide (30 < n) = false := by simp; omega
    have hn1 : n ≤ 30 := by omega
    clear hn
    obtain ⟨⟨al, ae⟩, hA⟩ : ∃ P, pushH h (x0, x1) = P := ⟨_, rfl⟩
    obtain ⟨⟨cs, ⟨y0, y1⟩, ce⟩, hC⟩ : ∃ P, popH h = P := ⟨_, rfl⟩
    obtain ⟨⟨ps, pe⟩, hP⟩ : ∃ P, dropH h k = P := ⟨_, rfl⟩
    obtain ⟨yb, hyb⟩ : ∃ b, rightH h = b := ⟨_, rfl⟩
    have hal : al.length ≤ 70 := by have := push_len12 h (x0, x1); rw [hA] at this; simp only at this; omega
    have hcl : cs.length ≤ 70 := by have := pop_len12 h; rw [hC] at this; simp only at this; omega
    have hpl : ps.length ≤ 70 := by have := drop_len12 h k; rw [hP] at this; simp only at this; omega
    have hll : h.length ≤ 70 := by omega
    have c1 := Lib.hid (show ∀ B m d W, Tms W B m d h → Calls Try.prog 9 #[.slice B m d, .agg #[.int .i64 x0, .int .i64 x1]] W (HW W al ae) from fun B m d W hx => pushAs12 x0 x1 hx (by have := hx.len; omega) hA)
    have c2 := Lib.hid (show ∀ B m d W, Tms W B m d h → Calls Try.prog 10 #[.slice B m d, .agg #[.int .i64 x0, .int .i64 x1]] W (HW W al ae) from fun B m d W hx => by have hq := refPush12_any B m d h x0 x1 W hx (by have := hx.len; omega); rw [hA] at hq; exact hq.mono fun _ _ hq => hq.as)
    have c3 := Lib.hid (show ∀ B m d W, Tms W B m d h → Calls Try.prog 11 #[.slice B m d] W (PW W cs y0 y1 ce) from fun B m d W hx => popAs12 hx (by have := hx.len; omega) hC)
    have c4 := Lib.hid (show ∀ B m d W, Tms W B m d h → Calls Try.prog 12 #[.slice B m d] W (PW W cs y0 y1 ce) from fun B m d W hx => by have hq := refPop12_any B m d h W hx (by have := hx.len; omega); rw [hC] at hq; exact hq.mono fun _ _ hq => hq.as)
    have c5 := Lib.hid (show ∀ B m d W, Tms W B m d h → Calls Try.prog 13 #[.slice B m d, .int .i64 k] W (HW W ps pe) from fun B m d W hx => dropAs12 k hx (by have := hx.len; omega) hP)
    have c6 := Lib.hid (show ∀ B m d W, Tms W B m d h → Calls Try.prog 14 #[.slice B m d, .int .i64 k] W (HW W ps pe) from fun B m d W hx => by have hq := refDrop12_any B m d h k W hx (by have := hx.len; omega); rw [hP] at hq; exact hq.mono fun _ _ hq => hq.as)
    have c7 := Lib.hid (show ∀ B m d W, Tms W B m d h → Calls Try.prog 16 #[.slice B m d] W (YesT W yb) from fun B m d W hx => rightAs12 hx (by have := hx.len; omega) hyb)
    have c8 := Lib.hid (show ∀ B m d W, Tms W B m d h → Calls Try.prog 17 #[.slice B m d] W (YesT W yb) from fun B m d W hx => hyb ▸ refRight12_any B m d h W hx (by have := hx.len; omega))
    have c11 := Lib.hid (show ∀ W, Tms W A n c h → Calls Try.prog 8 #[.slice A n c] W (SW W h) from fun W hw => (refCopy12_any A n c h W hw (by omega)).mono fun _ _ hq => hq.as)
    have c12 := Lib.hid (show ∀ (xs : List Tm) (A B : Option Addr) (m d m2 d2 : Nat) W, xs.length ≤ 70 → Tms W A m d xs → Tms W B m2 d2 xs → Calls Try.prog 15 #[.slice A m d, .slice B m2 d2] W (YesT W true) from fun xs A B m d m2 d2 W hl h1 h2 => sameAs12 h1 h2 (by have := h1.len; omega) rfl)
    clear hA hC hP hyb
    go_enter Try.func3, Try.ntmps3
    go_wp2_with fail
    refine (alive12 _).mono ?_
    rintro e w2 ⟨rfl, hb⟩
    replace Vt := Lib.hid (blk_below Vt.out hb (blk_lt Vt.out))
    replace RX := Lib.hid (Es.below RX.out hb)
    replace HB := Lib.hid (And.intro (HB.out.1.trans (hb.mono HB.out.2)) (Nat.le_trans HB.out.2 hb.size))
    clear hb
    go_wp2_with fail
    refine (c11.out _ RX.out).mono ?_
    rintro e w3 ⟨B1, m1, d1, rfl, hrs, hb⟩
    replace Vt := Lib.hid (blk_below Vt.out hb (blk_lt Vt.out))
    replace RX := Lib.hid (Es.below RX.out hb)
    replace HB := Lib.hid (And.intro (HB.out.1.trans (hb.mono HB.out.2)) (Nat.le_trans HB.out.2 hb.size))
    clear hb
    have H1 := Lib.hid hrs
    clear hrs
    have ct0 : w3.cell? ⟨w.heap.size, 0, none⟩ = some (.int .i64 x0) := (blk_cell Vt.out 0).trans rfl
    have ct1 : w3.cell? ⟨w.heap.size, 1, none⟩ = some (.int .i64 x1) := (blk_cell Vt.out 1).trans rfl
    go_wp2_with fail
    refine (c1.out _ _ _ _ H1.out).mono ?_
    rintro e w4 ⟨B2, m2, d2, rfl, hrs, hb⟩
    clear ct0 ct1
    replace Vt := Lib.hid (blk_below Vt.out hb (blk_lt Vt.out))
    replace RX := Lib.hid (Es.below RX.out hb)
    replace H1 := Lib.hid (Es.below H1.out hb)
    replace HB := Lib.hid (And.intro (HB.out.1.trans (hb.mono HB.out.2)) (Nat.le_trans HB.out.2 hb.size))
    clear hb
    have H2 := Lib.hid hrs
    clear hrs
    have ct0 : w4.cell? ⟨w.heap.size, 0, none⟩ = some (.int .i64 x0) := (blk_cell Vt.out 0).trans rfl
    have ct1 : w4.cell? ⟨w.heap.size, 1, none⟩ = some (.int .i64 x1) := (blk_cell Vt.out 1).trans rfl
    go_wp2_with fail
    refine (c2.out _ _ _ _ RX.out).mono ?_
    rintro e w5 ⟨B3, m3, d3, rfl, hrs, hb⟩
    clear ct0 ct1
    replace Vt := Lib.hid (blk_below Vt.out hb (blk_lt Vt.out))
    replace RX := Lib.hid (Es.below RX.out hb)
    replace H1 := Lib.hid (Es.below H1.out hb)
    replace H2 := Lib.hid (Es.below H2.out hb)
    replace HB := Lib.hid (And.intro (HB.out.1.trans (hb.mono HB.out.2)) (Nat.le_trans HB.out.2 hb.size))
    clear hb
    have H3 := Lib.hid hrs
    clear hrs
    go_wp2_with fail
    refine (c3.out _ _ _ _ H1.out).mono ?_
    rintro e w6 ⟨B4, m4, d4, rfl, hrs, hb⟩
    replace Vt := Lib.hid (blk_below Vt.out hb (blk_lt Vt.out))
    replace RX := Lib.hid (Es.below RX.out hb)
    replace H1 := Lib.hid (Es.below H1.out hb)
    replace H2 := Lib.hid (Es.below H2.out hb)
    replace H3 := Lib.hid (Es.below H3.out hb)
    replace HB := Lib.hid (And.intro (HB.out.1.trans (hb.mono HB.out.2)) (Nat.le_trans HB.out.2 hb.size))
    clear hb
    have H4 := Lib.hid hrs
    clear hrs
    have ltt := blk_lt Vt.out
    have gq := HB.out.2
    obtain ⟨w7, hw7⟩ : ∃ W, (w6.alloc (.cells #[.int .i64 y0, .int .i64 y1] 24)) = W := ⟨_, rfl⟩
    have hb : Below w6.heap.size w6 w7 := hw7 ▸ ((Below.refl _ _).alloc (Nat.le_refl _) _)
    have hv0 : w7.heap[w6.heap.size]? = some (.cells #[.int .i64 y0, .int .i64 y1] 24) := by
      have h0 := heap_alloc_new w6 (.cells #[.int .i64 y0, .int .i64 y1] 24)
      rw [show w6.heap.size = w6.heap.size by simp [Nat.add_assoc]] at h0
      rw [← hw7]
      exact h0
    replace Vt := Lib.hid (blk_below Vt.out hb (blk_lt Vt.out))
    replace RX := Lib.hid (Es.below RX.out hb)
    replace H1 := Lib.hid (Es.below H1.out hb)
    replace H2 := Lib.hid (Es.below H2.out hb)
    replace H3 := Lib.hid (Es.below H3.out hb)
    replace H4 := Lib.hid (Es.below H4.out hb)
    replace HB := Lib.hid (And.intro (HB.out.1.trans (hb.mono HB.out.2)) (Nat.le_trans HB.out.2 hb.size))
    have Vx := Lib.hid hv0
    have net_x := Nat.ne_of_lt ltt
    have gex := gq
    generalize hsx : w6.heap.size = sx at *
    clear hb gq hv0 ltt
    go_wp2_with fail
    refine (c4.out _ _ _ _ RX.out).mono ?_
    rintro e w8 ⟨B5, m5, d5, rfl, hrs, hb⟩
    replace Vt := Lib.hid (blk_below Vt.out hb (blk_lt Vt.out))
    replace Vx := Lib.hid (blk_below Vx.out hb (blk_lt Vx.out))
    replace RX := Lib.hid (Es.below RX.out hb)
    replace H1 := Lib.hid (Es.below H1.out hb)
    replace H2 := Lib.hid (Es.below H2.out hb)
    replace H3 := Lib.hid (Es.below H3.out hb)
    replace H4 := Lib.hid (Es.below H4.out hb)
    replace HB := Lib.hid (And.intro (HB.out.1.trans (hb.mono HB.out.2)) (Nat.le_trans HB.out.2 hb.size))
    clear hb
    have H5 := Lib.hid hrs
    clear hrs
    have ltt := blk_lt Vt.out
    have ltx := blk_lt Vx.out
    have gq := HB.out.2
    obtain ⟨w9, hw9⟩ : ∃ W, (w8.alloc (.cells #[.int .i64 y0, .int .i64 y1] 24)) = W := ⟨_, rfl⟩
    have hb : Below w8.heap.size w8 w9 := hw9 ▸ ((Below.refl _ _).alloc (Nat.le_refl _) _)
    have hv0 : w9.heap[w8.heap.size]? = some (.cells #[.int .i64 y0, .int .i64 y1] 24) := by
      have h0 := heap_alloc_new w8 (.cells #[.int .i64 y0, .int .i64 y1] 24)
      rw [show w8.heap.size = w8.heap.size by simp [Nat.add_assoc]] at h0
      rw [← hw9]
      exact h0
    replace Vt := Lib.hid (blk_below Vt.out hb (blk_lt Vt.out))
    replace Vx := Lib.hid (blk_below Vx.out hb (blk_lt Vx.out))
    replace RX := Lib.hid (Es.below RX.out hb)
    replace H1 := Lib.hid (Es.below H1.out hb)
    replace H2 := Lib.hid (Es.below H2.out hb)
    replace H3 := Lib.hid (Es.below H3.out hb)
    replace H4 := Lib.hid (Es.below H4.out hb)
    replace H5 := Lib.hid (Es.below H5.out hb)
    replace HB := Lib.hid (And.intro (HB.out.1.trans (hb.mono HB.out.2)) (Nat.le_trans HB.out.2 hb.size))
    have Vy := Lib.hid hv0
    have net_y := Nat.ne_of_lt ltt
    have nex_y := Nat.ne_of_lt ltx
    have gey := gq
    generalize hsy : w8.heap.size = sy at *
    clear hb gq hv0 ltt ltx
    go_wp2_with fail
    refine (c5.out _ _ _ _ H1.out).mono ?_
    rintro e w10 ⟨B6, m6, d6, rfl, hrs, hb⟩
    replace Vt := Lib.hid (blk_below Vt.out hb (blk_lt Vt.out))
    replace Vx := Lib.hid (blk_below Vx.out hb (blk_lt Vx.out))
    replace Vy := Lib.hid (blk_below Vy.out hb (blk_lt Vy.out))
    replace RX := Lib.hid (Es.below RX.out hb)
    replace H1 := Lib.hid (Es.below H1.out hb)
    replace H2 := Lib.hid (Es.below H2.out hb)
    replace H3 := Lib.hid (Es.below H3.out hb)
    replace H4 := Lib.hid (Es.below H4.out hb)
    replace H5 := Lib.hid (Es.below H5.out hb)
    replace HB := Lib.hid (And.intro (HB.out.1.trans (hb.mono HB.out.2)) (Nat.le_trans HB.out.2 hb.size))
    clear hb
    have H6 := Lib.hid hrs
    clear hrs
    go_wp2_with fail
    refine (c6.out _ _ _ _ RX.out).mono ?_
    rintro e w11 ⟨B7, m7, d7, rfl, hrs, hb⟩
    replace Vt := Lib.hid (blk_below Vt.out hb (blk_lt Vt.out))
    replace Vx := Lib.hid (blk_below Vx.out hb (blk_lt Vx.out))
    replace Vy := Lib.hid (blk_below Vy.out hb (blk_lt Vy.out))
    replace RX := Lib.hid (Es.below RX.out hb)
    replace H1 := Lib.hid (Es.below H1.out hb)
    replace H2 := Lib.hid (Es.below H2.out hb)
    replace H3 := Lib.hid (Es.below H3.out hb)
    replace H4 := Lib.hid (Es.below H4.out hb)
    replace H5 := Lib.hid (Es.below H5.out hb)
    replace H6 := Lib.hid (Es.below H6.out hb)
    replace HB := Lib.hid (And.intro (HB.out.1.trans (hb.mono HB.out.2)) (Nat.le_trans HB.out.2 hb.size))
    clear hb
    have H7 := Lib.hid hrs
    clear hrs
    go_wp2_with fail
    refine (c12.out _ _ _ _ _ _ _ _ hal H2.out H3.out).mono ?_
    rintro e w12 ⟨rfl, hb⟩
    replace Vt := Lib.hid (blk_below Vt.out hb (blk_lt Vt.out))
    replace Vx := Lib.hid (blk_below Vx.out hb (blk_lt Vx.out))
    replace Vy := Lib.hid (blk_below Vy.out hb (blk_lt Vy.out))
    replace RX := Lib.hid (Es.below RX.out hb)
    replace H1 := Lib.hid (Es.below H1.out hb)
    replace H2 := Lib.hid (Es.below H2.out hb)
    replace H3 := Lib.hid (Es.below H3.out hb)
    replace H4 := Lib.hid (Es.below H4.out hb)
    replace H5 := Lib.hid (Es.below H5.out hb)
    replace H6 := Lib.hid (Es.below H6.out hb)
    replace H7 := Lib.hid (Es.below H7.out hb)
    replace HB := Lib.hid (And.intro (HB.out.1.trans (hb.mono HB.out.2)) (Nat.le_trans HB.out.2 hb.size))
    clear hb
    go_wp2_with fail
    refine (c12.out _ _ _ _ _ _ _ _ hcl H4.out H5.out).mono ?_
    rintro e w13 ⟨rfl, hb⟩
    replace Vt := Lib.hid (blk_below Vt.out hb (blk_lt Vt.out))
    replace Vx := Lib.hid (blk_below Vx.out hb (blk_lt Vx.out))
    replace Vy := Lib.hid (blk_below Vy.out hb (blk_lt Vy.out))
    replace RX := Lib.hid (Es.below RX.out hb)
    replace H1 := Lib.hid (Es.below H1.out hb)
    replace H2 := Lib.hid (Es.below H2.out hb)
    replace H3 := Lib.hid (Es.below H3.out hb)
    replace H4 := Lib.hid (Es.below H4.out hb)
    replace H5 := Lib.hid (Es.below H5.out hb)
    replace H6 := Lib.hid (Es.below H6.out hb)
    replace H7 := Lib.hid (Es.below H7.out hb)
    replace HB := Lib.hid (And.intro (HB.out.1.trans (hb.mono HB.out.2)) (Nat.le_trans HB.out.2 hb.size))
    clear hb
    have cx0 : w13.cell? ⟨sx, 0, none⟩ = some (.int .i64 y0) := (blk_cell Vx.out 0).trans rfl
    have cx1 : w13.cell? ⟨sx, 1, none⟩ = some (.int .i64 y1) := (blk_cell Vx.out 1).trans rfl
    have cy0 : w13.cell? ⟨sy, 0, none⟩ = some (.int .i64 y0) := (blk_cell Vy.out 0).trans rfl
    have cy1 : w13.cell? ⟨sy, 1, none⟩ = some (.int .i64 y1) := (blk_cell Vy.out 1).trans rfl
    go_wp2_with fail
    refine (c12.out _ _ _ _ _ _ _ _ hpl H6.out H7.out).mono ?_
    rintro e w14 ⟨rfl, hb⟩
    clear cx0 cx1 cy0 cy1
    replace Vt := Lib.hid (blk_below Vt.out hb (blk_lt Vt.out))
    replace Vx := Lib.hid (blk_below Vx.out hb (blk_lt Vx.out))
    replace Vy := Lib.hid (blk_below Vy.out hb (blk_lt Vy.out))
    replace RX := Lib.hid (Es.below RX.out hb)
    replace H1 := Lib.hid (Es.below H1.out hb)
    replace H2 := Lib.hid (Es.below H2.out hb)
    replace H3 := Lib.hid (Es.below H3.out hb)
    replace H4 := Lib.hid (Es.below H4.out hb)
    replace H5 := Lib.hid (Es.below H5.out hb)
    replace H6 := Lib.hid (Es.below H6.out hb)
    replace H7 := Lib.hid (Es.below H7.out hb)
    replace HB := Lib.hid (And.intro (HB.out.1.trans (hb.mono HB.out.2)) (Nat.le_trans HB.out.2 hb.size))
    clear hb
    go_wp2_with fail
    refine (c7.out _ _ _ _ RX.out).mono ?_
    rintro e w15 ⟨rfl, hb⟩
    replace Vt := Lib.hid (blk_below Vt.out hb (blk_lt Vt.out))
    replace Vx := Lib.hid (blk_below Vx.out hb (blk_lt Vx.out))
    replace Vy := Lib.hid (blk_below Vy.out hb (blk_lt Vy.out))
    replace RX := Lib.hid (Es.below RX.out hb)
    replace H1 := Lib.hid (Es.below H1.out hb)
    replace H2 := Lib.hid (Es.below H2.out hb)
    replace H3 := Lib.hid (Es.below H3.out hb)
    replace H4 := Lib.hid (Es.below H4.out hb)
    replace H5 := Lib.hid (Es.below H5.out hb)
    replace H6 := Lib.hid (Es.below H6.out hb)
    replace H7 := Lib.hid (Es.below H7.out hb)
    replace HB := Lib.hid (And.intro (HB.out.1.trans (hb.mono HB.out.2)) (Nat.le_trans HB.out.2 hb.size))
    clear hb
    go_wp2_with fail
    refine (c8.out _ _ _ _ RX.out).mono ?_
    rintro e w16 ⟨rfl, hb⟩
    replace Vt := Lib.hid (blk_below Vt.out hb (blk_lt Vt.out))
    replace Vx := Lib.hid (blk_below Vx.out hb (blk_lt Vx.out))
    replace Vy := Lib.hid (blk_below Vy.out hb (blk_lt Vy.out))
    replace RX := Lib.hid (Es.below RX.out hb)
    replace H1 := Lib.hid (Es.below H1.out hb)
    replace H2 := Lib.hid (Es.below H2.out hb)
    replace H3 := Lib.hid (Es.below H3.out hb)
    replace H4 := Lib.hid (Es.below H4.out hb)
    replace H5 := Lib.hid (Es.below H5.out hb)
    replace H6 := Lib.hid (Es.below H6.out hb)
    replace H7 := Lib.hid (Es.below H7.out hb)
    replace HB := Lib.hid (And.intro (HB.out.1.trans (hb.mono HB.out.2)) (Nat.le_trans HB.out.2 hb.size))
    clear hb
    go_wp2_with fail
    refine (c12.out _ _ _ _ _ _ _ _ hll H1.out RX.out).mono ?_
    rintro e w17 ⟨rfl, hb⟩
    replace Vt := Lib.hid (blk_below Vt.out hb (blk_lt Vt.out))
    replace Vx := Lib.hid (blk_below Vx.out hb (blk_lt Vx.out))
    replace Vy := Lib.hid (blk_below Vy.out hb (blk_lt Vy.out))
    replace RX := Lib.hid (Es.below RX.out hb)
    replace H1 := Lib.hid (Es.below H1.out hb)
    replace H2 := Lib.hid (Es.below H2.out hb)
    replace H3 := Lib.hid (Es.below H3.out hb)
    replace H4 := Lib.hid (Es.below H4.out hb)
    replace H5 := Lib.hid (Es.below H5.out hb)
    replace H6 := Lib.hid (Es.below H6.out hb)
    replace H7 := Lib.hid (Es.below H7.out hb)
    replace HB := Lib.hid (And.intro (HB.out.1.trans (hb.mono HB.out.2)) (Nat.le_trans HB.out.2 hb.size))
    clear hb
    go_wp2
    go_ret
    exact ⟨rfl, HB.out.1⟩
end Go.Proofs.Ytehpfpphpffniaa
