/- The walk of QueueBack: it answers true, over any world; no condition. -/
import Derived.Test.YtombfempdfdeoaaQueS
namespace Go.Proofs.Ytombfempdfdeoaa
set_option linter.unusedVariables false
set_option linter.unusedSimpArgs false
open Go.RowKit
theorem push_len (p : Aren) (q : Qu) (key task : Int) (front : Bool) : (qPush p q key task front).1.1.length = p.1.length := by
  have ht : (arTake p key task).1.1.length = p.1.length := by
    unfold arTake
    split; rfl; split; rfl; simp
  unfold qPush
  split; rfl; split; rfl
  simp only [laidR_len, ht]
set_option maxRecDepth 100000 in
set_option maxHeartbeats 8000000 in
theorem back8_walk (A : Option Addr) (n c : Nat) (rs : List Rec3) (fr hd tl i0 i1 : Int) (w : World) (hx : Rs w A n c rs) (h0 : 0 ≤ i0) (h01 : i0 ≤ 255) (h1 : 0 ≤ i1) (h11 : i1 ≤ 255) :
    Calls Try.prog 5 #[.agg #[.slice A n c, .int .i64 fr], .agg #[.int .i64 hd, .int .i64 tl], .agg #[.int .u8 i0, .int .u8 i1]] w fun e w' => e = .returned (.bool true) ∧ Below w.heap.size w w' := by
  have hlen := hx.len
  have RX := Lib.hid hx
  clear hx
  have HB := Lib.hid (And.intro (Below.refl w.heap.size w) (Nat.le_refl w.heap.size))
  have gq := HB.out.2
  obtain ⟨w1, hw1⟩ : ∃ W, (((w.alloc (.cells #[.slice A n c, .int .i64 fr] 24)).alloc (.cells #[.int .i64 hd, .int .i64 tl] 26)).alloc (.cells #[.int .u8 i0, .int .u8 i1] 43)) = W := ⟨_, rfl⟩
  have hb : Below w.heap.size w w1 := hw1 ▸ ((((Below.refl _ _).alloc (Nat.le_refl _) _).alloc (by first | (simp; done) | (simp; omega)) _).alloc (by first | (simp; done) | (simp; omega)) _)
  have hv0 : w1.heap[w.heap.size]? = some (.cells #[.slice A n c, .int .i64 fr] 24) := by
    have h0 := heap_alloc_new w (.cells #[.slice A n c, .int .i64 fr] 24)
    rw [show w.heap.size = w.heap.size by simp [Nat.add_assoc]] at h0
    rw [← hw1]
    rw [heap_alloc_old _ _ (by simp <;> omega), heap_alloc_old _ _ (by simp <;> omega)]; exact h0
  have hv1 : w1.heap[w.heap.size + 1]? = some (.cells #[.int .i64 hd, .int .i64 tl] 26) := by
    have h0 := heap_alloc_new (w.alloc (.cells #[.slice A n c, .int .i64 fr] 24)) (.cells #[.int .i64 hd, .int .i64 tl] 26)
    rw [show (w.alloc (.cells #[.slice A n c, .int .i64 fr] 24)).heap.size = w.heap.size + 1 by simp [Nat.add_assoc]] at h0
    rw [← hw1]
    rw [heap_alloc_old _ _ (by simp <;> omega)]; exact h0
  have hv2 : w1.heap[w.heap.size + 2]? = some (.cells #[.int .u8 i0, .int .u8 i1] 43) := by
    have h0 := heap_alloc_new ((w.alloc (.cells #[.slice A n c, .int .i64 fr] 24)).alloc (.cells #[.int .i64 hd, .int .i64 tl] 26)) (.cells #[.int .u8 i0, .int .u8 i1] 43)
    rw [show ((w.alloc (.cells #[.slice A n c, .int .i64 fr] 24)).alloc (.cells #[.int .i64 hd, .int .i64 tl] 26)).heap.size = w.heap.size + 2 by simp [Nat.add_assoc]] at h0
    rw [← hw1]
    exact h0
  replace RX := Lib.hid (Es.below RX.out hb)
  replace HB := Lib.hid (And.intro (HB.out.1.trans (hb.mono HB.out.2)) (Nat.le_trans HB.out.2 hb.size))
  have Va := Lib.hid hv0
  have gea := gq
  have Vq := Lib.hid hv1
  have nea_q : w.heap.size ≠ w.heap.size + 1 := by omega
  have geq : _ ≤ w.heap.size + 1 := Nat.le_trans gq (Nat.le_add_right _ 1)
  have Vt := Lib.hid hv2
  have nea_t : w.heap.size ≠ w.heap.size + 2 := by omega
  have neq_t : w.heap.size + 1 ≠ w.heap.size + 2 := by omega
  have get : _ ≤ w.heap.size + 2 := Nat.le_trans gq (Nat.le_add_right _ 2)
  generalize hsa : w.heap.size = sa at *
  clear hb gq hv0 hv1 hv2
  by_cases hn : (70 : Int) < (n : Int)
  · have b0 : decide ((70 : Int) < (n : Int)) = true := decide_eq_true hn
    clear hn
    go_enter Try.func5, Try.ntmps5
    go_wp2_with fail
    refine (alive8 _).mono ?_
    rintro e w2 ⟨rfl, hb⟩
    replace Va := Lib.hid (blk_below Va.out hb (blk_lt Va.out))
    replace Vq := Lib.hid (blk_below Vq.out hb (blk_lt Vq.out))
    replace Vt := Lib.hid (blk_below Vt.out hb (blk_lt Vt.out))
    replace RX := Lib.hid (Es.below RX.out hb)
    replace HB := Lib.hid (And.intro (HB.out.1.trans (hb.mono HB.out.2)) (Nat.le_trans HB.out.2 hb.size))
    clear hb
    have ca0 : w2.cell? ⟨sa, 0, none⟩ = some (.slice A n c) := (blk_cell Va.out 0).trans rfl
    have ca1 : w2.cell? ⟨sa, 1, none⟩ = some (.int .i64 fr) := (blk_cell Va.out 1).trans rfl
    go_wp2
    go_ret
    exact ⟨rfl, HB.out.1⟩
  · have b0 : decide ((70 : Int) < (n : Int)) = false := decide_eq_false hn
    have hn1 : n ≤ 70 := by omega
    clear hn
    obtain ⟨⟨⟨ps, pf⟩, ⟨ph, pt⟩, pe⟩, hP⟩ : ∃ P, qPush (rs, fr) (hd, tl) i0 i1 true = P := ⟨_, rfl⟩
    have hpl : ps.length = n := by have := push_len (rs, fr) (hd, tl) i0 i1 true; rw [hP] at this; simp only at this; omega
    have c1 := Lib.hid (show ∀ B d W, Rs W B n d rs → Calls Try.prog 21 #[.agg #[.slice B n d, .int .i64 fr], .agg #[.int .i64 hd, .int .i64 tl], .int .i64 i0, .int .i64 i1, .bool true] W (fun e w' => ∃ B m d, e = .returned (.tuple #[.agg #[.slice B m d, .int .i64 pf], .agg #[.int .i64 ph, .int .i64 pt], .int .i64 pe]) ∧ Rs w' B m d ps ∧ Below W.heap.size W w') from fun B d W h => (qpPush_any B n d rs fr hd tl i0 i1 true W h (by omega)).mono (fun e w' ⟨B, m, d, h1, h2, h3, _⟩ => ⟨B, m, d, by rw [hP] at h1; exact h1, by rw [hP] at h2; exact h2, h3⟩))
    have c2 := Lib.hid (show ∀ (xs : List Rec3) (f : Int) (A B : Option Addr) (m d m2 d2 : Nat) W, xs.length = n → Rs W A m d xs → Rs W B m2 d2 xs → Calls Try.prog 13 #[.agg #[.slice A m d, .int .i64 f], .agg #[.slice B m2 d2, .int .i64 f]] W (YesPost W true) from fun xs f A B m d m2 d2 W hl h1 h2 => sameAs h1 h2 (by have := Rs.len h1; omega))
    by_cases he : pe = 0
    · subst he
      have hg := push_good (p := (rs, fr)) (q := (hd, tl)) (key := i0) (task := i1) (front := true) (by rw [hP])
      obtain ⟨fl, l, i, fl', p2, hok, hrow, hfl, hi, _, _, hpu⟩ := hg
      subst hfl
      have hpp := push_pop hok hrow hi hpu
      have heq := hpu.eq
      rw [hP] at heq
      have e1 : p2 = (ps, pf) := (congrArg Prod.fst heq).symm
      have e2 : laidQ (pushL l i true) = (ph, pt) := (congrArg (fun x => x.2.1) heq).symm
      have hrt : qRight (ps, pf) (ph, pt) = true := by rw [← e1, ← e2]; exact hpu.row.right hpu.ok.right
      rw [e1, e2] at hpp
      have c3 := Lib.hid (show ∀ B m d W, Rs W B m d ps → Calls Try.prog 9 #[.agg #[.slice B m d, .int .i64 pf], .agg #[.int .i64 ph, .int .i64 pt]] W (fun e w' => ∃ B m d, e = .returned (.tuple #[.agg #[.slice B m d, .int .i64 fr], .agg #[.int .i64 hd, .int .i64 tl], .int .i64 i1, .int .i64 0]) ∧ Rs w' B m d rs ∧ Below W.heap.size W w') from fun B m d W h => (qpPop_any B m d ps pf ph pt W h (by have := Rs.len h; omega)).mono (fun e w' ⟨B, m, d, h1, h2, h3, _⟩ => ⟨B, m, d, by rw [hpp] at h1; exact h1, by rw [hpp] at h2; exact h2, h3⟩))
      have c4 := Lib.hid (show ∀ B m d W, Rs W B m d ps → Calls Try.prog 14 #[.agg #[.slice B m d, .int .i64 pf], .agg #[.int .i64 ph, .int .i64 pt]] W (YesPost W true) from fun B m d W h => hrt ▸ qpRight_any B m d ps pf ph pt W h (by have := Rs.len h; omega))
      clear hP hok hrow hi hpu hpp heq e1 e2 hrt
      go_enter Try.func5, Try.ntmps5
      go_wp2_with fail
      refine (alive8 _).mono ?_
      rintro e w2 ⟨rfl, hb⟩
      replace Va := Lib.hid (blk_below Va.out hb (blk_lt Va.out))
      replace Vq := Lib.hid (blk_below Vq.out hb (blk_lt Vq.out))
      replace Vt := Lib.hid (blk_below Vt.out hb (blk_lt Vt.out))
      replace RX := Lib.hid (Es.below RX.out hb)
      replace HB := Lib.hid (And.intro (HB.out.1.trans (hb.mono HB.out.2)) (Nat.le_trans HB.out.2 hb.size))
      clear hb
      have ca0 : w2.cell? ⟨sa, 0, none⟩ = some (.slice A n c) := (blk_cell Va.out 0).trans rfl
      have ca1 : w2.cell? ⟨sa, 1, none⟩ = some (.int .i64 fr) := (blk_cell Va.out 1).trans rfl
      have cq0 : w2.cell? ⟨sa + 1, 0, none⟩ = some (.int .i64 hd) := (blk_cell Vq.out 0).trans rfl
      have cq1 : w2.cell? ⟨sa + 1, 1, none⟩ = some (.int .i64 tl) := (blk_cell Vq.out 1).trans rfl
      have ct0 : w2.cell? ⟨sa + 2, 0, none⟩ = some (.int .u8 i0) := (blk_cell Vt.out 0).trans rfl
      have ct1 : w2.cell? ⟨sa + 2, 1, none⟩ = some (.int .u8 i1) := (blk_cell Vt.out 1).trans rfl
      go_wp2_with fail
      refine (c1.out _ _ _ RX.out).mono ?_
      rintro e w3 ⟨B1, m1, d1, rfl, hrs, hb⟩
      clear ca0 ca1 cq0 cq1 ct0 ct1
      replace Va := Lib.hid (blk_below Va.out hb (blk_lt Va.out))
      replace Vq := Lib.hid (blk_below Vq.out hb (blk_lt Vq.out))
      replace Vt := Lib.hid (blk_below Vt.out hb (blk_lt Vt.out))
      replace RX := Lib.hid (Es.below RX.out hb)
      replace HB := Lib.hid (And.intro (HB.out.1.trans (hb.mono HB.out.2)) (Nat.le_trans HB.out.2 hb.size))
      clear hb
      have R1 := Lib.hid hrs
      clear hrs
      have lta := blk_lt Va.out
      have ltq := blk_lt Vq.out
      have ltt := blk_lt Vt.out
      have gq := HB.out.2
      obtain ⟨w4, hw4⟩ : ∃ W, ((w3.alloc (.cells #[.slice B1 m1 d1, .int .i64 pf] 24)).alloc (.cells #[.int .i64 ph, .int .i64 pt] 26)) = W := ⟨_, rfl⟩
      have hb : Below w3.heap.size w3 w4 := hw4 ▸ (((Below.refl _ _).alloc (Nat.le_refl _) _).alloc (by first | (simp; done) | (simp; omega)) _)
      have hv0 : w4.heap[w3.heap.size]? = some (.cells #[.slice B1 m1 d1, .int .i64 pf] 24) := by
        have h0 := heap_alloc_new w3 (.cells #[.slice B1 m1 d1, .int .i64 pf] 24)
        rw [show w3.heap.size = w3.heap.size by simp [Nat.add_assoc]] at h0
        rw [← hw4]
        rw [heap_alloc_old _ _ (by simp <;> omega)]; exact h0
      have hv1 : w4.heap[w3.heap.size + 1]? = some (.cells #[.int .i64 ph, .int .i64 pt] 26) := by
        have h0 := heap_alloc_new (w3.alloc (.cells #[.slice B1 m1 d1, .int .i64 pf] 24)) (.cells #[.int .i64 ph, .int .i64 pt] 26)
        rw [show (w3.alloc (.cells #[.slice B1 m1 d1, .int .i64 pf] 24)).heap.size = w3.heap.size + 1 by simp [Nat.add_assoc]] at h0
        rw [← hw4]
        exact h0
      replace Va := Lib.hid (blk_below Va.out hb (blk_lt Va.out))
      replace Vq := Lib.hid (blk_below Vq.out hb (blk_lt Vq.out))
      replace Vt := Lib.hid (blk_below Vt.out hb (blk_lt Vt.out))
      replace RX := Lib.hid (Es.below RX.out hb)
      replace R1 := Lib.hid (Es.below R1.out hb)
      replace HB := Lib.hid (And.intro (HB.out.1.trans (hb.mono HB.out.2)) (Nat.le_trans HB.out.2 hb.size))
      have Vx := Lib.hid hv0
      have nea_x := Nat.ne_of_lt lta
      have neq_x := Nat.ne_of_lt ltq
      have net_x := Nat.ne_of_lt ltt
      have gex := gq
      have Vp := Lib.hid hv1
      have nea_p := Nat.ne_of_lt (Nat.lt_of_lt_of_le lta (Nat.le_add_right w3.heap.size 1))
      have neq_p := Nat.ne_of_lt (Nat.lt_of_lt_of_le ltq (Nat.le_add_right w3.heap.size 1))
      have net_p := Nat.ne_of_lt (Nat.lt_of_lt_of_le ltt (Nat.le_add_right w3.heap.size 1))
      have nex_p : w3.heap.size ≠ w3.heap.size + 1 := by omega
      have gep : _ ≤ w3.heap.size + 1 := Nat.le_trans gq (Nat.le_add_right _ 1)
      generalize hsx : w3.heap.size = sx at *
      clear hb gq hv0 hv1 lta ltq ltt
      have cx0 : w4.cell? ⟨sx, 0, none⟩ = some (.slice B1 m1 d1) := (blk_cell Vx.out 0).trans rfl
      have cx1 : w4.cell? ⟨sx, 1, none⟩ = some (.int .i64 pf) := (blk_cell Vx.out 1).trans rfl
      have cp0 : w4.cell? ⟨sx + 1, 0, none⟩ = some (.int .i64 ph) := (blk_cell Vp.out 0).trans rfl
      have cp1 : w4.cell? ⟨sx + 1, 1, none⟩ = some (.int .i64 pt) := (blk_cell Vp.out 1).trans rfl
      go_wp2_with fail
      refine (c3.out _ _ _ _ R1.out).mono ?_
      rintro e w5 ⟨B2, m2, d2, rfl, hrs, hb⟩
      clear cx0 cx1 cp0 cp1
      replace Va := Lib.hid (blk_below Va.out hb (blk_lt Va.out))
      replace Vq := Lib.hid (blk_below Vq.out hb (blk_lt Vq.out))
      replace Vt := Lib.hid (blk_below Vt.out hb (blk_lt Vt.out))
      replace Vx := Lib.hid (blk_below Vx.out hb (blk_lt Vx.out))
      replace Vp := Lib.hid (blk_below Vp.out hb (blk_lt Vp.out))
      replace RX := Lib.hid (Es.below RX.out hb)
      replace R1 := Lib.hid (Es.below R1.out hb)
      replace HB := Lib.hid (And.intro (HB.out.1.trans (hb.mono HB.out.2)) (Nat.le_trans HB.out.2 hb.size))
      clear hb
      have R2 := Lib.hid hrs
      clear hrs
      have lta := blk_lt Va.out
      have ltq := blk_lt Vq.out
      have ltt := blk_lt Vt.out
      have ltx := blk_lt Vx.out
      have ltp := blk_lt Vp.out
      have gq := HB.out.2
      obtain ⟨w6, hw6⟩ : ∃ W, ((w5.alloc (.cells #[.slice B2 m2 d2, .int .i64 fr] 24)).alloc (.cells #[.int .i64 hd, .int .i64 tl] 26)) = W := ⟨_, rfl⟩
      have hb : Below w5.heap.size w5 w6 := hw6 ▸ (((Below.refl _ _).alloc (Nat.le_refl _) _).alloc (by first | (simp; done) | (simp; omega)) _)
      have hv0 : w6.heap[w5.heap.size]? = some (.cells #[.slice B2 m2 d2, .int .i64 fr] 24) := by
        have h0 := heap_alloc_new w5 (.cells #[.slice B2 m2 d2, .int .i64 fr] 24)
        rw [show w5.heap.size = w5.heap.size by simp [Nat.add_assoc]] at h0
        rw [← hw6]
        rw [heap_alloc_old _ _ (by simp <;> omega)]; exact h0
      have hv1 : w6.heap[w5.heap.size + 1]? = some (.cells #[.int .i64 hd, .int .i64 tl] 26) := by
        have h0 := heap_alloc_new (w5.alloc (.cells #[.slice B2 m2 d2, .int .i64 fr] 24)) (.cells #[.int .i64 hd, .int .i64 tl] 26)
        rw [show (w5.alloc (.cells #[.slice B2 m2 d2, .int .i64 fr] 24)).heap.size = w5.heap.size + 1 by simp [Nat.add_assoc]] at h0
        rw [← hw6]
        exact h0
      replace Va := Lib.hid (blk_below Va.out hb (blk_lt Va.out))
      replace Vq := Lib.hid (blk_below Vq.out hb (blk_lt Vq.out))
      replace Vt := Lib.hid (blk_below Vt.out hb (blk_lt Vt.out))
      replace Vx := Lib.hid (blk_below Vx.out hb (blk_lt Vx.out))
      replace Vp := Lib.hid (blk_below Vp.out hb (blk_lt Vp.out))
      replace RX := Lib.hid (Es.below RX.out hb)
      replace R1 := Lib.hid (Es.below R1.out hb)
      replace R2 := Lib.hid (Es.below R2.out hb)
      replace HB := Lib.hid (And.intro (HB.out.1.trans (hb.mono HB.out.2)) (Nat.le_trans HB.out.2 hb.size))
      have Vy := Lib.hid hv0
      have nea_y := Nat.ne_of_lt lta
      have neq_y := Nat.ne_of_lt ltq
      have net_y := Nat.ne_of_lt ltt
      have nex_y := Nat.ne_of_lt ltx
      have nep_y := Nat.ne_of_lt ltp
      have gey := gq
      have Vr := Lib.hid hv1
      have nea_r := Nat.ne_of_lt (Nat.lt_of_lt_of_le lta (Nat.le_add_right w5.heap.size 1))
      have neq_r := Nat.ne_of_lt (Nat.lt_of_lt_of_le ltq (Nat.le_add_right w5.heap.size 1))
      have net_r := Nat.ne_of_lt (Nat.lt_of_lt_of_le ltt (Nat.le_add_right w5.heap.size 1))
      have nex_r := Nat.ne_of_lt (Nat.lt_of_lt_of_le ltx (Nat.le_add_right w5.heap.size 1))
      have nep_r := Nat.ne_of_lt (Nat.lt_of_lt_of_le ltp (Nat.le_add_right w5.heap.size 1))
      have ney_r : w5.heap.size ≠ w5.heap.size + 1 := by omega
      have ger : _ ≤ w5.heap.size + 1 := Nat.le_trans gq (Nat.le_add_right _ 1)
      generalize hsy : w5.heap.size = sy at *
      clear hb gq hv0 hv1 lta ltq ltt ltx ltp
      have ct0 : w6.cell? ⟨sa + 2, 0, none⟩ = some (.int .u8 i0) := (blk_cell Vt.out 0).trans rfl
      have ct1 : w6.cell? ⟨sa + 2, 1, none⟩ = some (.int .u8 i1) := (blk_cell Vt.out 1).trans rfl
      have cy0 : w6.cell? ⟨sy, 0, none⟩ = some (.slice B2 m2 d2) := (blk_cell Vy.out 0).trans rfl
      have cy1 : w6.cell? ⟨sy, 1, none⟩ = some (.int .i64 fr) := (blk_cell Vy.out 1).trans rfl
      have ca0 : w6.cell? ⟨sa, 0, none⟩ = some (.slice A n c) := (blk_cell Va.out 0).trans rfl
      have ca1 : w6.cell? ⟨sa, 1, none⟩ = some (.int .i64 fr) := (blk_cell Va.out 1).trans rfl
      go_wp2_with fail
      refine (c2.out _ _ _ _ _ _ _ _ _ hlen R2.out RX.out).mono ?_
      rintro e w7 ⟨rfl, hb⟩
      clear ct0 ct1 cy0 cy1 ca0 ca1
      replace Va := Lib.hid (blk_below Va.out hb (blk_lt Va.out))
      replace Vq := Lib.hid (blk_below Vq.out hb (blk_lt Vq.out))
      replace Vt := Lib.hid (blk_below Vt.out hb (blk_lt Vt.out))
      replace Vx := Lib.hid (blk_below Vx.out hb (blk_lt Vx.out))
      replace Vp := Lib.hid (blk_below Vp.out hb (blk_lt Vp.out))
      replace Vy := Lib.hid (blk_below Vy.out hb (blk_lt Vy.out))
      replace Vr := Lib.hid (blk_below Vr.out hb (blk_lt Vr.out))
      replace RX := Lib.hid (Es.below RX.out hb)
      replace R1 := Lib.hid (Es.below R1.out hb)
      replace R2 := Lib.hid (Es.below R2.out hb)
      replace HB := Lib.hid (And.intro (HB.out.1.trans (hb.mono HB.out.2)) (Nat.le_trans HB.out.2 hb.size))
      clear hb
      have cr0 : w7.cell? ⟨sy + 1, 0, none⟩ = some (.int .i64 hd) := (blk_cell Vr.out 0).trans rfl
      have cr1 : w7.cell? ⟨sy + 1, 1, none⟩ = some (.int .i64 tl) := (blk_cell Vr.out 1).trans rfl
      have cq0 : w7.cell? ⟨sa + 1, 0, none⟩ = some (.int .i64 hd) := (blk_cell Vq.out 0).trans rfl
      have cq1 : w7.cell? ⟨sa + 1, 1, none⟩ = some (.int .i64 tl) := (blk_cell Vq.out 1).trans rfl
      have cx0 : w7.cell? ⟨sx, 0, none⟩ = some (.slice B1 m1 d1) := (blk_cell Vx.out 0).trans rfl
      have cx1 : w7.cell? ⟨sx, 1, none⟩ = some (.int .i64 pf) := (blk_cell Vx.out 1).trans rfl
      have cp0 : w7.cell? ⟨sx + 1, 0, none⟩ = some (.int .i64 ph) := (blk_cell Vp.out 0).trans rfl
      have cp1 : w7.cell? ⟨sx + 1, 1, none⟩ = some (.int .i64 pt) := (blk_cell Vp.out 1).trans rfl
      go_wp2_with fail
      refine (c4.out _ _ _ _ R1.out).mono ?_
      rintro e w8 ⟨rfl, hb⟩
      clear cr0 cr1 cq0 cq1 cx0 cx1 cp0 cp1
      replace Va := Lib.hid (blk_below Va.out hb (blk_lt Va.out))
      replace Vq := Lib.hid (blk_below Vq.out hb (blk_lt Vq.out))
      replace Vt := Lib.hid (blk_below Vt.out hb (blk_lt Vt.out))
      replace Vx := Lib.hid (blk_below Vx.out hb (blk_lt Vx.out))
      replace Vp := Lib.hid (blk_below Vp.out hb (blk_lt Vp.out))
      replace Vy := Lib.hid (blk_below Vy.out hb (blk_lt Vy.out))
      replace Vr := Lib.hid (blk_below Vr.out hb (blk_lt Vr.out))
      replace RX := Lib.hid (Es.below RX.out hb)
      replace R1 := Lib.hid (Es.below R1.out hb)
      replace R2 := Lib.hid (Es.below R2.out hb)
      replace HB := Lib.hid (And.intro (HB.out.1.trans (hb.mono HB.out.2)) (Nat.le_trans HB.out.2 hb.size))
      clear hb
      go_wp2
      go_ret
      exact ⟨rfl, HB.out.1⟩
    · have hr := push_err (p := (rs, fr)) (q := (hd, tl)) (key := i0) (task := i1) (front := true) (by rw [hP]; exact he)
      rw [hP] at hr
      injection hr.1 with e1 e2; injection hr.2 with e3 e4
      replace e1 := e1.symm; replace e2 := e2.symm; replace e3 := e3.symm; replace e4 := e4.symm
      subst e1; subst e2; subst e3; subst e4
      have b1 : (pe != 0) = true := by simpa using he
      clear he hP hr
      go_enter Try.func5, Try.ntmps5
      go_wp2_with fail
      refine (alive8 _).mono ?_
      rintro e w2 ⟨rfl, hb⟩
      replace Va := Lib.hid (blk_below Va.out hb (blk_lt Va.out))
      replace Vq := Lib.hid (blk_below Vq.out hb (blk_lt Vq.out))
      replace Vt := Lib.hid (blk_below Vt.out hb (blk_lt Vt.out))
      replace RX := Lib.hid (Es.below RX.out hb)
      replace HB := Lib.hid (And.intro (HB.out.1.trans (hb.mono HB.out.2)) (Nat.le_trans HB.out.2 hb.size))
      clear hb
      have ca0 : w2.cell? ⟨sa, 0, none⟩ = some (.slice A n c) := (blk_cell Va.out 0).trans rfl
      have ca1 : w2.cell? ⟨sa, 1, none⟩ = some (.int .i64 fr) := (blk_cell Va.out 1).trans rfl
      have cq0 : w2.cell? ⟨sa + 1, 0, none⟩ = some (.int .i64 hd) := (blk_cell Vq.out 0).trans rfl
      have cq1 : w2.cell? ⟨sa + 1, 1, none⟩ = some (.int .i64 tl) := (blk_cell Vq.out 1).trans rfl
      have ct0 : w2.cell? ⟨sa + 2, 0, none⟩ = some (.int .u8 i0) := (blk_cell Vt.out 0).trans rfl
      have ct1 : w2.cell? ⟨sa + 2, 1, none⟩ = some (.int .u8 i1) := (blk_cell Vt.out 1).trans rfl
      go_wp2_with fail
      refine (c1.out _ _ _ RX.out).mono ?_
      rintro e w3 ⟨B1, m1, d1, rfl, hrs, hb⟩
      clear ca0 ca1 cq0 cq1 ct0 ct1
      replace Va := Lib.hid (blk_below Va.out hb (blk_lt Va.out))
      replace Vq := Lib.hid (blk_below Vq.out hb (blk_lt Vq.out))
      replace Vt := Lib.hid (blk_below Vt.out hb (blk_lt Vt.out))
      replace RX := Lib.hid (Es.below RX.out hb)
      replace HB := Lib.hid (And.intro (HB.out.1.trans (hb.mono HB.out.2)) (Nat.le_trans HB.out.2 hb.size))
      clear hb
      have R1 := Lib.hid hrs
      clear hrs
      have lta := blk_lt Va.out
      have ltq := blk_lt Vq.out
      have ltt := blk_lt Vt.out
      have gq := HB.out.2
      obtain ⟨w4, hw4⟩ : ∃ W, ((w3.alloc (.cells #[.slice B1 m1 d1, .int .i64 fr] 24)).alloc (.cells #[.int .i64 hd, .int .i64 tl] 26)) = W := ⟨_, rfl⟩
      have hb : Below w3.heap.size w3 w4 := hw4 ▸ (((Below.refl _ _).alloc (Nat.le_refl _) _).alloc (by first | (simp; done) | (simp; omega)) _)
      have hv0 : w4.heap[w3.heap.size]? = some (.cells #[.slice B1 m1 d1, .int .i64 fr] 24) := by
        have h0 := heap_alloc_new w3 (.cells #[.slice B1 m1 d1, .int .i64 fr] 24)
        rw [show w3.heap.size = w3.heap.size by simp [Nat.add_assoc]] at h0
        rw [← hw4]
        rw [heap_alloc_old _ _ (by simp <;> omega)]; exact h0
      have hv1 : w4.heap[w3.heap.size + 1]? = some (.cells #[.int .i64 hd, .int .i64 tl] 26) := by
        have h0 := heap_alloc_new (w3.alloc (.cells #[.slice B1 m1 d1, .int .i64 fr] 24)) (.cells #[.int .i64 hd, .int .i64 tl] 26)
        rw [show (w3.alloc (.cells #[.slice B1 m1 d1, .int .i64 fr] 24)).heap.size = w3.heap.size + 1 by simp [Nat.add_assoc]] at h0
        rw [← hw4]
        exact h0
      replace Va := Lib.hid (blk_below Va.out hb (blk_lt Va.out))
      replace Vq := Lib.hid (blk_below Vq.out hb (blk_lt Vq.out))
      replace Vt := Lib.hid (blk_below Vt.out hb (blk_lt Vt.out))
      replace RX := Lib.hid (Es.below RX.out hb)
      replace R1 := Lib.hid (Es.below R1.out hb)
      replace HB := Lib.hid (And.intro (HB.out.1.trans (hb.mono HB.out.2)) (Nat.le_trans HB.out.2 hb.size))
      have Vx := Lib.hid hv0
      have nea_x := Nat.ne_of_lt lta
      have neq_x := Nat.ne_of_lt ltq
      have net_x := Nat.ne_of_lt ltt
      have gex := gq
      have Vp := Lib.hid hv1
      have nea_p := Nat.ne_of_lt (Nat.lt_of_lt_of_le lta (Nat.le_add_right w3.heap.size 1))
      have neq_p := Nat.ne_of_lt (Nat.lt_of_lt_of_le ltq (Nat.le_add_right w3.heap.size 1))
      have net_p := Nat.ne_of_lt (Nat.lt_of_lt_of_le ltt (Nat.le_add_right w3.heap.size 1))
      have nex_p : w3.heap.size ≠ w3.heap.size + 1 := by omega
      have gep : _ ≤ w3.heap.size + 1 := Nat.le_trans gq (Nat.le_add_right _ 1)
      generalize hsx : w3.heap.size = sx at *
      clear hb gq hv0 hv1 lta ltq ltt
      have cx0 : w4.cell? ⟨sx, 0, none⟩ = some (.slice B1 m1 d1) := (blk_cell Vx.out 0).trans rfl
      have cx1 : w4.cell? ⟨sx, 1, none⟩ = some (.int .i64 fr) := (blk_cell Vx.out 1).trans rfl
      have ca0 : w4.cell? ⟨sa, 0, none⟩ = some (.slice A n c) := (blk_cell Va.out 0).trans rfl
      have ca1 : w4.cell? ⟨sa, 1, none⟩ = some (.int .i64 fr) := (blk_cell Va.out 1).trans rfl
      go_wp2_with fail
      refine (c2.out _ _ _ _ _ _ _ _ _ hlen R1.out RX.out).mono ?_
      rintro e w5 ⟨rfl, hb⟩
      clear cx0 cx1 ca0 ca1
      replace Va := Lib.hid (blk_below Va.out hb (blk_lt Va.out))
      replace Vq := Lib.hid (blk_below Vq.out hb (blk_lt Vq.out))
      replace Vt := Lib.hid (blk_below Vt.out hb (blk_lt Vt.out))
      replace Vx := Lib.hid (blk_below Vx.out hb (blk_lt Vx.out))
      replace Vp := Lib.hid (blk_below Vp.out hb (blk_lt Vp.out))
      replace RX := Lib.hid (Es.below RX.out hb)
      replace R1 := Lib.hid (Es.below R1.out hb)
      replace HB := Lib.hid (And.intro (HB.out.1.trans (hb.mono HB.out.2)) (Nat.le_trans HB.out.2 hb.size))
      clear hb
      have cp0 : w5.cell? ⟨sx + 1, 0, none⟩ = some (.int .i64 hd) := (blk_cell Vp.out 0).trans rfl
      have cp1 : w5.cell? ⟨sx + 1, 1, none⟩ = some (.int .i64 tl) := (blk_cell Vp.out 1).trans rfl
      have cq0 : w5.cell? ⟨sa + 1, 0, none⟩ = some (.int .i64 hd) := (blk_cell Vq.out 0).trans rfl
      have cq1 : w5.cell? ⟨sa + 1, 1, none⟩ = some (.int .i64 tl) := (blk_cell Vq.out 1).trans rfl
      go_wp2
      go_ret
      exact ⟨rfl, HB.out.1⟩
end Go.Proofs.Ytombfempdfdeoaa
