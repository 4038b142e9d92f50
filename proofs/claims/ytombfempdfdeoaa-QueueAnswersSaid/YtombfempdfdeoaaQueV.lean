/- The walk of QueuePushes: it answers true, over any world; no condition. -/
import Derived.Test.YtombfempdfdeoaaQueU
import Derived.Test.YtombfempdfdeoaaQueT
import Derived.Deep.Cut
import Derived.Deep.CutRange
namespace Go.Proofs.Ytombfempdfdeoaa
set_option linter.unusedVariables false
set_option linter.unusedSimpArgs false
open Go.RowKit
theorem is_blk {w : World} {b m : Nat} {xs : List Int} (h : w.heap[b]? = some (.cells (intC xs).toArray 3)) (hm : m = xs.length) : Is w (some ⟨b, 0, none⟩) m m xs :=
  ⟨by rw [intC_len, hm, Nat.mul_one], Nat.le_refl _, intC_one _, fun _ => ⟨b, 0, rfl, blk_lt h, fun j u hj => by rw [Nat.zero_add, blk_cell h]; simpa using hj⟩⟩
set_option maxRecDepth 100000 in
set_option maxHeartbeats 8000000 in
theorem pushes8_walk (A : Option Addr) (n c : Nat) (rs : List Rec3) (fr hd tl i0 i1 i2 : Int) (w : World) (hx : Rs w A n c rs) :
    Calls Try.prog 4 #[.agg #[.slice A n c, .int .i64 fr], .agg #[.int .i64 hd, .int .i64 tl], .agg #[.int .i64 i0, .int .i64 i1, .int .i64 i2]] w fun e w' => e = .returned (.bool true) ∧ Below w.heap.size w w' := by
  have hlen := hx.len
  have RX := Lib.hid hx
  clear hx
  have HB := Lib.hid (And.intro (Below.refl w.heap.size w) (Nat.le_refl w.heap.size))
  have gq := HB.out.2
  obtain ⟨w1, hw1⟩ : ∃ W, (((w.alloc (.cells #[.slice A n c, .int .i64 fr] 24)).alloc (.cells #[.int .i64 hd, .int .i64 tl] 26)).alloc (.cells #[.int .i64 i0, .int .i64 i1, .int .i64 i2] 40)) = W := ⟨_, rfl⟩
  have hb : Below w.heap.size w w1 := hw1 ▸ ((((Below.refl _ _).alloc (Nat.le_refl _) _).alloc (by first | (simp; done) | (simp; omega)) _).alloc (by first | (simp; done) | (simp; omega)) _)
  have hv0 : w1.heap[w.heap.size]? = some (.cells #[.slice A n c, .int .i64 fr] 24) := by
    have h0 := heap_alloc_new w (.cells #[.slice A n c, .int .i64 fr] 24)
    rw [show w.heap.size = w.heap.size by simp [Nat.add_assoc]] at h0
    rw [← hw1]
    rw [heap_alloc_old _ _ (by simp <;> omega), heap_alloc_old _ _ (by simp <;> omega)]; exact h0
  have hv1 : w1.heap[w.heap.size + 1]? = some (.cells #[.int .i64 hd, .int .i64 tl] 26) := by
    have h0 := heap_alloc_new (w.alloc (.cells #[.slice A n c, .int .i64 fr] 24)) (.cells #[.int .i64 hd, .int .i64 tl] 26)
    rw [show (w.alloc (.cells #[.slice A n c, .int .i64 fr] 24)).heap.size = w.heap.size + 1 by simp [Nat.add_assoc]] at h0
    rw [← hw1]
    rw [heap_alloc_old _ _ (by simp <;> omega)]; exact h0
  have hv2 : w1.heap[w.heap.size + 2]? = some (.cells #[.int .i64 i0, .int .i64 i1, .int .i64 i2] 40) := by
    have h0 := heap_alloc_new ((w.alloc (.cells #[.slice A n c, .int .i64 fr] 24)).alloc (.cells #[.int .i64 hd, .int .i64 tl] 26)) (.cells #[.int .i64 i0, .int .i64 i1, .int .i64 i2] 40)
    rw [show ((w.alloc (.cells #[.slice A n c, .int .i64 fr] 24)).alloc (.cells #[.int .i64 hd, .int .i64 tl] 26)).heap.size = w.heap.size + 2 by simp [Nat.add_assoc]] at h0
    rw [← hw1]
    exact h0
  replace RX := Lib.hid (Es.below RX.out hb)
  replace HB := Lib.hid (And.intro (HB.out.1.trans (hb.mono HB.out.2)) (Nat.le_trans HB.out.2 hb.size))
  have Va := Lib.hid hv0
  have gea := gq
  have Vq := Lib.hid hv1
  have nea_q : w.heap.size ≠ w.heap.size + 1 := by omega
  have geq : _ ≤ w.heap.size + 1 := Nat.le_trans gq (Nat.le_add_right _ 1)
  have Vt := Lib.hid hv2
  have nea_t : w.heap.size ≠ w.heap.size + 2 := by omega
  have neq_t : w.heap.size + 1 ≠ w.heap.size + 2 := by omega
  have get : _ ≤ w.heap.size + 2 := Nat.le_trans gq (Nat.le_add_right _ 2)
  generalize hsa : w.heap.size = sa at *
  clear hb gq hv0 hv1 hv2
  by_cases hn : (70 : Int) < (n : Int)
  · have b0 : decide ((70 : Int) < (n : Int)) = true := decide_eq_true hn
    clear hn
    go_enter Try.func4, Try.ntmps4
    go_wp2_with fail
    refine (alive8 _).mono ?_
    rintro e w2 ⟨rfl, hb⟩
    replace Va := Lib.hid (blk_below Va.out hb (blk_lt Va.out))
    replace Vq := Lib.hid (blk_below Vq.out hb (blk_lt Vq.out))
    replace Vt := Lib.hid (blk_below Vt.out hb (blk_lt Vt.out))
    replace RX := Lib.hid (Es.below RX.out hb)
    replace HB := Lib.hid (And.intro (HB.out.1.trans (hb.mono HB.out.2)) (Nat.le_trans HB.out.2 hb.size))
    clear hb
    have ca0 : w2.cell? ⟨sa, 0, none⟩ = some (.slice A n c) := (blk_cell Va.out 0).trans rfl
    have ca1 : w2.cell? ⟨sa, 1, none⟩ = some (.int .i64 fr) := (blk_cell Va.out 1).trans rfl
    go_wp2
    go_ret
    exact ⟨rfl, HB.out.1⟩
  · have b0 : decide ((70 : Int) < (n : Int)) = false := decide_eq_false hn
    have hn1 : n ≤ 70 := by omega
    clear hn
    obtain ⟨FB, hFB⟩ : ∃ b, (i2.tmod 2 != 0) = b := ⟨_, rfl⟩
    obtain ⟨⟨⟨ps, pf⟩, ⟨ph, pt⟩, pe⟩, hP⟩ : ∃ P, qPush (rs, fr) (hd, tl) i0 i1 FB = P := ⟨_, rfl⟩
    have hpl : ps.length = n := by have := push_len (rs, fr) (hd, tl) i0 i1 FB; rw [hP] at this; simp only at this; omega
    have c1 := Lib.hid (show ∀ B d W, Rs W B n d rs → Calls Try.prog 21 #[.agg #[.slice B n d, .int .i64 fr], .agg #[.int .i64 hd, .int .i64 tl], .int .i64 i0, .int .i64 i1, .bool FB] W (fun e w' => ∃ B m d, e = .returned (.tuple #[.agg #[.slice B m d, .int .i64 pf], .agg #[.int .i64 ph, .int .i64 pt], .int .i64 pe]) ∧ Rs w' B m d ps ∧ Below W.heap.size W w') from fun B d W h => (qpPush_any B n d rs fr hd tl i0 i1 FB W h (by omega)).mono (fun e w' ⟨B, m, d, h1, h2, h3, _⟩ => ⟨B, m, d, by rw [hP] at h1; exact h1, by rw [hP] at h2; exact h2, h3⟩))
    have c2 := Lib.hid (show ∀ B d W, Rs W B n d rs → Calls Try.prog 22 #[.agg #[.slice B n d, .int .i64 fr], .agg #[.int .i64 hd, .int .i64 tl], .int .i64 i0, .int .i64 i1, .bool FB] W (fun e w' => ∃ B m d, e = .returned (.tuple #[.agg #[.slice B m d, .int .i64 pf], .agg #[.int .i64 ph, .int .i64 pt], .int .i64 pe]) ∧ Rs w' B m d ps ∧ Below W.heap.size W w') from fun B d W h => (refQPush_any B n d rs fr hd tl i0 i1 FB W h (by omega)).mono (fun e w' ⟨B, m, d, h1, h2, h3, _⟩ => ⟨B, m, d, by rw [hP] at h1; exact h1, by rw [hP] at h2; exact h2, h3⟩))
    have c11 := Lib.hid (show ∀ B d W, Rs W B n d rs → Calls Try.prog 8 #[.agg #[.slice B n d, .int .i64 fr]] W (CopyPost W n rs fr) from fun B d W h => refCopy_any B n d rs fr W h (by omega))
    have c12 := Lib.hid (show ∀ (xs : List Rec3) (f : Int) (A B : Option Addr) (m d m2 d2 : Nat) W, xs.length = n → Rs W A m d xs → Rs W B m2 d2 xs → Calls Try.prog 13 #[.agg #[.slice A m d, .int .i64 f], .agg #[.slice B m2 d2, .int .i64 f]] W (YesPost W true) from fun xs f A B m d m2 d2 W hl h1 h2 => sameAs h1 h2 (by have := Rs.len h1; omega))
    by_cases he : pe = 0
    · subst he
      have hg := push_good (p := (rs, fr)) (q := (hd, tl)) (key := i0) (task := i1) (front := FB) (by rw [hP])
      obtain ⟨fl, l, i, fl', p2, hok, hrow, hfl, hi, _, _, hpu⟩ := hg
      subst hfl
      have heq := hpu.eq
      rw [hP] at heq
      have e1 : p2 = (ps, pf) := (congrArg Prod.fst heq).symm
      have e2 : laidQ (pushL l i FB) = (ph, pt) := (congrArg (fun x => x.2.1) heq).symm
      have hta := hpu.tasks
      rw [e1, e2] at hta
      obtain ⟨T, hT⟩ : ∃ T, qTasks (rs, fr) (hd, tl) = T := ⟨_, rfl⟩
      rw [hT] at hta
      have htl : T.length ≤ 70 := by rw [← hT]; have := qta_len (rs, fr) (hd, tl); simp only at this; omega
      have c3 := Lib.hid (show ∀ B d W, Rs W B n d rs → Calls Try.prog 17 #[.agg #[.slice B n d, .int .i64 fr], .agg #[.int .i64 hd, .int .i64 tl]] W (IntsPost W T) from fun B d W h => hT ▸ qpTasks_any B n d rs fr hd tl W h (by omega))
      have c4 := Lib.hid (show ∀ B m d W, Rs W B m d ps → Calls Try.prog 17 #[.agg #[.slice B m d, .int .i64 pf], .agg #[.int .i64 ph, .int .i64 pt]] W (IntsPost W (pushL T i1 FB)) from fun B m d W h => hta ▸ qpTasks_any B m d ps pf ph pt W h (by have := Rs.len h; omega))
      have c13 := Lib.hid (show ∀ (xs : List Int) (A B : Option Addr) (n c m d : Nat) W, Is W A n c xs → Is W B m d xs → xs.length ≤ 80 → Calls Try.prog 16 #[.slice A n c, .slice B m d] W (YesPost W true) from fun xs A B n c m d W h1 h2 h3 => intsTrue xs h1 h2 (by omega))
      have HTL := Lib.hid htl
      clear hP hok hrow hi hpu heq hta hT e1 e2 htl
      go_enter Try.func4, Try.ntmps4
      go_wp2_with fail
      refine (alive8 _).mono ?_
      rintro e w2 ⟨rfl, hb⟩
      replace Va := Lib.hid (blk_below Va.out hb (blk_lt Va.out))
      replace Vq := Lib.hid (blk_below Vq.out hb (blk_lt Vq.out))
      replace Vt := Lib.hid (blk_below Vt.out hb (blk_lt Vt.out))
      replace RX := Lib.hid (Es.below RX.out hb)
      replace HB := Lib.hid (And.intro (HB.out.1.trans (hb.mono HB.out.2)) (Nat.le_trans HB.out.2 hb.size))
      clear hb
      have ca0 : w2.cell? ⟨sa, 0, none⟩ = some (.slice A n c) := (blk_cell Va.out 0).trans rfl
      have ca1 : w2.cell? ⟨sa, 1, none⟩ = some (.int .i64 fr) := (blk_cell Va.out 1).trans rfl
      go_wp2_with fail
      refine (c11.out _ _ _ RX.out).mono ?_
      rintro e w3 ⟨B1, d1, rfl, hown, hb⟩
      clear ca0 ca1
      replace Va := Lib.hid (blk_below Va.out hb (blk_lt Va.out))
      replace Vq := Lib.hid (blk_below Vq.out hb (blk_lt Vq.out))
      replace Vt := Lib.hid (blk_below Vt.out hb (blk_lt Vt.out))
      replace RX := Lib.hid (Es.below RX.out hb)
      replace HB := Lib.hid (And.intro (HB.out.1.trans (hb.mono HB.out.2)) (Nat.le_trans HB.out.2 hb.size))
      clear hb
      have R1 := Lib.hid (rs_own hown)
      clear hown
      have lta := blk_lt Va.out
      have ltq := blk_lt Vq.out
      have ltt := blk_lt Vt.out
      have gq := HB.out.2
      obtain ⟨w4, hw4⟩ : ∃ W, (w3.alloc (.cells #[.slice B1 n d1, .int .i64 fr] 24)) = W := ⟨_, rfl⟩
      have hb : Below w3.heap.size w3 w4 := hw4 ▸ ((Below.refl _ _).alloc (Nat.le_refl _) _)
      have hv0 : w4.heap[w3.heap.size]? = some (.cells #[.slice B1 n d1, .int .i64 fr] 24) := by
        have h0 := heap_alloc_new w3 (.cells #[.slice B1 n d1, .int .i64 fr] 24)
        rw [show w3.heap.size = w3.heap.size by simp [Nat.add_assoc]] at h0
        rw [← hw4]
        exact h0
      replace Va := Lib.hid (blk_below Va.out hb (blk_lt Va.out))
      replace Vq := Lib.hid (blk_below Vq.out hb (blk_lt Vq.out))
      replace Vt := Lib.hid (blk_below Vt.out hb (blk_lt Vt.out))
      replace RX := Lib.hid (Es.below RX.out hb)
      replace R1 := Lib.hid (Es.below R1.out hb)
      replace HB := Lib.hid (And.intro (HB.out.1.trans (hb.mono HB.out.2)) (Nat.le_trans HB.out.2 hb.size))
      have Vo := Lib.hid hv0
      have nea_o := Nat.ne_of_lt lta
      have neq_o := Nat.ne_of_lt ltq
      have net_o := Nat.ne_of_lt ltt
      have geo := gq
      generalize hso : w3.heap.size = so at *
      clear hb gq hv0 lta ltq ltt
      have co0 : w4.cell? ⟨so, 0, none⟩ = some (.slice B1 n d1) := (blk_cell Vo.out 0).trans rfl
      have co1 : w4.cell? ⟨so, 1, none⟩ = some (.int .i64 fr) := (blk_cell Vo.out 1).trans rfl
      have cq0 : w4.cell? ⟨sa + 1, 0, none⟩ = some (.int .i64 hd) := (blk_cell Vq.out 0).trans rfl
      have cq1 : w4.cell? ⟨sa + 1, 1, none⟩ = some (.int .i64 tl) := (blk_cell Vq.out 1).trans rfl
      have ct0 : w4.cell? ⟨sa + 2, 0, none⟩ = some (.int .i64 i0) := (blk_cell Vt.out 0).trans rfl
      have ct1 : w4.cell? ⟨sa + 2, 1, none⟩ = some (.int .i64 i1) := (blk_cell Vt.out 1).trans rfl
      have ct2 : w4.cell? ⟨sa + 2, 2, none⟩ = some (.int .i64 i2) := (blk_cell Vt.out 2).trans rfl
      go_wp2_with fail
      refine (c1.out _ _ _ R1.out).mono ?_
      rintro e w5 ⟨B2, m2, d2, rfl, hrs, hb⟩
      clear co0 co1 cq0 cq1 ct0 ct1 ct2
      replace Va := Lib.hid (blk_below Va.out hb (blk_lt Va.out))
      replace Vq := Lib.hid (blk_below Vq.out hb (blk_lt Vq.out))
      replace Vt := Lib.hid (blk_below Vt.out hb (blk_lt Vt.out))
      replace Vo := Lib.hid (blk_below Vo.out hb (blk_lt Vo.out))
      replace RX := Lib.hid (Es.below RX.out hb)
      replace R1 := Lib.hid (Es.below R1.out hb)
      replace HB := Lib.hid (And.intro (HB.out.1.trans (hb.mono HB.out.2)) (Nat.le_trans HB.out.2 hb.size))
      clear hb
      have R2 := Lib.hid hrs
      clear hrs
      have lta := blk_lt Va.out
      have ltq := blk_lt Vq.out
      have ltt := blk_lt Vt.out
      have lto := blk_lt Vo.out
      have gq := HB.out.2
      obtain ⟨w6, hw6⟩ : ∃ W, ((w5.alloc (.cells #[.slice B2 m2 d2, .int .i64 pf] 24)).alloc (.cells #[.int .i64 ph, .int .i64 pt] 26)) = W := ⟨_, rfl⟩
      have hb : Below w5.heap.size w5 w6 := hw6 ▸ (((Below.refl _ _).alloc (Nat.le_refl _) _).alloc (by first | (simp; done) | (simp; omega)) _)
      have hv0 : w6.heap[w5.heap.size]? = some (.cells #[.slice B2 m2 d2, .int .i64 pf] 24) := by
        have h0 := heap_alloc_new w5 (.cells #[.slice B2 m2 d2, .int .i64 pf] 24)
        rw [show w5.heap.size = w5.heap.size by simp [Nat.add_assoc]] at h0
        rw [← hw6]
        rw [heap_alloc_old _ _ (by simp <;> omega)]; exact h0
      have hv1 : w6.heap[w5.heap.size + 1]? = some (.cells #[.int .i64 ph, .int .i64 pt] 26) := by
        have h0 := heap_alloc_new (w5.alloc (.cells #[.slice B2 m2 d2, .int .i64 pf] 24)) (.cells #[.int .i64 ph, .int .i64 pt] 26)
        rw [show (w5.alloc (.cells #[.slice B2 m2 d2, .int .i64 pf] 24)).heap.size = w5.heap.size + 1 by simp [Nat.add_assoc]] at h0
        rw [← hw6]
        exact h0
      replace Va := Lib.hid (blk_below Va.out hb (blk_lt Va.out))
      replace Vq := Lib.hid (blk_below Vq.out hb (blk_lt Vq.out))
      replace Vt := Lib.hid (blk_below Vt.out hb (blk_lt Vt.out))
      replace Vo := Lib.hid (blk_below Vo.out hb (blk_lt Vo.out))
      replace RX := Lib.hid (Es.below RX.out hb)
      replace R1 := Lib.hid (Es.below R1.out hb)
      replace R2 := Lib.hid (Es.below R2.out hb)
      replace HB := Lib.hid (And.intro (HB.out.1.trans (hb.mono HB.out.2)) (Nat.le_trans HB.out.2 hb.size))
      have Vx := Lib.hid hv0
      have nea_x := Nat.ne_of_lt lta
      have neq_x := Nat.ne_of_lt ltq
      have net_x := Nat.ne_of_lt ltt
      have neo_x := Nat.ne_of_lt lto
      have gex := gq
      have Vp := Lib.hid hv1
      have nea_p := Nat.ne_of_lt (Nat.lt_of_lt_of_le lta (Nat.le_add_right w5.heap.size 1))
      have neq_p := Nat.ne_of_lt (Nat.lt_of_lt_of_le ltq (Nat.le_add_right w5.heap.size 1))
      have net_p := Nat.ne_of_lt (Nat.lt_of_lt_of_le ltt (Nat.le_add_right w5.heap.size 1))
      have neo_p := Nat.ne_of_lt (Nat.lt_of_lt_of_le lto (Nat.le_add_right w5.heap.size 1))
      have nex_p : w5.heap.size ≠ w5.heap.size + 1 := by omega
      have gep : _ ≤ w5.heap.size + 1 := Nat.le_trans gq (Nat.le_add_right _ 1)
      generalize hsx : w5.heap.size = sx at *
      clear hb gq hv0 hv1 lta ltq ltt lto
      have ca0 : w6.cell? ⟨sa, 0, none⟩ = some (.slice A n c) := (blk_cell Va.out 0).trans rfl
      have ca1 : w6.cell? ⟨sa, 1, none⟩ = some (.int .i64 fr) := (blk_cell Va.out 1).trans rfl
      have cq0 : w6.cell? ⟨sa + 1, 0, none⟩ = some (.int .i64 hd) := (blk_cell Vq.out 0).trans rfl
      have cq1 : w6.cell? ⟨sa + 1, 1, none⟩ = some (.int .i64 tl) := (blk_cell Vq.out 1).trans rfl
      have ct0 : w6.cell? ⟨sa + 2, 0, none⟩ = some (.int .i64 i0) := (blk_cell Vt.out 0).trans rfl
      have ct1 : w6.cell? ⟨sa + 2, 1, none⟩ = some (.int .i64 i1) := (blk_cell Vt.out 1).trans rfl
      have ct2 : w6.cell? ⟨sa + 2, 2, none⟩ = some (.int .i64 i2) := (blk_cell Vt.out 2).trans rfl
      go_wp2_with fail
      refine (c2.out _ _ _ RX.out).mono ?_
      rintro e w7 ⟨B3, m3, d3, rfl, hrs, hb⟩
      clear ca0 ca1 cq0 cq1 ct0 ct1 ct2
      replace Va := Lib.hid (blk_below Va.out hb (blk_lt Va.out))
      replace Vq := Lib.hid (blk_below Vq.out hb (blk_lt Vq.out))
      replace Vt := Lib.hid (blk_below Vt.out hb (blk_lt Vt.out))
      replace Vo := Lib.hid (blk_below Vo.out hb (blk_lt Vo.out))
      replace Vx := Lib.hid (blk_below Vx.out hb (blk_lt Vx.out))
      replace Vp := Lib.hid (blk_below Vp.out hb (blk_lt Vp.out))
      replace RX := Lib.hid (Es.below RX.out hb)
      replace R1 := Lib.hid (Es.below R1.out hb)
      replace R2 := Lib.hid (Es.below R2.out hb)
      replace HB := Lib.hid (And.intro (HB.out.1.trans (hb.mono HB.out.2)) (Nat.le_trans HB.out.2 hb.size))
      clear hb
      have R3 := Lib.hid hrs
      clear hrs
      have lta := blk_lt Va.out
      have ltq := blk_lt Vq.out
      have ltt := blk_lt Vt.out
      have lto := blk_lt Vo.out
      have ltx := blk_lt Vx.out
      have ltp := blk_lt Vp.out
      have gq := HB.out.2
      obtain ⟨w8, hw8⟩ : ∃ W, ((w7.alloc (.cells #[.slice B3 m3 d3, .int .i64 pf] 24)).alloc (.cells #[.int .i64 ph, .int .i64 pt] 26)) = W := ⟨_, rfl⟩
      have hb : Below w7.heap.size w7 w8 := hw8 ▸ (((Below.refl _ _).alloc (Nat.le_refl _) _).alloc (by first | (simp; done) | (simp; omega)) _)
      have hv0 : w8.heap[w7.heap.size]? = some (.cells #[.slice B3 m3 d3, .int .i64 pf] 24) := by
        have h0 := heap_alloc_new w7 (.cells #[.slice B3 m3 d3, .int .i64 pf] 24)
        rw [show w7.heap.size = w7.heap.size by simp [Nat.add_assoc]] at h0
        rw [← hw8]
        rw [heap_alloc_old _ _ (by simp <;> omega)]; exact h0
      have hv1 : w8.heap[w7.heap.size + 1]? = some (.cells #[.int .i64 ph, .int .i64 pt] 26) := by
        have h0 := heap_alloc_new (w7.alloc (.cells #[.slice B3 m3 d3, .int .i64 pf] 24)) (.cells #[.int .i64 ph, .int .i64 pt] 26)
        rw [show (w7.alloc (.cells #[.slice B3 m3 d3, .int .i64 pf] 24)).heap.size = w7.heap.size + 1 by simp [Nat.add_assoc]] at h0
        rw [← hw8]
        exact h0
      replace Va := Lib.hid (blk_below Va.out hb (blk_lt Va.out))
      replace Vq := Lib.hid (blk_below Vq.out hb (blk_lt Vq.out))
      replace Vt := Lib.hid (blk_below Vt.out hb (blk_lt Vt.out))
      replace Vo := Lib.hid (blk_below Vo.out hb (blk_lt Vo.out))
      replace Vx := Lib.hid (blk_below Vx.out hb (blk_lt Vx.out))
      replace Vp := Lib.hid (blk_below Vp.out hb (blk_lt Vp.out))
      replace RX := Lib.hid (Es.below RX.out hb)
      replace R1 := Lib.hid (Es.below R1.out hb)
      replace R2 := Lib.hid (Es.below R2.out hb)
      replace R3 := Lib.hid (Es.below R3.out hb)
      replace HB := Lib.hid (And.intro (HB.out.1.trans (hb.mono HB.out.2)) (Nat.le_trans HB.out.2 hb.size))
      have Vy := Lib.hid hv0
      have nea_y := Nat.ne_of_lt lta
      have neq_y := Nat.ne_of_lt ltq
      have net_y := Nat.ne_of_lt ltt
      have neo_y := Nat.ne_of_lt lto
      have nex_y := Nat.ne_of_lt ltx
      have nep_y := Nat.ne_of_lt ltp
      have gey := gq
      have Vr := Lib.hid hv1
      have nea_r := Nat.ne_of_lt (Nat.lt_of_lt_of_le lta (Nat.le_add_right w7.heap.size 1))
      have neq_r := Nat.ne_of_lt (Nat.lt_of_lt_of_le ltq (Nat.le_add_right w7.heap.size 1))
      have net_r := Nat.ne_of_lt (Nat.lt_of_lt_of_le ltt (Nat.le_add_right w7.heap.size 1))
      have neo_r := Nat.ne_of_lt (Nat.lt_of_lt_of_le lto (Nat.le_add_right w7.heap.size 1))
      have nex_r := Nat.ne_of_lt (Nat.lt_of_lt_of_le ltx (Nat.le_add_right w7.heap.size 1))
      have nep_r := Nat.ne_of_lt (Nat.lt_of_lt_of_le ltp (Nat.le_add_right w7.heap.size 1))
      have ney_r : w7.heap.size ≠ w7.heap.size + 1 := by omega
      have ger : _ ≤ w7.heap.size + 1 := Nat.le_trans gq (Nat.le_add_right _ 1)
      generalize hsy : w7.heap.size = sy at *
      clear hb gq hv0 hv1 lta ltq ltt lto ltx ltp
      have cx0 : w8.cell? ⟨sx, 0, none⟩ = some (.slice B2 m2 d2) := (blk_cell Vx.out 0).trans rfl
      have cx1 : w8.cell? ⟨sx, 1, none⟩ = some (.int .i64 pf) := (blk_cell Vx.out 1).trans rfl
      have cy0 : w8.cell? ⟨sy, 0, none⟩ = some (.slice B3 m3 d3) := (blk_cell Vy.out 0).trans rfl
      have cy1 : w8.cell? ⟨sy, 1, none⟩ = some (.int .i64 pf) := (blk_cell Vy.out 1).trans rfl
      go_wp2_with fail
      refine (c12.out _ _ _ _ _ _ _ _ _ hpl R2.out R3.out).mono ?_
      rintro e w9 ⟨rfl, hb⟩
      clear cx0 cx1 cy0 cy1
      replace Va := Lib.hid (blk_below Va.out hb (blk_lt Va.out))
      replace Vq := Lib.hid (blk_below Vq.out hb (blk_lt Vq.out))
      replace Vt := Lib.hid (blk_below Vt.out hb (blk_lt Vt.out))
      replace Vo := Lib.hid (blk_below Vo.out hb (blk_lt Vo.out))
      replace Vx := Lib.hid (blk_below Vx.out hb (blk_lt Vx.out))
      replace Vp := Lib.hid (blk_below Vp.out hb (blk_lt Vp.out))
      replace Vy := Lib.hid (blk_below Vy.out hb (blk_lt Vy.out))
      replace Vr := Lib.hid (blk_below Vr.out hb (blk_lt Vr.out))
      replace RX := Lib.hid (Es.below RX.out hb)
      replace R1 := Lib.hid (Es.below R1.out hb)
      replace R2 := Lib.hid (Es.below R2.out hb)
      replace R3 := Lib.hid (Es.below R3.out hb)
      replace HB := Lib.hid (And.intro (HB.out.1.trans (hb.mono HB.out.2)) (Nat.le_trans HB.out.2 hb.size))
      clear hb
      have cp0 : w9.cell? ⟨sx + 1, 0, none⟩ = some (.int .i64 ph) := (blk_cell Vp.out 0).trans rfl
      have cp1 : w9.cell? ⟨sx + 1, 1, none⟩ = some (.int .i64 pt) := (blk_cell Vp.out 1).trans rfl
      have cr0 : w9.cell? ⟨sy + 1, 0, none⟩ = some (.int .i64 ph) := (blk_cell Vr.out 0).trans rfl
      have cr1 : w9.cell? ⟨sy + 1, 1, none⟩ = some (.int .i64 pt) := (blk_cell Vr.out 1).trans rfl
      have co0 : w9.cell? ⟨so, 0, none⟩ = some (.slice B1 n d1) := (blk_cell Vo.out 0).trans rfl
      have co1 : w9.cell? ⟨so, 1, none⟩ = some (.int .i64 fr) := (blk_cell Vo.out 1).trans rfl
      have ca0 : w9.cell? ⟨sa, 0, none⟩ = some (.slice A n c) := (blk_cell Va.out 0).trans rfl
      have ca1 : w9.cell? ⟨sa, 1, none⟩ = some (.int .i64 fr) := (blk_cell Va.out 1).trans rfl
      go_wp2_with fail
      refine (c12.out _ _ _ _ _ _ _ _ _ hlen R1.out RX.out).mono ?_
      rintro e w10 ⟨rfl, hb⟩
      clear cp0 cp1 cr0 cr1 co0 co1 ca0 ca1
      replace Va := Lib.hid (blk_below Va.out hb (blk_lt Va.out))
      replace Vq := Lib.hid (blk_below Vq.out hb (blk_lt Vq.out))
      replace Vt := Lib.hid (blk_below Vt.out hb (blk_lt Vt.out))
      replace Vo := Lib.hid (blk_below Vo.out hb (blk_lt Vo.out))
      replace Vx := Lib.hid (blk_below Vx.out hb (blk_lt Vx.out))
      replace Vp := Lib.hid (blk_below Vp.out hb (blk_lt Vp.out))
      replace Vy := Lib.hid (blk_below Vy.out hb (blk_lt Vy.out))
      replace Vr := Lib.hid (blk_below Vr.out hb (blk_lt Vr.out))
      replace RX := Lib.hid (Es.below RX.out hb)
      replace R1 := Lib.hid (Es.below R1.out hb)
      replace R2 := Lib.hid (Es.below R2.out hb)
      replace R3 := Lib.hid (Es.below R3.out hb)
      replace HB := Lib.hid (And.intro (HB.out.1.trans (hb.mono HB.out.2)) (Nat.le_trans HB.out.2 hb.size))
      clear hb
      go_upto_region 13 with fail
      go_cut [15, 16] from 17 (fun s15 s16 wx => ∃ (A1 : Option Addr) (n1 e1 : Nat) (A2 : Option Addr) (n2 e2 : Nat), s15 = .slice A1 n1 e1 ∧ s16 = .slice A2 n2 e2 ∧ Hid (Is wx A1 n1 e1 T) ∧ Hid (Is wx A2 n2 e2 (pushL T i1 FB)) ∧ Hid (Below w10.heap.size w10 wx))
      case first =>
        refine wp_region_noPanic ?_
        refine wp_region_held_drew (S := (fun wv => Below w10.heap.size w10 wv)) (by kernel_rfl) ((Below.refl w10.heap.size w10).drew) (fun hS => ?_)
        refine wpAnyH_take (i := 0) (oi := ⟨some 83, .load 24 (.tmp 3), 24, "law.go:60", #[], none⟩) (v := .agg (([.slice A n c, .int .i64 fr] : List Value)).toArray) rfl (by kernel_rfl) (by kernel_rfl) (by kernel_rfl) (fun _ _ _ h => h) (yieldsIf_load_mid (by rfl) _ _ (by rfl) (sa) 0 (by rfl) (([.slice A n c, .int .i64 fr] : List Value)) _ (fun wv hS => blk_rngl (blk_below Va.out hS (blk_lt Va.out))) Try.underlying24 (by rfl) (by kernel_rfl)) hS ?_
        try simp only [Act.put, List.setIfInBounds_toArray, List.set_cons_zero, List.set_cons_succ]
        refine wpAnyH_take (i := 1) (oi := ⟨some 84, .load 26 (.tmp 4), 26, "law.go:60", #[], none⟩) (v := .agg (([.int .i64 hd, .int .i64 tl] : List Value)).toArray) rfl (by kernel_rfl) (by kernel_rfl) (by kernel_rfl) (fun _ _ _ h => h) (yieldsIf_load_mid (by rfl) _ _ (by rfl) (sa + 1) 0 (by rfl) (([.int .i64 hd, .int .i64 tl] : List Value)) _ (fun wv hS => blk_rngl (blk_below Vq.out hS (blk_lt Vq.out))) Try.underlying26 (by rfl) (by kernel_rfl)) hS ?_
        try simp only [Act.put, List.setIfInBounds_toArray, List.set_cons_zero, List.set_cons_succ]
        refine wpAnyH_take (i := 3) (oi := ⟨some 86, .load 24 (.tmp 9), 24, "law.go:60", #[], none⟩) (v := .agg (([.slice B2 m2 d2, .int .i64 pf] : List Value)).toArray) rfl (by kernel_rfl) (by kernel_rfl) (by kernel_rfl) (fun _ _ _ h => h) (yieldsIf_load_mid (by rfl) _ _ (by rfl) (sx) 0 (by rfl) (([.slice B2 m2 d2, .int .i64 pf] : List Value)) _ (fun wv hS => blk_rngl (blk_below Vx.out hS (blk_lt Vx.out))) Try.underlying24 (by rfl) (by kernel_rfl)) hS ?_
        try simp only [Act.put, List.setIfInBounds_toArray, List.set_cons_zero, List.set_cons_succ]
        refine wpAnyH_take (i := 4) (oi := ⟨some 87, .load 26 (.tmp 10), 26, "law.go:60", #[], none⟩) (v := .agg (([.int .i64 ph, .int .i64 pt] : List Value)).toArray) rfl (by kernel_rfl) (by kernel_rfl) (by kernel_rfl) (fun _ _ _ h => h) (yieldsIf_load_mid (by rfl) _ _ (by rfl) (sx + 1) 0 (by rfl) (([.int .i64 ph, .int .i64 pt] : List Value)) _ (fun wv hS => blk_rngl (blk_below Vp.out hS (blk_lt Vp.out))) Try.underlying26 (by rfl) (by kernel_rfl)) hS ?_
        try simp only [Act.put, List.setIfInBounds_toArray, List.set_cons_zero, List.set_cons_succ]
        refine wpAnyH_ready (rs := [2]) (by kernel_rfl) (by simp) (AllReadyH.cons (o := ⟨some 85, .call { callee := .value (.func 17), args := #[.tmp 83, .tmp 84], argTypes := #[24, 26] }, 37, "law.go:60", #[⟨0, .data⟩, ⟨1, .data⟩], none⟩) rfl (fun K hK => ?_) AllReadyH.nil)
        go_simp
        refine (c3.out _ _ _ (Es.below RX.out hS)).mono ?_; rintro e u2 ⟨A1, n1, e1, rfl, his, hb⟩
        have J1 := Lib.hid his; clear his
        replace hS := hS.trans (hb.mono hS.size)
        clear hb
        go_wp2_with fail
        refine Shut.out hK _ _ hS (fun _ => ?_)
        clear hK K
        try simp only [Act.put, List.setIfInBounds_toArray, List.set_cons_zero, List.set_cons_succ]
        refine wpAnyH_ready (rs := [5]) (by kernel_rfl) (by simp) (AllReadyH.cons (o := ⟨some 88, .call { callee := .value (.func 17), args := #[.tmp 86, .tmp 87], argTypes := #[24, 26] }, 37, "law.go:60", #[⟨3, .data⟩, ⟨4, .data⟩, ⟨2, .chain⟩], none⟩) rfl (fun K hK => ?_) AllReadyH.nil)
        go_simp
        refine (c4.out _ _ _ _ (Es.below R2.out hS)).mono ?_; rintro e u5 ⟨A2, n2, e2, rfl, his, hb⟩
        have J2 := Lib.hid his; clear his
        replace J1 := Lib.hid (Es.below J1.out hb)
        replace hS := hS.trans (hb.mono hS.size)
        clear hb
        go_wp2_with fail
        refine Shut.out hK _ _ hS (fun _ => ?_)
        clear hK K
        try simp only [Act.put, List.setIfInBounds_toArray, List.set_cons_zero, List.set_cons_succ]
        refine wpAnyH_take (i := 6) (oi := ⟨some 15, .assign (.tmp 85), 37, "law.go:60", #[⟨2, .data⟩, ⟨5, .chain⟩, ⟨0, .phase⟩, ⟨1, .phase⟩, ⟨2, .phase⟩, ⟨3, .textOnly .lateStores⟩, ⟨4, .textOnly .lateStores⟩, ⟨5, .textOnly .lateStoresUnsure⟩], none⟩) (v := ?_) rfl (by kernel_rfl) (by kernel_rfl) (by kernel_rfl) (fun _ _ _ h => h) (Or.inl ⟨by rfl, ?_⟩) hS ?_
        rotate_left
        · intro wv _; go_simp; try with_reducible rfl
        try simp only [Act.put, List.setIfInBounds_toArray, List.set_cons_zero, List.set_cons_succ]
        refine wpAnyH_take (i := 7) (oi := ⟨some 16, .assign (.tmp 88), 37, "law.go:60", #[⟨5, .data⟩, ⟨6, .chain⟩, ⟨0, .phase⟩, ⟨1, .phase⟩, ⟨2, .phase⟩, ⟨3, .phase⟩, ⟨4, .phase⟩, ⟨5, .phase⟩, ⟨6, .phase⟩], none⟩) (v := ?_) rfl (by kernel_rfl) (by kernel_rfl) (by kernel_rfl) (fun _ _ _ h => h) (Or.inl ⟨by rfl, ?_⟩) hS ?_
        rotate_left
        · intro wv _; go_simp; try with_reducible rfl
        try simp only [Act.put, List.setIfInBounds_toArray, List.set_cons_zero, List.set_cons_succ]
        refine wpAnyH_done (by kernel_rfl) ?_ _
        refine NoPanic.normal ?_
        go_wp2_with fail
        go_meet
        exact ⟨A1, n1, e1, A2, n2, e2, rfl, rfl, J1, J2, Lib.hid hS⟩
      case rest =>
      obtain ⟨A1, n1, e1, A2, n2, e2, rfl, rfl, J1, J2, hS⟩ := hcut
      obtain ⟨wd, hwd⟩ : ∃ x, x = wc := ⟨_, rfl⟩
      subst hwd
      replace Vt := Lib.hid (blk_below Vt.out hS.out (blk_lt Vt.out))
      replace HB := Lib.hid (And.intro (HB.out.1.trans (hS.out.mono HB.out.2)) (Nat.le_trans HB.out.2 hS.out.size))
      clear hS
      have hJ1 := J1.out.len
      have htl := HTL.out
      have ct1 : wd.cell? ⟨sa + 2, 1, none⟩ = some (.int .i64 i1) := (blk_cell Vt.out 1).trans rfl
      cases FB
      · have hlt := blk_lt Vt.out
        have HBZ := Lib.hid HB.out.2
        generalize hz : wd.heap.size = z at *
        have BZ := Lib.hid (show ∀ X, Below z wd X → Below wd.heap.size wd X from fun X h => by rw [hz]; exact h)
        have HS : Below z wd wd := Below.refl _ _
        go_wp2
        refine wp_region_noPanic ?_
        refine wp_region_held_drew (S := (fun wv => Below z wd wv)) (by kernel_rfl) (HS.drew) (fun hS => ?_)
        refine wpAnyH_take (i := 0) (oi := ⟨some 97, .move (.tmp 16), 37, "law.go:64", #[], none⟩) (v := ?_) rfl (by kernel_rfl) (by kernel_rfl) (by kernel_rfl) (fun _ _ _ h => h) (Or.inl ⟨by rfl, ?_⟩) hS ?_
        rotate_left
        · intro wv _; go_simp; try with_reducible rfl
        try simp only [Act.put, List.setIfInBounds_toArray, List.set_cons_zero, List.set_cons_succ]
        refine wpAnyH_take (i := 2) (oi := ⟨some 99, .move (.tmp 15), 37, "law.go:64", #[], none⟩) (v := ?_) rfl (by kernel_rfl) (by kernel_rfl) (by kernel_rfl) (fun _ _ _ h => h) (Or.inl ⟨by rfl, ?_⟩) hS ?_
        rotate_left
        · intro wv _; go_simp; try with_reducible rfl
        try simp only [Act.put, List.setIfInBounds_toArray, List.set_cons_zero, List.set_cons_succ]
        refine wpAnyH_take (i := 4) (oi := ⟨some 101, .indexAddr 40 (.tmp 5) (.const (Value.int IntKind.i64 1)), 0, "law.go:64", #[], none⟩) (v := ?_) rfl (by kernel_rfl) (by kernel_rfl) (by kernel_rfl) (fun _ _ _ h => h) (Or.inl ⟨by rfl, ?_⟩) hS ?_
        rotate_left
        · intro wv _; go_simp; try with_reducible rfl
        try simp only [Act.put, List.setIfInBounds_toArray, List.set_cons_zero, List.set_cons_succ]
        refine wpAnyH_take (i := 5) (oi := ⟨some 102, .load 3 (.tmp 101), 3, "law.go:64", #[⟨4, .data⟩], none⟩) (v := ?_) rfl (by kernel_rfl) (by kernel_rfl) (by kernel_rfl) (fun _ _ _ h => h) (Or.inl ⟨by rfl, ?_⟩) hS ?_
        rotate_left
        · intro wv hS; have hrun := (hS.cell (p := ⟨sa + 2, 1, none⟩) hlt).trans ct1; go_simp; try with_reducible rfl
        try simp only [Act.put, List.setIfInBounds_toArray, List.set_cons_zero, List.set_cons_succ]
        refine wpAnyH_ready (rs := [1, 6]) (by kernel_rfl) (by simp) (AllReadyH.cons (o := ⟨some 98, .buildSlice 37 0 #[], 37, "law.go:64", #[], none⟩) rfl (fun K hK => ?_) (AllReadyH.cons (o := ⟨some 103, .buildSlice 37 1 #[(0, .tmp 102)], 37, "law.go:64", #[⟨5, .data⟩], none⟩) rfl (fun K hK => ?_) AllReadyH.nil))
        ·
         go_simp
         have zs : z ≤ z := Nat.le_refl _
         have bd : Below z wd (wd.alloc (.cells #[] 3)) := by have h := (Below.refl wd.heap.size wd).alloc (Nat.le_refl _) (.cells #[] 3); rwa [hz] at h
         have OW : (wd.alloc (.cells #[] 3)).ownsRow z 3 1 (.slice (some ⟨z, 0, none⟩) 0 0) 0 (intC []) := by have h := lit_ints (base := z) wd (Nat.le_of_eq hz.symm) [] (by simp) rfl; rw [hz] at h; exact h
         replace HS := HS.trans (bd.mono zs)
         clear bd zs
         generalize wd.alloc (.cells #[] 3) = y1 at *
         replace hS := HS.drew
         refine Shut.out hK _ _ hS (fun _ => ?_)
         clear hK K
         try simp only [Act.put, List.setIfInBounds_toArray, List.set_cons_zero, List.set_cons_succ]
         refine wpAnyH_ready (rs := [3, 6]) (by kernel_rfl) (by simp) (AllReadyH.cons (o := ⟨some 100, .call { callee := .builtin .append, args := #[.tmp 98, .tmp 99], argTypes := #[37, 37] }, 37, "law.go:64", #[⟨1, .data⟩, ⟨2, .data⟩], none⟩) rfl (fun K hK => ?_) (AllReadyH.cons (o := ⟨some 103, .buildSlice 37 1 #[(0, .tmp 102)], 37, "law.go:64", #[⟨5, .data⟩], none⟩) rfl (fun K hK => ?_) AllReadyH.nil))
         ·
          replace HS := HS.drew
          replace OW : y1.drew.ownsRow z 3 1 _ _ _ := ⟨OW.1, OW.2⟩
          have zs : z ≤ y1.drew.heap.size := by have h1 := HS.size; rw [hz] at h1; exact h1
          obtain ⟨A3, c3_, w3_, hap, hown, hgr⟩ := app_ints y1.drew z _ 0 [] OW A1 n1 e1 T (Es.below J1.out (BZ.out _ HS)) (by omega) zs
          rw [Nat.zero_add] at hap hown
          rw [List.nil_append] at hown
          refine op_app_run7 (by rfl) rfl rfl rfl hap ?_
          have bg : Below z y1.drew w3_ := (Below.refl _ _).grown hgr zs (fun k hk => (OW.lt k hk).1)
          replace HS := HS.trans bg
          replace OW := hown
          clear hap hgr hown bg zs
          replace hS := HS
          refine Shut.out hK _ _ hS (fun _ => ?_)
          clear hK K
          try simp only [Act.put, List.setIfInBounds_toArray, List.set_cons_zero, List.set_cons_succ]
          refine wpAnyH_ready (rs := [6]) (by kernel_rfl) (by simp) (AllReadyH.cons (o := ⟨some 103, .buildSlice 37 1 #[(0, .tmp 102)], 37, "law.go:64", #[⟨5, .data⟩], none⟩) rfl (fun K hK => ?_) AllReadyH.nil)
          go_simp
          have zs : z ≤ w3_.heap.size := by have h1 := HS.size; rw [hz] at h1; exact h1
          have bd : Below w3_.heap.size w3_ (w3_.alloc (.cells #[.int .i64 i1] 3)) := (Below.refl _ _).alloc (Nat.le_refl _) _
          have NE := fun k hk => Nat.ne_of_lt (OW.lt k hk).2
          replace OW := own_below OW bd
          have VL : (w3_.alloc (.cells #[.int .i64 i1] 3)).heap[w3_.heap.size]? = some (.cells (intC [i1]).toArray 3) := heap_alloc_new _ _
          replace HS := HS.trans (bd.mono zs)
          clear bd zs
          generalize w3_.alloc (.cells #[.int .i64 i1] 3) = y2 at *
          generalize hs2 : w3_.heap.size = s2 at *
          replace hS := HS
          refine Shut.out hK _ _ hS (fun _ => ?_)
          clear hK K
          try simp only [Act.put, List.setIfInBounds_toArray, List.set_cons_zero, List.set_cons_succ]
          refine wpAnyH_ready (rs := [7]) (by kernel_rfl) (by simp) (AllReadyH.cons (o := ⟨some 104, .call { callee := .builtin .append, args := #[.tmp 100, .tmp 103], argTypes := #[37, 37] }, 37, "law.go:64", #[⟨3, .data⟩, ⟨6, .data⟩, ⟨3, .chain⟩], none⟩) rfl (fun K hK => ?_) AllReadyH.nil)
          have zs : z ≤ y2.heap.size := by have h1 := HS.size; rw [hz] at h1; exact h1
          obtain ⟨A4, c4_, w4_, hap, hown, hgr⟩ := app_ints y2 z _ n1 T OW (some ⟨s2, 0, none⟩) 1 1 [i1] (is_blk VL rfl) (by omega) zs
          refine op_app_run7 (by rfl) rfl rfl rfl hap ?_
          have bg : Below z y2 w4_ := (Below.refl _ _).grown hgr zs (fun k hk => (OW.lt k hk).1)
          replace HS := HS.trans bg
          obtain ⟨_, _, he, hir⟩ := Es.of_own hown (intC_one _)
          injection he with he1 he2 he3; subst he1; subst he3
          have IR := Lib.hid (show Is w4_ _ _ _ (T ++ [i1]) from hir)
          clear hap hgr hown bg zs hir VL OW
          replace hS := HS
          refine Shut.out hK _ _ hS (fun _ => ?_)
          clear hK K
          try simp only [Act.put, List.setIfInBounds_toArray, List.set_cons_zero, List.set_cons_succ]
          refine wpAnyH_ready (rs := [8]) (by kernel_rfl) (by simp) (AllReadyH.cons (o := ⟨some 105, .call { callee := .value (.func 16), args := #[.tmp 97, .tmp 104], argTypes := #[37, 37] }, 4, "law.go:64", #[⟨0, .data⟩, ⟨7, .data⟩, ⟨7, .chain⟩], none⟩) rfl (fun K hK => ?_) AllReadyH.nil)
          go_simp
          refine (c13.out _ _ _ _ _ _ _ _ (show Is w4_ A2 n2 e2 (T ++ [i1]) from Es.below J2.out (BZ.out _ HS)) IR.out (by have := HTL.out; simp; omega)).mono ?_; rintro e u8 ⟨rfl, hb⟩
          replace HS := HS.trans (hb.mono (by have h1 := HS.size; rw [hz] at h1; exact h1))
          clear hb
          replace hS := HS
          go_wp2_with fail
          refine Shut.out hK _ _ hS (fun _ => ?_)
          clear hK K
          try simp only [Act.put, List.setIfInBounds_toArray, List.set_cons_zero, List.set_cons_succ]
          refine wpAnyH_take (i := 9) (oi := ⟨some 6, .assign (.tmp 105), 4, "law.go:64", #[⟨8, .data⟩, ⟨8, .chain⟩, ⟨0, .phase⟩, ⟨1, .phase⟩, ⟨2, .phase⟩, ⟨3, .phase⟩, ⟨4, .phase⟩, ⟨5, .phase⟩, ⟨6, .phase⟩, ⟨7, .phase⟩, ⟨8, .phase⟩], none⟩) (v := ?_) rfl (by kernel_rfl) (by kernel_rfl) (by kernel_rfl) (fun _ _ _ h => h) (Or.inl ⟨by rfl, ?_⟩) hS ?_
          rotate_left
          · intro wv _; go_simp; try with_reducible rfl
          try simp only [Act.put, List.setIfInBounds_toArray, List.set_cons_zero, List.set_cons_succ]
          refine wpAnyH_done (by kernel_rfl) ?_ _
          refine NoPanic.normal ?_
          go_wp2
          go_ret
          exact ⟨rfl, HB.out.1.trans (HS.mono HBZ.out)⟩
         ·
          go_simp
          have zs : z ≤ y1.heap.size := by have h1 := HS.size; rw [hz] at h1; exact h1
          have bd : Below y1.heap.size y1 (y1.alloc (.cells #[.int .i64 i1] 3)) := (Below.refl _ _).alloc (Nat.le_refl _) _
          have NE := fun k hk => Nat.ne_of_lt (OW.lt k hk).2
          replace OW := own_below OW bd
          have VL : (y1.alloc (.cells #[.int .i64 i1] 3)).heap[y1.heap.size]? = some (.cells (intC [i1]).toArray 3) := heap_alloc_new _ _
          replace HS := HS.trans (bd.mono zs)
          clear bd zs
          generalize y1.alloc (.cells #[.int .i64 i1] 3) = y2 at *
          generalize hs2 : y1.heap.size = s2 at *
          replace hS := HS.drew
          refine Shut.out hK _ _ hS (fun _ => ?_)
          clear hK K
          try simp only [Act.put, List.setIfInBounds_toArray, List.set_cons_zero, List.set_cons_succ]
          refine wpAnyH_ready (rs := [3]) (by kernel_rfl) (by simp) (AllReadyH.cons (o := ⟨some 100, .call { callee := .builtin .append, args := #[.tmp 98, .tmp 99], argTypes := #[37, 37] }, 37, "law.go:64", #[⟨1, .data⟩, ⟨2, .data⟩], none⟩) rfl (fun K hK => ?_) AllReadyH.nil)
          replace HS := HS.drew
          replace OW : y2.drew.ownsRow z 3 1 _ _ _ := ⟨OW.1, OW.2⟩
          replace VL : y2.drew.heap[_]? = _ := VL
          have zs : z ≤ y2.drew.heap.size := by have h1 := HS.size; rw [hz] at h1; exact h1
          obtain ⟨A3, c3_, w3_, hap, hown, hgr⟩ := app_ints y2.drew z _ 0 [] OW A1 n1 e1 T (Es.below J1.out (BZ.out _ HS)) (by omega) zs
          rw [Nat.zero_add] at hap hown
          rw [List.nil_append] at hown
          refine op_app_run7 (by rfl) rfl rfl rfl hap ?_
          replace VL := blk_grown VL hgr NE
          clear NE
          have bg : Below z y2.drew w3_ := (Below.refl _ _).grown hgr zs (fun k hk => (OW.lt k hk).1)
          replace HS := HS.trans bg
          replace OW := hown
          clear hap hgr hown bg zs
          replace hS := HS
          refine Shut.out hK _ _ hS (fun _ => ?_)
          clear hK K
          try simp only [Act.put, List.setIfInBounds_toArray, List.set_cons_zero, List.set_cons_succ]
          refine wpAnyH_ready (rs := [7]) (by kernel_rfl) (by simp) (AllReadyH.cons (o := ⟨some 104, .call { callee := .builtin .append, args := #[.tmp 100, .tmp 103], argTypes := #[37, 37] }, 37, "law.go:64", #[⟨3, .data⟩, ⟨6, .data⟩, ⟨3, .chain⟩], none⟩) rfl (fun K hK => ?_) AllReadyH.nil)
          have zs : z ≤ w3_.heap.size := by have h1 := HS.size; rw [hz] at h1; exact h1
          obtain ⟨A4, c4_, w4_, hap, hown, hgr⟩ := app_ints w3_ z _ n1 T OW (some ⟨s2, 0, none⟩) 1 1 [i1] (is_blk VL rfl) (by omega) zs
          refine op_app_run7 (by rfl) rfl rfl rfl hap ?_
          have bg : Below z w3_ w4_ := (Below.refl _ _).grown hgr zs (fun k hk => (OW.lt k hk).1)
          replace HS := HS.trans bg
          obtain ⟨_, _, he, hir⟩ := Es.of_own hown (intC_one _)
          injection he with he1 he2 he3; subst he1; subst he3
          have IR := Lib.hid (show Is w4_ _ _ _ (T ++ [i1]) from hir)
          clear hap hgr hown bg zs hir VL OW
          replace hS := HS
          refine Shut.out hK _ _ hS (fun _ => ?_)
          clear hK K
          try simp only [Act.put, List.setIfInBounds_toArray, List.set_cons_zero, List.set_cons_succ]
          refine wpAnyH_ready (rs := [8]) (by kernel_rfl) (by simp) (AllReadyH.cons (o := ⟨some 105, .call { callee := .value (.func 16), args := #[.tmp 97, .tmp 104], argTypes := #[37, 37] }, 4, "law.go:64", #[⟨0, .data⟩, ⟨7, .data⟩, ⟨7, .chain⟩], none⟩) rfl (fun K hK => ?_) AllReadyH.nil)
          go_simp
          refine (c13.out _ _ _ _ _ _ _ _ (show Is w4_ A2 n2 e2 (T ++ [i1]) from Es.below J2.out (BZ.out _ HS)) IR.out (by have := HTL.out; simp; omega)).mono ?_; rintro e u8 ⟨rfl, hb⟩
          replace HS := HS.trans (hb.mono (by have h1 := HS.size; rw [hz] at h1; exact h1))
          clear hb
          replace hS := HS
          go_wp2_with fail
          refine Shut.out hK _ _ hS (fun _ => ?_)
          clear hK K
          try simp only [Act.put, List.setIfInBounds_toArray, List.set_cons_zero, List.set_cons_succ]
          refine wpAnyH_take (i := 9) (oi := ⟨some 6, .assign (.tmp 105), 4, "law.go:64", #[⟨8, .data⟩, ⟨8, .chain⟩, ⟨0, .phase⟩, ⟨1, .phase⟩, ⟨2, .phase⟩, ⟨3, .phase⟩, ⟨4, .phase⟩, ⟨5, .phase⟩, ⟨6, .phase⟩, ⟨7, .phase⟩, ⟨8, .phase⟩], none⟩) (v := ?_) rfl (by kernel_rfl) (by kernel_rfl) (by kernel_rfl) (fun _ _ _ h => h) (Or.inl ⟨by rfl, ?_⟩) hS ?_
          rotate_left
          · intro wv _; go_simp; try with_reducible rfl
          try simp only [Act.put, List.setIfInBounds_toArray, List.set_cons_zero, List.set_cons_succ]
          refine wpAnyH_done (by kernel_rfl) ?_ _
          refine NoPanic.normal ?_
          go_wp2
          go_ret
          exact ⟨rfl, HB.out.1.trans (HS.mono HBZ.out)⟩
        ·
         go_simp
         have zs : z ≤ z := Nat.le_refl _
         have bd : Below z wd (wd.alloc (.cells #[.int .i64 i1] 3)) := by have h := (Below.refl wd.heap.size wd).alloc (Nat.le_refl _) (.cells #[.int .i64 i1] 3); rwa [hz] at h
         have VL : (wd.alloc (.cells #[.int .i64 i1] 3)).heap[z]? = some (.cells (intC [i1]).toArray 3) := by have h := heap_alloc_new wd (.cells #[.int .i64 i1] 3); rw [hz] at h; exact h
         replace HS := HS.trans (bd.mono zs)
         clear bd zs
         generalize wd.alloc (.cells #[.int .i64 i1] 3) = y1 at *
         replace hS := HS.drew
         refine Shut.out hK _ _ hS (fun _ => ?_)
         clear hK K
         try simp only [Act.put, List.setIfInBounds_toArray, List.set_cons_zero, List.set_cons_succ]
         refine wpAnyH_ready (rs := [1]) (by kernel_rfl) (by simp) (AllReadyH.cons (o := ⟨some 98, .buildSlice 37 0 #[], 37, "law.go:64", #[], none⟩) rfl (fun K hK => ?_) AllReadyH.nil)
         go_simp
         have zs : z ≤ y1.heap.size := by have h1 := HS.size; rw [hz] at h1; exact h1
         have bd : Below y1.heap.size y1 (y1.alloc (.cells #[] 3)) := (Below.refl _ _).alloc (Nat.le_refl _) _
         have ltl := blk_lt VL
         replace VL := blk_below VL bd ltl
         have OW : (y1.alloc (.cells #[] 3)).ownsRow z 3 1 (.slice (some ⟨y1.heap.size, 0, none⟩) 0 0) 0 (intC []) := lit_ints y1 zs [] (by simp) rfl
         have NE : ∀ k, (Value.slice (some ⟨y1.heap.size, 0, none⟩) 0 0).ownBlock = some k → k ≠ z := fun k hk => by simp [Value.ownBlock] at hk; subst hk; exact (Nat.ne_of_lt ltl).symm
         clear ltl
         replace HS := HS.trans (bd.mono zs)
         clear bd zs
         generalize y1.alloc (.cells #[] 3) = y2 at *
         generalize hs2 : y1.heap.size = s2 at *
         replace hS := HS.drew
         refine Shut.out hK _ _ hS (fun _ => ?_)
         clear hK K
         try simp only [Act.put, List.setIfInBounds_toArray, List.set_cons_zero, List.set_cons_succ]
         refine wpAnyH_ready (rs := [3]) (by kernel_rfl) (by simp) (AllReadyH.cons (o := ⟨some 100, .call { callee := .builtin .append, args := #[.tmp 98, .tmp 99], argTypes := #[37, 37] }, 37, "law.go:64", #[⟨1, .data⟩, ⟨2, .data⟩], none⟩) rfl (fun K hK => ?_) AllReadyH.nil)
         replace HS := HS.drew
         replace OW : y2.drew.ownsRow z 3 1 _ _ _ := ⟨OW.1, OW.2⟩
         replace VL : y2.drew.heap[_]? = _ := VL
         have zs : z ≤ y2.drew.heap.size := by have h1 := HS.size; rw [hz] at h1; exact h1
         obtain ⟨A3, c3_, w3_, hap, hown, hgr⟩ := app_ints y2.drew z _ 0 [] OW A1 n1 e1 T (Es.below J1.out (BZ.out _ HS)) (by omega) zs
         rw [Nat.zero_add] at hap hown
         rw [List.nil_append] at hown
         refine op_app_run7 (by rfl) rfl rfl rfl hap ?_
         replace VL := blk_grown VL hgr NE
         clear NE
         have bg : Below z y2.drew w3_ := (Below.refl _ _).grown hgr zs (fun k hk => (OW.lt k hk).1)
         replace HS := HS.trans bg
         replace OW := hown
         clear hap hgr hown bg zs
         replace hS := HS
         refine Shut.out hK _ _ hS (fun _ => ?_)
         clear hK K
         try simp only [Act.put, List.setIfInBounds_toArray, List.set_cons_zero, List.set_cons_succ]
         refine wpAnyH_ready (rs := [7]) (by kernel_rfl) (by simp) (AllReadyH.cons (o := ⟨some 104, .call { callee := .builtin .append, args := #[.tmp 100, .tmp 103], argTypes := #[37, 37] }, 37, "law.go:64", #[⟨3, .data⟩, ⟨6, .data⟩, ⟨3, .chain⟩], none⟩) rfl (fun K hK => ?_) AllReadyH.nil)
         have zs : z ≤ w3_.heap.size := by have h1 := HS.size; rw [hz] at h1; exact h1
         obtain ⟨A4, c4_, w4_, hap, hown, hgr⟩ := app_ints w3_ z _ n1 T OW (some ⟨z, 0, none⟩) 1 1 [i1] (is_blk VL rfl) (by omega) zs
         refine op_app_run7 (by rfl) rfl rfl rfl hap ?_
         have bg : Below z w3_ w4_ := (Below.refl _ _).grown hgr zs (fun k hk => (OW.lt k hk).1)
         replace HS := HS.trans bg
         obtain ⟨_, _, he, hir⟩ := Es.of_own hown (intC_one _)
         injection he with he1 he2 he3; subst he1; subst he3
         have IR := Lib.hid (show Is w4_ _ _ _ (T ++ [i1]) from hir)
         clear hap hgr hown bg zs hir VL OW
         replace hS := HS
         refine Shut.out hK _ _ hS (fun _ => ?_)
         clear hK K
         try simp only [Act.put, List.setIfInBounds_toArray, List.set_cons_zero, List.set_cons_succ]
         refine wpAnyH_ready (rs := [8]) (by kernel_rfl) (by simp) (AllReadyH.cons (o := ⟨some 105, .call { callee := .value (.func 16), args := #[.tmp 97, .tmp 104], argTypes := #[37, 37] }, 4, "law.go:64", #[⟨0, .data⟩, ⟨7, .data⟩, ⟨7, .chain⟩], none⟩) rfl (fun K hK => ?_) AllReadyH.nil)
         go_simp
         refine (c13.out _ _ _ _ _ _ _ _ (show Is w4_ A2 n2 e2 (T ++ [i1]) from Es.below J2.out (BZ.out _ HS)) IR.out (by have := HTL.out; simp; omega)).mono ?_; rintro e u8 ⟨rfl, hb⟩
         replace HS := HS.trans (hb.mono (by have h1 := HS.size; rw [hz] at h1; exact h1))
         clear hb
         replace hS := HS
         go_wp2_with fail
         refine Shut.out hK _ _ hS (fun _ => ?_)
         clear hK K
         try simp only [Act.put, List.setIfInBounds_toArray, List.set_cons_zero, List.set_cons_succ]
         refine wpAnyH_take (i := 9) (oi := ⟨some 6, .assign (.tmp 105), 4, "law.go:64", #[⟨8, .data⟩, ⟨8, .chain⟩, ⟨0, .phase⟩, ⟨1, .phase⟩, ⟨2, .phase⟩, ⟨3, .phase⟩, ⟨4, .phase⟩, ⟨5, .phase⟩, ⟨6, .phase⟩, ⟨7, .phase⟩, ⟨8, .phase⟩], none⟩) (v := ?_) rfl (by kernel_rfl) (by kernel_rfl) (by kernel_rfl) (fun _ _ _ h => h) (Or.inl ⟨by rfl, ?_⟩) hS ?_
         rotate_left
         · intro wv _; go_simp; try with_reducible rfl
         try simp only [Act.put, List.setIfInBounds_toArray, List.set_cons_zero, List.set_cons_succ]
         refine wpAnyH_done (by kernel_rfl) ?_ _
         refine NoPanic.normal ?_
         go_wp2
         go_ret
         exact ⟨rfl, HB.out.1.trans (HS.mono HBZ.out)⟩
      · have HBS := Lib.hid HB.out.2
        have ow := lit_ints wd (base := wd.heap.size) (Nat.le_refl _) [i1] (by simp) (m := 1) rfl
        have bd : Below wd.heap.size wd (wd.alloc (.cells (intC [i1]).toArray 3)) := (Below.refl _ _).alloc (Nat.le_refl _) _
        obtain ⟨A3, c3_, w9, hap, hown, hgr⟩ := app_ints (wd.alloc (.cells (intC [i1]).toArray 3)) wd.heap.size _ 1 [i1] ow A1 n1 e1 T (Es.below J1.out bd) (by omega) (by simp)
        have bg : Below wd.heap.size wd w9 := bd.grown hgr (by simp) (fun k hk => (ow.lt k hk).1)
        obtain ⟨_, _, he, hir⟩ := Es.of_own hown (intC_one _)
        injection he with he1 he2 he3; subst he1; subst he3
        have IR := Lib.hid (show Is w9 _ _ _ (i1 :: T) from hir)
        replace J2 := Lib.hid (show Is w9 A2 n2 e2 (i1 :: T) from Es.below J2.out bg)
        replace HB := Lib.hid (HB.out.1.trans (bg.mono HB.out.2))
        replace hap : (Builtin.append_ #[37, 37] 37 #[.slice (some ⟨wd.heap.size, 0, none⟩) 1 1, .slice A1 n1 e1]).run Try.prog (wd.alloc (.cells #[.int .i64 i1] 3)) = _ := hap
        have bs := bg.size
        have HG := Lib.hid (Nat.le_trans (HBS.out) bs)
        clear ow bd hown hgr bg hir bs
        go_wp2_with (at_builtin; refine eapp_run (by rfl) rfl rfl rfl hap ?_)
        refine (c13.out _ _ _ _ _ _ _ _ J2.out IR.out (by have := HTL.out; simp; omega)).mono ?_; rintro e u8 ⟨rfl, hb⟩
        have HF := Lib.hid (HB.out.trans (hb.mono HG.out))
        clear hb
        go_wp2
        go_ret
        exact ⟨rfl, HF.out⟩
    · have hr := push_err (p := (rs, fr)) (q := (hd, tl)) (key := i0) (task := i1) (front := FB) (by rw [hP]; exact he)
      rw [hP] at hr
      injection hr.1 with e1 e2; injection hr.2 with e3 e4
      replace e1 := e1.symm; replace e2 := e2.symm; replace e3 := e3.symm; replace e4 := e4.symm
      subst e1; subst e2; subst e3; subst e4
      have b1 : (pe != 0) = true := by simpa using he
      clear he hP hr
      go_enter Try.func4, Try.ntmps4
      go_wp2_with fail
      refine (alive8 _).mono ?_
      rintro e w2 ⟨rfl, hb⟩
      replace Va := Lib.hid (blk_below Va.out hb (blk_lt Va.out))
      replace Vq := Lib.hid (blk_below Vq.out hb (blk_lt Vq.out))
      replace Vt := Lib.hid (blk_below Vt.out hb (blk_lt Vt.out))
      replace RX := Lib.hid (Es.below RX.out hb)
      replace HB := Lib.hid (And.intro (HB.out.1.trans (hb.mono HB.out.2)) (Nat.le_trans HB.out.2 hb.size))
      clear hb
      have ca0 : w2.cell? ⟨sa, 0, none⟩ = some (.slice A n c) := (blk_cell Va.out 0).trans rfl
      have ca1 : w2.cell? ⟨sa, 1, none⟩ = some (.int .i64 fr) := (blk_cell Va.out 1).trans rfl
      go_wp2_with fail
      refine (c11.out _ _ _ RX.out).mono ?_
      rintro e w3 ⟨B1, d1, rfl, hown, hb⟩
      clear ca0 ca1
      replace Va := Lib.hid (blk_below Va.out hb (blk_lt Va.out))
      replace Vq := Lib.hid (blk_below Vq.out hb (blk_lt Vq.out))
      replace Vt := Lib.hid (blk_below Vt.out hb (blk_lt Vt.out))
      replace RX := Lib.hid (Es.below RX.out hb)
      replace HB := Lib.hid (And.intro (HB.out.1.trans (hb.mono HB.out.2)) (Nat.le_trans HB.out.2 hb.size))
      clear hb
      have R1 := Lib.hid (rs_own hown)
      clear hown
      have lta := blk_lt Va.out
      have ltq := blk_lt Vq.out
      have ltt := blk_lt Vt.out
      have gq := HB.out.2
      obtain ⟨w4, hw4⟩ : ∃ W, (w3.alloc (.cells #[.slice B1 n d1, .int .i64 fr] 24)) = W := ⟨_, rfl⟩
      have hb : Below w3.heap.size w3 w4 := hw4 ▸ ((Below.refl _ _).alloc (Nat.le_refl _) _)
      have hv0 : w4.heap[w3.heap.size]? = some (.cells #[.slice B1 n d1, .int .i64 fr] 24) := by
        have h0 := heap_alloc_new w3 (.cells #[.slice B1 n d1, .int .i64 fr] 24)
        rw [show w3.heap.size = w3.heap.size by simp [Nat.add_assoc]] at h0
        rw [← hw4]
        exact h0
      replace Va := Lib.hid (blk_below Va.out hb (blk_lt Va.out))
      replace Vq := Lib.hid (blk_below Vq.out hb (blk_lt Vq.out))
      replace Vt := Lib.hid (blk_below Vt.out hb (blk_lt Vt.out))
      replace RX := Lib.hid (Es.below RX.out hb)
      replace R1 := Lib.hid (Es.below R1.out hb)
      replace HB := Lib.hid (And.intro (HB.out.1.trans (hb.mono HB.out.2)) (Nat.le_trans HB.out.2 hb.size))
      have Vo := Lib.hid hv0
      have nea_o := Nat.ne_of_lt lta
      have neq_o := Nat.ne_of_lt ltq
      have net_o := Nat.ne_of_lt ltt
      have geo := gq
      generalize hso : w3.heap.size = so at *
      clear hb gq hv0 lta ltq ltt
      have co0 : w4.cell? ⟨so, 0, none⟩ = some (.slice B1 n d1) := (blk_cell Vo.out 0).trans rfl
      have co1 : w4.cell? ⟨so, 1, none⟩ = some (.int .i64 fr) := (blk_cell Vo.out 1).trans rfl
      have cq0 : w4.cell? ⟨sa + 1, 0, none⟩ = some (.int .i64 hd) := (blk_cell Vq.out 0).trans rfl
      have cq1 : w4.cell? ⟨sa + 1, 1, none⟩ = some (.int .i64 tl) := (blk_cell Vq.out 1).trans rfl
      have ct0 : w4.cell? ⟨sa + 2, 0, none⟩ = some (.int .i64 i0) := (blk_cell Vt.out 0).trans rfl
      have ct1 : w4.cell? ⟨sa + 2, 1, none⟩ = some (.int .i64 i1) := (blk_cell Vt.out 1).trans rfl
      have ct2 : w4.cell? ⟨sa + 2, 2, none⟩ = some (.int .i64 i2) := (blk_cell Vt.out 2).trans rfl
      go_wp2_with fail
      refine (c1.out _ _ _ R1.out).mono ?_
      rintro e w5 ⟨B2, m2, d2, rfl, hrs, hb⟩
      clear co0 co1 cq0 cq1 ct0 ct1 ct2
      replace Va := Lib.hid (blk_below Va.out hb (blk_lt Va.out))
      replace Vq := Lib.hid (blk_below Vq.out hb (blk_lt Vq.out))
      replace Vt := Lib.hid (blk_below Vt.out hb (blk_lt Vt.out))
      replace Vo := Lib.hid (blk_below Vo.out hb (blk_lt Vo.out))
      replace RX := Lib.hid (Es.below RX.out hb)
      replace R1 := Lib.hid (Es.below R1.out hb)
      replace HB := Lib.hid (And.intro (HB.out.1.trans (hb.mono HB.out.2)) (Nat.le_trans HB.out.2 hb.size))
      clear hb
      have R2 := Lib.hid hrs
      clear hrs
      have lta := blk_lt Va.out
      have ltq := blk_lt Vq.out
      have ltt := blk_lt Vt.out
      have lto := blk_lt Vo.out
      have gq := HB.out.2
      obtain ⟨w6, hw6⟩ : ∃ W, ((w5.alloc (.cells #[.slice B2 m2 d2, .int .i64 fr] 24)).alloc (.cells #[.int .i64 hd, .int .i64 tl] 26)) = W := ⟨_, rfl⟩
      have hb : Below w5.heap.size w5 w6 := hw6 ▸ (((Below.refl _ _).alloc (Nat.le_refl _) _).alloc (by first | (simp; done) | (simp; omega)) _)
      have hv0 : w6.heap[w5.heap.size]? = some (.cells #[.slice B2 m2 d2, .int .i64 fr] 24) := by
        have h0 := heap_alloc_new w5 (.cells #[.slice B2 m2 d2, .int .i64 fr] 24)
        rw [show w5.heap.size = w5.heap.size by simp [Nat.add_assoc]] at h0
        rw [← hw6]
        rw [heap_alloc_old _ _ (by simp <;> omega)]; exact h0
      have hv1 : w6.heap[w5.heap.size + 1]? = some (.cells #[.int .i64 hd, .int .i64 tl] 26) := by
        have h0 := heap_alloc_new (w5.alloc (.cells #[.slice B2 m2 d2, .int .i64 fr] 24)) (.cells #[.int .i64 hd, .int .i64 tl] 26)
        rw [show (w5.alloc (.cells #[.slice B2 m2 d2, .int .i64 fr] 24)).heap.size = w5.heap.size + 1 by simp [Nat.add_assoc]] at h0
        rw [← hw6]
        exact h0
      replace Va := Lib.hid (blk_below Va.out hb (blk_lt Va.out))
      replace Vq := Lib.hid (blk_below Vq.out hb (blk_lt Vq.out))
      replace Vt := Lib.hid (blk_below Vt.out hb (blk_lt Vt.out))
      replace Vo := Lib.hid (blk_below Vo.out hb (blk_lt Vo.out))
      replace RX := Lib.hid (Es.below RX.out hb)
      replace R1 := Lib.hid (Es.below R1.out hb)
      replace R2 := Lib.hid (Es.below R2.out hb)
      replace HB := Lib.hid (And.intro (HB.out.1.trans (hb.mono HB.out.2)) (Nat.le_trans HB.out.2 hb.size))
      have Vx := Lib.hid hv0
      have nea_x := Nat.ne_of_lt lta
      have neq_x := Nat.ne_of_lt ltq
      have net_x := Nat.ne_of_lt ltt
      have neo_x := Nat.ne_of_lt lto
      have gex := gq
      have Vp := Lib.hid hv1
      have nea_p := Nat.ne_of_lt (Nat.lt_of_lt_of_le lta (Nat.le_add_right w5.heap.size 1))
      have neq_p := Nat.ne_of_lt (Nat.lt_of_lt_of_le ltq (Nat.le_add_right w5.heap.size 1))
      have net_p := Nat.ne_of_lt (Nat.lt_of_lt_of_le ltt (Nat.le_add_right w5.heap.size 1))
      have neo_p := Nat.ne_of_lt (Nat.lt_of_lt_of_le lto (Nat.le_add_right w5.heap.size 1))
      have nex_p : w5.heap.size ≠ w5.heap.size + 1 := by omega
      have gep : _ ≤ w5.heap.size + 1 := Nat.le_trans gq (Nat.le_add_right _ 1)
      generalize hsx : w5.heap.size = sx at *
      clear hb gq hv0 hv1 lta ltq ltt lto
      have ca0 : w6.cell? ⟨sa, 0, none⟩ = some (.slice A n c) := (blk_cell Va.out 0).trans rfl
      have ca1 : w6.cell? ⟨sa, 1, none⟩ = some (.int .i64 fr) := (blk_cell Va.out 1).trans rfl
      have cq0 : w6.cell? ⟨sa + 1, 0, none⟩ = some (.int .i64 hd) := (blk_cell Vq.out 0).trans rfl
      have cq1 : w6.cell? ⟨sa + 1, 1, none⟩ = some (.int .i64 tl) := (blk_cell Vq.out 1).trans rfl
      have ct0 : w6.cell? ⟨sa + 2, 0, none⟩ = some (.int .i64 i0) := (blk_cell Vt.out 0).trans rfl
      have ct1 : w6.cell? ⟨sa + 2, 1, none⟩ = some (.int .i64 i1) := (blk_cell Vt.out 1).trans rfl
      have ct2 : w6.cell? ⟨sa + 2, 2, none⟩ = some (.int .i64 i2) := (blk_cell Vt.out 2).trans rfl
      go_wp2_with fail
      refine (c2.out _ _ _ RX.out).mono ?_
      rintro e w7 ⟨B3, m3, d3, rfl, hrs, hb⟩
      clear ca0 ca1 cq0 cq1 ct0 ct1 ct2
      replace Va := Lib.hid (blk_below Va.out hb (blk_lt Va.out))
      replace Vq := Lib.hid (blk_below Vq.out hb (blk_lt Vq.out))
      replace Vt := Lib.hid (blk_below Vt.out hb (blk_lt Vt.out))
      replace Vo := Lib.hid (blk_below Vo.out hb (blk_lt Vo.out))
      replace Vx := Lib.hid (blk_below Vx.out hb (blk_lt Vx.out))
      replace Vp := Lib.hid (blk_below Vp.out hb (blk_lt Vp.out))
      replace RX := Lib.hid (Es.below RX.out hb)
      replace R1 := Lib.hid (Es.below R1.out hb)
      replace R2 := Lib.hid (Es.below R2.out hb)
      replace HB := Lib.hid (And.intro (HB.out.1.trans (hb.mono HB.out.2)) (Nat.le_trans HB.out.2 hb.size))
      clear hb
      have R3 := Lib.hid hrs
      clear hrs
      have lta := blk_lt Va.out
      have ltq := blk_lt Vq.out
      have ltt := blk_lt Vt.out
      have lto := blk_lt Vo.out
      have ltx := blk_lt Vx.out
      have ltp := blk_lt Vp.out
      have gq := HB.out.2
      obtain ⟨w8, hw8⟩ : ∃ W, ((w7.alloc (.cells #[.slice B3 m3 d3, .int .i64 fr] 24)).alloc (.cells #[.int .i64 hd, .int .i64 tl] 26)) = W := ⟨_, rfl⟩
      have hb : Below w7.heap.size w7 w8 := hw8 ▸ (((Below.refl _ _).alloc (Nat.le_refl _) _).alloc (by first | (simp; done) | (simp; omega)) _)
      have hv0 : w8.heap[w7.heap.size]? = some (.cells #[.slice B3 m3 d3, .int .i64 fr] 24) := by
        have h0 := heap_alloc_new w7 (.cells #[.slice B3 m3 d3, .int .i64 fr] 24)
        rw [show w7.heap.size = w7.heap.size by simp [Nat.add_assoc]] at h0
        rw [← hw8]
        rw [heap_alloc_old _ _ (by simp <;> omega)]; exact h0
      have hv1 : w8.heap[w7.heap.size + 1]? = some (.cells #[.int .i64 hd, .int .i64 tl] 26) := by
        have h0 := heap_alloc_new (w7.alloc (.cells #[.slice B3 m3 d3, .int .i64 fr] 24)) (.cells #[.int .i64 hd, .int .i64 tl] 26)
        rw [show (w7.alloc (.cells #[.slice B3 m3 d3, .int .i64 fr] 24)).heap.size = w7.heap.size + 1 by simp [Nat.add_assoc]] at h0
        rw [← hw8]
        exact h0
      replace Va := Lib.hid (blk_below Va.out hb (blk_lt Va.out))
      replace Vq := Lib.hid (blk_below Vq.out hb (blk_lt Vq.out))
      replace Vt := Lib.hid (blk_below Vt.out hb (blk_lt Vt.out))
      replace Vo := Lib.hid (blk_below Vo.out hb (blk_lt Vo.out))
      replace Vx := Lib.hid (blk_below Vx.out hb (blk_lt Vx.out))
      replace Vp := Lib.hid (blk_below Vp.out hb (blk_lt Vp.out))
      replace RX := Lib.hid (Es.below RX.out hb)
      replace R1 := Lib.hid (Es.below R1.out hb)
      replace R2 := Lib.hid (Es.below R2.out hb)
      replace R3 := Lib.hid (Es.below R3.out hb)
      replace HB := Lib.hid (And.intro (HB.out.1.trans (hb.mono HB.out.2)) (Nat.le_trans HB.out.2 hb.size))
      have Vy := Lib.hid hv0
      have nea_y := Nat.ne_of_lt lta
      have neq_y := Nat.ne_of_lt ltq
      have net_y := Nat.ne_of_lt ltt
      have neo_y := Nat.ne_of_lt lto
      have nex_y := Nat.ne_of_lt ltx
      have nep_y := Nat.ne_of_lt ltp
      have gey := gq
      have Vr := Lib.hid hv1
      have nea_r := Nat.ne_of_lt (Nat.lt_of_lt_of_le lta (Nat.le_add_right w7.heap.size 1))
      have neq_r := Nat.ne_of_lt (Nat.lt_of_lt_of_le ltq (Nat.le_add_right w7.heap.size 1))
      have net_r := Nat.ne_of_lt (Nat.lt_of_lt_of_le ltt (Nat.le_add_right w7.heap.size 1))
      have neo_r := Nat.ne_of_lt (Nat.lt_of_lt_of_le lto (Nat.le_add_right w7.heap.size 1))
      have nex_r := Nat.ne_of_lt (Nat.lt_of_lt_of_le ltx (Nat.le_add_right w7.heap.size 1))
      have nep_r := Nat.ne_of_lt (Nat.lt_of_lt_of_le ltp (Nat.le_add_right w7.heap.size 1))
      have ney_r : w7.heap.size ≠ w7.heap.size + 1 := by omega
      have ger : _ ≤ w7.heap.size + 1 := Nat.le_trans gq (Nat.le_add_right _ 1)
      generalize hsy : w7.heap.size = sy at *
      clear hb gq hv0 hv1 lta ltq ltt lto ltx ltp
      have cx0 : w8.cell? ⟨sx, 0, none⟩ = some (.slice B2 m2 d2) := (blk_cell Vx.out 0).trans rfl
      have cx1 : w8.cell? ⟨sx, 1, none⟩ = some (.int .i64 fr) := (blk_cell Vx.out 1).trans rfl
      have cy0 : w8.cell? ⟨sy, 0, none⟩ = some (.slice B3 m3 d3) := (blk_cell Vy.out 0).trans rfl
      have cy1 : w8.cell? ⟨sy, 1, none⟩ = some (.int .i64 fr) := (blk_cell Vy.out 1).trans rfl
      go_wp2_with fail
      refine (c12.out _ _ _ _ _ _ _ _ _ hpl R2.out R3.out).mono ?_
      rintro e w9 ⟨rfl, hb⟩
      clear cx0 cx1 cy0 cy1
      replace Va := Lib.hid (blk_below Va.out hb (blk_lt Va.out))
      replace Vq := Lib.hid (blk_below Vq.out hb (blk_lt Vq.out))
      replace Vt := Lib.hid (blk_below Vt.out hb (blk_lt Vt.out))
      replace Vo := Lib.hid (blk_below Vo.out hb (blk_lt Vo.out))
      replace Vx := Lib.hid (blk_below Vx.out hb (blk_lt Vx.out))
      replace Vp := Lib.hid (blk_below Vp.out hb (blk_lt Vp.out))
      replace Vy := Lib.hid (blk_below Vy.out hb (blk_lt Vy.out))
      replace Vr := Lib.hid (blk_below Vr.out hb (blk_lt Vr.out))
      replace RX := Lib.hid (Es.below RX.out hb)
      replace R1 := Lib.hid (Es.below R1.out hb)
      replace R2 := Lib.hid (Es.below R2.out hb)
      replace R3 := Lib.hid (Es.below R3.out hb)
      replace HB := Lib.hid (And.intro (HB.out.1.trans (hb.mono HB.out.2)) (Nat.le_trans HB.out.2 hb.size))
      clear hb
      have cp0 : w9.cell? ⟨sx + 1, 0, none⟩ = some (.int .i64 hd) := (blk_cell Vp.out 0).trans rfl
      have cp1 : w9.cell? ⟨sx + 1, 1, none⟩ = some (.int .i64 tl) := (blk_cell Vp.out 1).trans rfl
      have cr0 : w9.cell? ⟨sy + 1, 0, none⟩ = some (.int .i64 hd) := (blk_cell Vr.out 0).trans rfl
      have cr1 : w9.cell? ⟨sy + 1, 1, none⟩ = some (.int .i64 tl) := (blk_cell Vr.out 1).trans rfl
      have co0 : w9.cell? ⟨so, 0, none⟩ = some (.slice B1 n d1) := (blk_cell Vo.out 0).trans rfl
      have co1 : w9.cell? ⟨so, 1, none⟩ = some (.int .i64 fr) := (blk_cell Vo.out 1).trans rfl
      have ca0 : w9.cell? ⟨sa, 0, none⟩ = some (.slice A n c) := (blk_cell Va.out 0).trans rfl
      have ca1 : w9.cell? ⟨sa, 1, none⟩ = some (.int .i64 fr) := (blk_cell Va.out 1).trans rfl
      go_wp2_with fail
      refine (c12.out _ _ _ _ _ _ _ _ _ hlen R1.out RX.out).mono ?_
      rintro e w10 ⟨rfl, hb⟩
      clear cp0 cp1 cr0 cr1 co0 co1 ca0 ca1
      replace Va := Lib.hid (blk_below Va.out hb (blk_lt Va.out))
      replace Vq := Lib.hid (blk_below Vq.out hb (blk_lt Vq.out))
      replace Vt := Lib.hid (blk_below Vt.out hb (blk_lt Vt.out))
      replace Vo := Lib.hid (blk_below Vo.out hb (blk_lt Vo.out))
      replace Vx := Lib.hid (blk_below Vx.out hb (blk_lt Vx.out))
      replace Vp := Lib.hid (blk_below Vp.out hb (blk_lt Vp.out))
      replace Vy := Lib.hid (blk_below Vy.out hb (blk_lt Vy.out))
      replace Vr := Lib.hid (blk_below Vr.out hb (blk_lt Vr.out))
      replace RX := Lib.hid (Es.below RX.out hb)
      replace R1 := Lib.hid (Es.below R1.out hb)
      replace R2 := Lib.hid (Es.below R2.out hb)
      replace R3 := Lib.hid (Es.below R3.out hb)
      replace HB := Lib.hid (And.intro (HB.out.1.trans (hb.mono HB.out.2)) (Nat.le_trans HB.out.2 hb.size))
      clear hb
      have cx0 : w10.cell? ⟨sx, 0, none⟩ = some (.slice B2 m2 d2) := (blk_cell Vx.out 0).trans rfl
      have cx1 : w10.cell? ⟨sx, 1, none⟩ = some (.int .i64 fr) := (blk_cell Vx.out 1).trans rfl
      have ca0 : w10.cell? ⟨sa, 0, none⟩ = some (.slice A n c) := (blk_cell Va.out 0).trans rfl
      have ca1 : w10.cell? ⟨sa, 1, none⟩ = some (.int .i64 fr) := (blk_cell Va.out 1).trans rfl
      go_wp2_with fail
      refine (c12.out _ _ _ _ _ _ _ _ _ hlen R2.out RX.out).mono ?_
      rintro e w11 ⟨rfl, hb⟩
      clear cx0 cx1 ca0 ca1
      replace Va := Lib.hid (blk_below Va.out hb (blk_lt Va.out))
      replace Vq := Lib.hid (blk_below Vq.out hb (blk_lt Vq.out))
      replace Vt := Lib.hid (blk_below Vt.out hb (blk_lt Vt.out))
      replace Vo := Lib.hid (blk_below Vo.out hb (blk_lt Vo.out))
      replace Vx := Lib.hid (blk_below Vx.out hb (blk_lt Vx.out))
      replace Vp := Lib.hid (blk_below Vp.out hb (blk_lt Vp.out))
      replace Vy := Lib.hid (blk_below Vy.out hb (blk_lt Vy.out))
      replace Vr := Lib.hid (blk_below Vr.out hb (blk_lt Vr.out))
      replace RX := Lib.hid (Es.below RX.out hb)
      replace R1 := Lib.hid (Es.below R1.out hb)
      replace R2 := Lib.hid (Es.below R2.out hb)
      replace R3 := Lib.hid (Es.below R3.out hb)
      replace HB := Lib.hid (And.intro (HB.out.1.trans (hb.mono HB.out.2)) (Nat.le_trans HB.out.2 hb.size))
      clear hb
      have cp0 : w11.cell? ⟨sx + 1, 0, none⟩ = some (.int .i64 hd) := (blk_cell Vp.out 0).trans rfl
      have cp1 : w11.cell? ⟨sx + 1, 1, none⟩ = some (.int .i64 tl) := (blk_cell Vp.out 1).trans rfl
      have cq0 : w11.cell? ⟨sa + 1, 0, none⟩ = some (.int .i64 hd) := (blk_cell Vq.out 0).trans rfl
      have cq1 : w11.cell? ⟨sa + 1, 1, none⟩ = some (.int .i64 tl) := (blk_cell Vq.out 1).trans rfl
      go_wp2
      go_ret
      exact ⟨rfl, HB.out.1⟩
end Go.Proofs.Ytombfempdfdeoaa
