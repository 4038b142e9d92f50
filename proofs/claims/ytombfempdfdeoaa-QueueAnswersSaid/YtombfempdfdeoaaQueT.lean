/- The walk of QueueAnswers: it answers true, over any world; no condition. -/
import Derived.Test.YtombfempdfdeoaaQueS
namespace Go.Proofs.Ytombfempdfdeoaa
set_option linter.unusedVariables false
set_option linter.unusedSimpArgs false
open Go.RowKit
theorem qpl_len (p : Aren) (q : Qu) : (qPlaces p q).length ≤ p.1.length := (qPlaces_places p q).len
theorem qta_len (p : Aren) (q : Qu) : (qTasks p q).length ≤ p.1.length := by unfold qTasks; rw [List.length_map]; exact qpl_len p q
theorem but_len (p : Aren) (q : Qu) (k : Nat) : (qBut p q k).1.1.length = p.1.length := by
  have hg : ∀ (a : Aren) (i : Int), (arGive a i).1.1.length = a.1.length := fun a i => by
    unfold arGive
    split; rfl; split; rfl; split; rfl; simp
  unfold qBut
  split
  · rfl
  · simp only [hg, laidR_len]
theorem pop_len (p : Aren) (q : Qu) : (qPop p q).1.1.length = p.1.length := by
  unfold qPop
  split; rfl; split; rfl; split; rfl; exact but_len p q 0
theorem drop_len (p : Aren) (q : Qu) (t : Int) : (qDrop p q t).1.1.length = p.1.length := by
  unfold qDrop
  split; rfl; split; rfl; exact but_len p q _
set_option maxRecDepth 100000 in
set_option maxHeartbeats 8000000 in
theorem answers8_walk (A : Option Addr) (n c : Nat) (rs : List Rec3) (fr hd tl task : Int) (w : World) (hx : Rs w A n c rs) :
    Calls Try.prog 3 #[.agg #[.slice A n c, .int .i64 fr], .agg #[.int .i64 hd, .int .i64 tl], .int .i64 task] w fun e w' => e = .returned (.bool true) ∧ Below w.heap.size w w' := by
  have hlen := hx.len
  have RX := Lib.hid hx
  clear hx
  have HB := Lib.hid (And.intro (Below.refl w.heap.size w) (Nat.le_refl w.heap.size))
  have gq := HB.out.2
  obtain ⟨w1, hw1⟩ : ∃ W, ((w.alloc (.cells #[.slice A n c, .int .i64 fr] 24)).alloc (.cells #[.int .i64 hd, .int .i64 tl] 26)) = W := ⟨_, rfl⟩
  have hb : Below w.heap.size w w1 := hw1 ▸ (((Below.refl _ _).alloc (Nat.le_refl _) _).alloc (by simp) _)
  have hv0 : w1.heap[w.heap.size]? = some (.cells #[.slice A n c, .int .i64 fr] 24) := by
    have h0 := heap_alloc_new w (.cells #[.slice A n c, .int .i64 fr] 24)
    rw [show w.heap.size = w.heap.size by simp [Nat.add_assoc]] at h0
    rw [← hw1]
    rw [heap_alloc_old _ _ (by simp <;> omega)]; exact h0
  have hv1 : w1.heap[w.heap.size + 1]? = some (.cells #[.int .i64 hd, .int .i64 tl] 26) := by
    have h0 := heap_alloc_new (w.alloc (.cells #[.slice A n c, .int .i64 fr] 24)) (.cells #[.int .i64 hd, .int .i64 tl] 26)
    rw [show (w.alloc (.cells #[.slice A n c, .int .i64 fr] 24)).heap.size = w.heap.size + 1 by simp [Nat.add_assoc]] at h0
    rw [← hw1]
    exact h0
  replace RX := Lib.hid (Es.below RX.out hb)
  replace HB := Lib.hid (And.intro (HB.out.1.trans (hb.mono HB.out.2)) (Nat.le_trans HB.out.2 hb.size))
  have Va := Lib.hid hv0
  have gea := gq
  have Vq := Lib.hid hv1
  have nea_q : w.heap.size ≠ w.heap.size + 1 := by omega
  have geq : _ ≤ w.heap.size + 1 := Nat.le_trans gq (Nat.le_add_right _ 1)
  generalize hsa : w.heap.size = sa at *
  clear hb gq hv0 hv1
  by_cases hn : (70 : Int) < (n : Int)
  · have b0 : decide ((70 : Int) < (n : Int)) = true := decide_eq_true hn
    clear hn
    go_enter Try.func3, Try.ntmps3
    go_wp2_with fail
    refine (alive8 _).mono ?_
    rintro e w2 ⟨rfl, hb⟩
    replace Va := Lib.hid (blk_below Va.out hb (blk_lt Va.out))
    replace Vq := Lib.hid (blk_below Vq.out hb (blk_lt Vq.out))
    replace RX := Lib.hid (Es.below RX.out hb)
    replace HB := Lib.hid (And.intro (HB.out.1.trans (hb.mono HB.out.2)) (Nat.le_trans HB.out.2 hb.size))
    clear hb
    have ca0 : w2.cell? ⟨sa, 0, none⟩ = some (.slice A n c) := (blk_cell Va.out 0).trans rfl
    have ca1 : w2.cell? ⟨sa, 1, none⟩ = some (.int .i64 fr) := (blk_cell Va.out 1).trans rfl
    go_wp2
    go_ret
    exact ⟨rfl, HB.out.1⟩
  · have b0 : decide ((70 : Int) < (n : Int)) = false := decide_eq_false hn
    have hn1 : n ≤ 70 := by omega
    clear hn
    obtain ⟨⟨⟨ps, pf⟩, ⟨ph, pt⟩, pk, pe⟩, hP⟩ : ∃ P, qPop (rs, fr) (hd, tl) = P := ⟨_, rfl⟩
    obtain ⟨⟨⟨ds, df⟩, ⟨dh, dt⟩, de⟩, hD⟩ : ∃ P, qDrop (rs, fr) (hd, tl) task = P := ⟨_, rfl⟩
    have hpl : ps.length = n := by have := pop_len (rs, fr) (hd, tl); rw [hP] at this; simp only at this; omega
    have hdl : ds.length = n := by have := drop_len (rs, fr) (hd, tl) task; rw [hD] at this; simp only at this; omega
    obtain ⟨T, hT⟩ : ∃ T, qTasks (rs, fr) (hd, tl) = T := ⟨_, rfl⟩
    obtain ⟨L, hL⟩ : ∃ T, qPlaces (rs, fr) (hd, tl) = T := ⟨_, rfl⟩
    have htl : T.length ≤ 70 := by rw [← hT]; have := qta_len (rs, fr) (hd, tl); simp only at this; omega
    have hll : L.length ≤ 70 := by rw [← hL]; have := qpl_len (rs, fr) (hd, tl); simp only at this; omega
    obtain ⟨yb, hyb⟩ : ∃ b, qRight (rs, fr) (hd, tl) = b := ⟨_, rfl⟩
    have c1 := Lib.hid (show ∀ B d W, Rs W B n d rs → Calls Try.prog 9 #[.agg #[.slice B n d, .int .i64 fr], .agg #[.int .i64 hd, .int .i64 tl]] W (fun e w' => ∃ B m d, e = .returned (.tuple #[.agg #[.slice B m d, .int .i64 pf], .agg #[.int .i64 ph, .int .i64 pt], .int .i64 pk, .int .i64 pe]) ∧ Rs w' B m d ps ∧ Below W.heap.size W w') from fun B d W h => (qpPop_any B n d rs fr hd tl W h (by omega)).mono (fun e w' ⟨B, m, d, h1, h2, h3, _⟩ => ⟨B, m, d, by rw [hP] at h1; exact h1, by rw [hP] at h2; exact h2, h3⟩))
    have c2 := Lib.hid (show ∀ B d W, Rs W B n d rs → Calls Try.prog 10 #[.agg #[.slice B n d, .int .i64 fr], .agg #[.int .i64 hd, .int .i64 tl]] W (fun e w' => ∃ B m d, e = .returned (.tuple #[.agg #[.slice B m d, .int .i64 pf], .agg #[.int .i64 ph, .int .i64 pt], .int .i64 pk, .int .i64 pe]) ∧ Rs w' B m d ps ∧ Below W.heap.size W w') from fun B d W h => (refQPop_any B n d rs fr hd tl W h (by omega)).mono (fun e w' ⟨B, m, d, h1, h2, h3⟩ => ⟨B, m, d, by rw [hP] at h1; exact h1, by rw [hP] at h2; exact h2, h3⟩))
    have c3 := Lib.hid (show ∀ B d W, Rs W B n d rs → Calls Try.prog 11 #[.agg #[.slice B n d, .int .i64 fr], .agg #[.int .i64 hd, .int .i64 tl], .int .i64 task] W (fun e w' => ∃ B m d, e = .returned (.tuple #[.agg #[.slice B m d, .int .i64 df], .agg #[.int .i64 dh, .int .i64 dt], .int .i64 de]) ∧ Rs w' B m d ds ∧ Below W.heap.size W w') from fun B d W h => (qpDrop_any B n d rs fr hd tl task W h (by omega)).mono (fun e w' ⟨B, m, d, h1, h2, h3, _⟩ => ⟨B, m, d, by rw [hD] at h1; exact h1, by rw [hD] at h2; exact h2, h3⟩))
    have c4 := Lib.hid (show ∀ B d W, Rs W B n d rs → Calls Try.prog 12 #[.agg #[.slice B n d, .int .i64 fr], .agg #[.int .i64 hd, .int .i64 tl], .int .i64 task] W (fun e w' => ∃ B m d, e = .returned (.tuple #[.agg #[.slice B m d, .int .i64 df], .agg #[.int .i64 dh, .int .i64 dt], .int .i64 de]) ∧ Rs w' B m d ds ∧ Below W.heap.size W w') from fun B d W h => (refQDrop_any B n d rs fr hd tl task W h (by omega)).mono (fun e w' ⟨B, m, d, h1, h2, h3, _⟩ => ⟨B, m, d, by rw [hD] at h1; exact h1, by rw [hD] at h2; exact h2, h3⟩))
    have c5 := Lib.hid (show ∀ B d W, Rs W B n d rs → Calls Try.prog 14 #[.agg #[.slice B n d, .int .i64 fr], .agg #[.int .i64 hd, .int .i64 tl]] W (YesPost W yb) from fun B d W h => hyb ▸ qpRight_any B n d rs fr hd tl W h (by omega))
    have c6 := Lib.hid (show ∀ B d W, Rs W B n d rs → Calls Try.prog 15 #[.agg #[.slice B n d, .int .i64 fr], .agg #[.int .i64 hd, .int .i64 tl]] W (YesPost W yb) from fun B d W h => hyb ▸ refQRight_any B n d rs fr hd tl W h (by omega))
    have c7 := Lib.hid (show ∀ B d W, Rs W B n d rs → Calls Try.prog 17 #[.agg #[.slice B n d, .int .i64 fr], .agg #[.int .i64 hd, .int .i64 tl]] W (IntsPost W T) from fun B d W h => hT ▸ qpTasks_any B n d rs fr hd tl W h (by omega))
    have c8 := Lib.hid (show ∀ B d W, Rs W B n d rs → Calls Try.prog 18 #[.agg #[.slice B n d, .int .i64 fr], .agg #[.int .i64 hd, .int .i64 tl]] W (IntsPost W T) from fun B d W h => hT ▸ refQTasks_any B n d rs fr hd tl W h (by omega))
    have c9 := Lib.hid (show ∀ B d W, Rs W B n d rs → Calls Try.prog 19 #[.agg #[.slice B n d, .int .i64 fr], .agg #[.int .i64 hd, .int .i64 tl]] W (IntsPost W L) from fun B d W h => hL ▸ qpPlaces_any B n d rs fr hd tl W h (by omega))
    have c10 := Lib.hid (show ∀ B d W, Rs W B n d rs → Calls Try.prog 20 #[.agg #[.slice B n d, .int .i64 fr], .agg #[.int .i64 hd, .int .i64 tl]] W (IntsPost W L) from fun B d W h => hL ▸ refQPlaces_any B n d rs fr hd tl W h (by omega))
    have c11 := Lib.hid (show ∀ B d W, Rs W B n d rs → Calls Try.prog 8 #[.agg #[.slice B n d, .int .i64 fr]] W (CopyPost W n rs fr) from fun B d W h => refCopy_any B n d rs fr W h (by omega))
    have c12 := Lib.hid (show ∀ (xs : List Rec3) (f : Int) (A B : Option Addr) (m d m2 d2 : Nat) W, xs.length = n → Rs W A m d xs → Rs W B m2 d2 xs → Calls Try.prog 13 #[.agg #[.slice A m d, .int .i64 f], .agg #[.slice B m2 d2, .int .i64 f]] W (YesPost W true) from fun xs f A B m d m2 d2 W hl h1 h2 => sameAs h1 h2 (by have := Rs.len h1; omega))
    have c13 := Lib.hid (show ∀ (xs : List Int) (A B : Option Addr) (n c m d : Nat) W, Is W A n c xs → Is W B m d xs → xs.length ≤ 70 → Calls Try.prog 16 #[.slice A n c, .slice B m d] W (YesPost W true) from fun xs A B n c m d W h1 h2 h3 => intsTrue xs h1 h2 (by omega))
    clear hP hD hT hL hyb
    go_enter Try.func3, Try.ntmps3
    go_wp2_with fail
    refine (alive8 _).mono ?_
    rintro e w2 ⟨rfl, hb⟩
    replace Va := Lib.hid (blk_below Va.out hb (blk_lt Va.out))
    replace Vq := Lib.hid (blk_below Vq.out hb (blk_lt Vq.out))
    replace RX := Lib.hid (Es.below RX.out hb)
    replace HB := Lib.hid (And.intro (HB.out.1.trans (hb.mono HB.out.2)) (Nat.le_trans HB.out.2 hb.size))
    clear hb
    have ca0 : w2.cell? ⟨sa, 0, none⟩ = some (.slice A n c) := (blk_cell Va.out 0).trans rfl
    have ca1 : w2.cell? ⟨sa, 1, none⟩ = some (.int .i64 fr) := (blk_cell Va.out 1).trans rfl
    go_wp2_with fail
    refine (c11.out _ _ _ RX.out).mono ?_
    rintro e w3 ⟨B1, d1, rfl, hown, hb⟩
    clear ca0 ca1
    replace Va := Lib.hid (blk_below Va.out hb (blk_lt Va.out))
    replace Vq := Lib.hid (blk_below Vq.out hb (blk_lt Vq.out))
    replace RX := Lib.hid (Es.below RX.out hb)
    replace HB := Lib.hid (And.intro (HB.out.1.trans (hb.mono HB.out.2)) (Nat.le_trans HB.out.2 hb.size))
    clear hb
    have R1 := Lib.hid (rs_own hown)
    clear hown
    have lta := blk_lt Va.out
    have ltq := blk_lt Vq.out
    have gq := HB.out.2
    obtain ⟨w4, hw4⟩ : ∃ W, (w3.alloc (.cells #[.slice B1 n d1, .int .i64 fr] 24)) = W := ⟨_, rfl⟩
    have hb : Below w3.heap.size w3 w4 := hw4 ▸ ((Below.refl _ _).alloc (Nat.le_refl _) _)
    have hv0 : w4.heap[w3.heap.size]? = some (.cells #[.slice B1 n d1, .int .i64 fr] 24) := by
      have h0 := heap_alloc_new w3 (.cells #[.slice B1 n d1, .int .i64 fr] 24)
      rw [show w3.heap.size = w3.heap.size by simp [Nat.add_assoc]] at h0
      rw [← hw4]
      exact h0
    replace Va := Lib.hid (blk_below Va.out hb (blk_lt Va.out))
    replace Vq := Lib.hid (blk_below Vq.out hb (blk_lt Vq.out))
    replace RX := Lib.hid (Es.below RX.out hb)
    replace R1 := Lib.hid (Es.below R1.out hb)
    replace HB := Lib.hid (And.intro (HB.out.1.trans (hb.mono HB.out.2)) (Nat.le_trans HB.out.2 hb.size))
    have Vo := Lib.hid hv0
    have nea_o := Nat.ne_of_lt lta
    have neq_o := Nat.ne_of_lt ltq
    have geo := gq
    generalize hso : w3.heap.size = so at *
    clear hb gq hv0 lta ltq
    have co0 : w4.cell? ⟨so, 0, none⟩ = some (.slice B1 n d1) := (blk_cell Vo.out 0).trans rfl
    have co1 : w4.cell? ⟨so, 1, none⟩ = some (.int .i64 fr) := (blk_cell Vo.out 1).trans rfl
    have cq0 : w4.cell? ⟨sa + 1, 0, none⟩ = some (.int .i64 hd) := (blk_cell Vq.out 0).trans rfl
    have cq1 : w4.cell? ⟨sa + 1, 1, none⟩ = some (.int .i64 tl) := (blk_cell Vq.out 1).trans rfl
    go_wp2_with fail
    refine (c1.out _ _ _ R1.out).mono ?_
    rintro e w5 ⟨B2, m2, d2, rfl, hrs, hb⟩
    clear co0 co1 cq0 cq1
    replace Va := Lib.hid (blk_below Va.out hb (blk_lt Va.out))
    replace Vq := Lib.hid (blk_below Vq.out hb (blk_lt Vq.out))
    replace Vo := Lib.hid (blk_below Vo.out hb (blk_lt Vo.out))
    replace RX := Lib.hid (Es.below RX.out hb)
    replace R1 := Lib.hid (Es.below R1.out hb)
    replace HB := Lib.hid (And.intro (HB.out.1.trans (hb.mono HB.out.2)) (Nat.le_trans HB.out.2 hb.size))
    clear hb
    have R2 := Lib.hid hrs
    clear hrs
    have lta := blk_lt Va.out
    have ltq := blk_lt Vq.out
    have lto := blk_lt Vo.out
    have gq := HB.out.2
    obtain ⟨w6, hw6⟩ : ∃ W, ((w5.alloc (.cells #[.slice B2 m2 d2, .int .i64 pf] 24)).alloc (.cells #[.int .i64 ph, .int .i64 pt] 26)) = W := ⟨_, rfl⟩
    have hb : Below w5.heap.size w5 w6 := hw6 ▸ (((Below.refl _ _).alloc (Nat.le_refl _) _).alloc (by simp) _)
    have hv0 : w6.heap[w5.heap.size]? = some (.cells #[.slice B2 m2 d2, .int .i64 pf] 24) := by
      have h0 := heap_alloc_new w5 (.cells #[.slice B2 m2 d2, .int .i64 pf] 24)
      rw [show w5.heap.size = w5.heap.size by simp [Nat.add_assoc]] at h0
      rw [← hw6]
      rw [heap_alloc_old _ _ (by simp <;> omega)]; exact h0
    have hv1 : w6.heap[w5.heap.size + 1]? = some (.cells #[.int .i64 ph, .int .i64 pt] 26) := by
      have h0 := heap_alloc_new (w5.alloc (.cells #[.slice B2 m2 d2, .int .i64 pf] 24)) (.cells #[.int .i64 ph, .int .i64 pt] 26)
      rw [show (w5.alloc (.cells #[.slice B2 m2 d2, .int .i64 pf] 24)).heap.size = w5.heap.size + 1 by simp [Nat.add_assoc]] at h0
      rw [← hw6]
      exact h0
    replace Va := Lib.hid (blk_below Va.out hb (blk_lt Va.out))
    replace Vq := Lib.hid (blk_below Vq.out hb (blk_lt Vq.out))
    replace Vo := Lib.hid (blk_below Vo.out hb (blk_lt Vo.out))
    replace RX := Lib.hid (Es.below RX.out hb)
    replace R1 := Lib.hid (Es.below R1.out hb)
    replace R2 := Lib.hid (Es.below R2.out hb)
    replace HB := Lib.hid (And.intro (HB.out.1.trans (hb.mono HB.out.2)) (Nat.le_trans HB.out.2 hb.size))
    have Vx := Lib.hid hv0
    have nea_x := Nat.ne_of_lt lta
    have neq_x := Nat.ne_of_lt ltq
    have neo_x := Nat.ne_of_lt lto
    have gex := gq
    have Vp := Lib.hid hv1
    have nea_p := Nat.ne_of_lt (Nat.lt_of_lt_of_le lta (Nat.le_add_right w5.heap.size 1))
    have neq_p := Nat.ne_of_lt (Nat.lt_of_lt_of_le ltq (Nat.le_add_right w5.heap.size 1))
    have neo_p := Nat.ne_of_lt (Nat.lt_of_lt_of_le lto (Nat.le_add_right w5.heap.size 1))
    have nex_p : w5.heap.size ≠ w5.heap.size + 1 := by omega
    have gep : _ ≤ w5.heap.size + 1 := Nat.le_trans gq (Nat.le_add_right _ 1)
    generalize hsx : w5.heap.size = sx at *
    clear hb gq hv0 hv1 lta ltq lto
    have ca0 : w6.cell? ⟨sa, 0, none⟩ = some (.slice A n c) := (blk_cell Va.out 0).trans rfl
    have ca1 : w6.cell? ⟨sa, 1, none⟩ = some (.int .i64 fr) := (blk_cell Va.out 1).trans rfl
    have cq0 : w6.cell? ⟨sa + 1, 0, none⟩ = some (.int .i64 hd) := (blk_cell Vq.out 0).trans rfl
    have cq1 : w6.cell? ⟨sa + 1, 1, none⟩ = some (.int .i64 tl) := (blk_cell Vq.out 1).trans rfl
    go_wp2_with fail
    refine (c2.out _ _ _ RX.out).mono ?_
    rintro e w7 ⟨B3, m3, d3, rfl, hrs, hb⟩
    clear ca0 ca1 cq0 cq1
    replace Va := Lib.hid (blk_below Va.out hb (blk_lt Va.out))
    replace Vq := Lib.hid (blk_below Vq.out hb (blk_lt Vq.out))
    replace Vo := Lib.hid (blk_below Vo.out hb (blk_lt Vo.out))
    replace Vx := Lib.hid (blk_below Vx.out hb (blk_lt Vx.out))
    replace Vp := Lib.hid (blk_below Vp.out hb (blk_lt Vp.out))
    replace RX := Lib.hid (Es.below RX.out hb)
    replace R1 := Lib.hid (Es.below R1.out hb)
    replace R2 := Lib.hid (Es.below R2.out hb)
    replace HB := Lib.hid (And.intro (HB.out.1.trans (hb.mono HB.out.2)) (Nat.le_trans HB.out.2 hb.size))
    clear hb
    have R3 := Lib.hid hrs
    clear hrs
    have lta := blk_lt Va.out
    have ltq := blk_lt Vq.out
    have lto := blk_lt Vo.out
    have ltx := blk_lt Vx.out
    have ltp := blk_lt Vp.out
    have gq := HB.out.2
    obtain ⟨w8, hw8⟩ : ∃ W, ((w7.alloc (.cells #[.slice B3 m3 d3, .int .i64 pf] 24)).alloc (.cells #[.int .i64 ph, .int .i64 pt] 26)) = W := ⟨_, rfl⟩
    have hb : Below w7.heap.size w7 w8 := hw8 ▸ (((Below.refl _ _).alloc (Nat.le_refl _) _).alloc (by simp) _)
    have hv0 : w8.heap[w7.heap.size]? = some (.cells #[.slice B3 m3 d3, .int .i64 pf] 24) := by
      have h0 := heap_alloc_new w7 (.cells #[.slice B3 m3 d3, .int .i64 pf] 24)
      rw [show w7.heap.size = w7.heap.size by simp [Nat.add_assoc]] at h0
      rw [← hw8]
      rw [heap_alloc_old _ _ (by simp <;> omega)]; exact h0
    have hv1 : w8.heap[w7.heap.size + 1]? = some (.cells #[.int .i64 ph, .int .i64 pt] 26) := by
      have h0 := heap_alloc_new (w7.alloc (.cells #[.slice B3 m3 d3, .int .i64 pf] 24)) (.cells #[.int .i64 ph, .int .i64 pt] 26)
      rw [show (w7.alloc (.cells #[.slice B3 m3 d3, .int .i64 pf] 24)).heap.size = w7.heap.size + 1 by simp [Nat.add_assoc]] at h0
      rw [← hw8]
      exact h0
    replace Va := Lib.hid (blk_below Va.out hb (blk_lt Va.out))
    replace Vq := Lib.hid (blk_below Vq.out hb (blk_lt Vq.out))
    replace Vo := Lib.hid (blk_below Vo.out hb (blk_lt Vo.out))
    replace Vx := Lib.hid (blk_below Vx.out hb (blk_lt Vx.out))
    replace Vp := Lib.hid (blk_below Vp.out hb (blk_lt Vp.out))
    replace RX := Lib.hid (Es.below RX.out hb)
    replace R1 := Lib.hid (Es.below R1.out hb)
    replace R2 := Lib.hid (Es.below R2.out hb)
    replace R3 := Lib.hid (Es.below R3.out hb)
    replace HB := Lib.hid (And.intro (HB.out.1.trans (hb.mono HB.out.2)) (Nat.le_trans HB.out.2 hb.size))
    have Vy := Lib.hid hv0
    have nea_y := Nat.ne_of_lt lta
    have neq_y := Nat.ne_of_lt ltq
    have neo_y := Nat.ne_of_lt lto
    have nex_y := Nat.ne_of_lt ltx
    have nep_y := Nat.ne_of_lt ltp
    have gey := gq
    have Vr := Lib.hid hv1
    have nea_r := Nat.ne_of_lt (Nat.lt_of_lt_of_le lta (Nat.le_add_right w7.heap.size 1))
    have neq_r := Nat.ne_of_lt (Nat.lt_of_lt_of_le ltq (Nat.le_add_right w7.heap.size 1))
    have neo_r := Nat.ne_of_lt (Nat.lt_of_lt_of_le lto (Nat.le_add_right w7.heap.size 1))
    have nex_r := Nat.ne_of_lt (Nat.lt_of_lt_of_le ltx (Nat.le_add_right w7.heap.size 1))
    have nep_r := Nat.ne_of_lt (Nat.lt_of_lt_of_le ltp (Nat.le_add_right w7.heap.size 1))
    have ney_r : w7.heap.size ≠ w7.heap.size + 1 := by omega
    have ger : _ ≤ w7.heap.size + 1 := Nat.le_trans gq (Nat.le_add_right _ 1)
    generalize hsy : w7.heap.size = sy at *
    clear hb gq hv0 hv1 lta ltq lto ltx ltp
    have co0 : w8.cell? ⟨so, 0, none⟩ = some (.slice B1 n d1) := (blk_cell Vo.out 0).trans rfl
    have co1 : w8.cell? ⟨so, 1, none⟩ = some (.int .i64 fr) := (blk_cell Vo.out 1).trans rfl
    have cq0 : w8.cell? ⟨sa + 1, 0, none⟩ = some (.int .i64 hd) := (blk_cell Vq.out 0).trans rfl
    have cq1 : w8.cell? ⟨sa + 1, 1, none⟩ = some (.int .i64 tl) := (blk_cell Vq.out 1).trans rfl
    go_wp2_with fail
    refine (c3.out _ _ _ R1.out).mono ?_
    rintro e w9 ⟨B4, m4, d4, rfl, hrs, hb⟩
    clear co0 co1 cq0 cq1
    replace Va := Lib.hid (blk_below Va.out hb (blk_lt Va.out))
    replace Vq := Lib.hid (blk_below Vq.out hb (blk_lt Vq.out))
    replace Vo := Lib.hid (blk_below Vo.out hb (blk_lt Vo.out))
    replace Vx := Lib.hid (blk_below Vx.out hb (blk_lt Vx.out))
    replace Vp := Lib.hid (blk_below Vp.out hb (blk_lt Vp.out))
    replace Vy := Lib.hid (blk_below Vy.out hb (blk_lt Vy.out))
    replace Vr := Lib.hid (blk_below Vr.out hb (blk_lt Vr.out))
    replace RX := Lib.hid (Es.below RX.out hb)
    replace R1 := Lib.hid (Es.below R1.out hb)
    replace R2 := Lib.hid (Es.below R2.out hb)
    replace R3 := Lib.hid (Es.below R3.out hb)
    replace HB := Lib.hid (And.intro (HB.out.1.trans (hb.mono HB.out.2)) (Nat.le_trans HB.out.2 hb.size))
    clear hb
    have R4 := Lib.hid hrs
    clear hrs
    have lta := blk_lt Va.out
    have ltq := blk_lt Vq.out
    have lto := blk_lt Vo.out
    have ltx := blk_lt Vx.out
    have ltp := blk_lt Vp.out
    have lty := blk_lt Vy.out
    have ltr := blk_lt Vr.out
    have gq := HB.out.2
    obtain ⟨w10, hw10⟩ : ∃ W, ((w9.alloc (.cells #[.slice B4 m4 d4, .int .i64 df] 24)).alloc (.cells #[.int .i64 dh, .int .i64 dt] 26)) = W := ⟨_, rfl⟩
    have hb : Below w9.heap.size w9 w10 := hw10 ▸ (((Below.refl _ _).alloc (Nat.le_refl _) _).alloc (by simp) _)
    have hv0 : w10.heap[w9.heap.size]? = some (.cells #[.slice B4 m4 d4, .int .i64 df] 24) := by
      have h0 := heap_alloc_new w9 (.cells #[.slice B4 m4 d4, .int .i64 df] 24)
      rw [show w9.heap.size = w9.heap.size by simp [Nat.add_assoc]] at h0
      rw [← hw10]
      rw [heap_alloc_old _ _ (by simp <;> omega)]; exact h0
    have hv1 : w10.heap[w9.heap.size + 1]? = some (.cells #[.int .i64 dh, .int .i64 dt] 26) := by
      have h0 := heap_alloc_new (w9.alloc (.cells #[.slice B4 m4 d4, .int .i64 df] 24)) (.cells #[.int .i64 dh, .int .i64 dt] 26)
      rw [show (w9.alloc (.cells #[.slice B4 m4 d4, .int .i64 df] 24)).heap.size = w9.heap.size + 1 by simp [Nat.add_assoc]] at h0
      rw [← hw10]
      exact h0
    replace Va := Lib.hid (blk_below Va.out hb (blk_lt Va.out))
    replace Vq := Lib.hid (blk_below Vq.out hb (blk_lt Vq.out))
    replace Vo := Lib.hid (blk_below Vo.out hb (blk_lt Vo.out))
    replace Vx := Lib.hid (blk_below Vx.out hb (blk_lt Vx.out))
    replace Vp := Lib.hid (blk_below Vp.out hb (blk_lt Vp.out))
    replace Vy := Lib.hid (blk_below Vy.out hb (blk_lt Vy.out))
    replace Vr := Lib.hid (blk_below Vr.out hb (blk_lt Vr.out))
    replace RX := Lib.hid (Es.below RX.out hb)
    replace R1 := Lib.hid (Es.below R1.out hb)
    replace R2 := Lib.hid (Es.below R2.out hb)
    replace R3 := Lib.hid (Es.below R3.out hb)
    replace R4 := Lib.hid (Es.below R4.out hb)
    replace HB := Lib.hid (And.intro (HB.out.1.trans (hb.mono HB.out.2)) (Nat.le_trans HB.out.2 hb.size))
    have Vb := Lib.hid hv0
    have nea_b := Nat.ne_of_lt lta
    have neq_b := Nat.ne_of_lt ltq
    have neo_b := Nat.ne_of_lt lto
    have nex_b := Nat.ne_of_lt ltx
    have nep_b := Nat.ne_of_lt ltp
    have ney_b := Nat.ne_of_lt lty
    have ner_b := Nat.ne_of_lt ltr
    have geb := gq
    have Vs := Lib.hid hv1
    have nea_s := Nat.ne_of_lt (Nat.lt_of_lt_of_le lta (Nat.le_add_right w9.heap.size 1))
    have neq_s := Nat.ne_of_lt (Nat.lt_of_lt_of_le ltq (Nat.le_add_right w9.heap.size 1))
    have neo_s := Nat.ne_of_lt (Nat.lt_of_lt_of_le lto (Nat.le_add_right w9.heap.size 1))
    have nex_s := Nat.ne_of_lt (Nat.lt_of_lt_of_le ltx (Nat.le_add_right w9.heap.size 1))
    have nep_s := Nat.ne_of_lt (Nat.lt_of_lt_of_le ltp (Nat.le_add_right w9.heap.size 1))
    have ney_s := Nat.ne_of_lt (Nat.lt_of_lt_of_le lty (Nat.le_add_right w9.heap.size 1))
    have ner_s := Nat.ne_of_lt (Nat.lt_of_lt_of_le ltr (Nat.le_add_right w9.heap.size 1))
    have neb_s : w9.heap.size ≠ w9.heap.size + 1 := by omega
    have ges : _ ≤ w9.heap.size + 1 := Nat.le_trans gq (Nat.le_add_right _ 1)
    generalize hsb : w9.heap.size = sb at *
    clear hb gq hv0 hv1 lta ltq lto ltx ltp lty ltr
    have ca0 : w10.cell? ⟨sa, 0, none⟩ = some (.slice A n c) := (blk_cell Va.out 0).trans rfl
    have ca1 : w10.cell? ⟨sa, 1, none⟩ = some (.int .i64 fr) := (blk_cell Va.out 1).trans rfl
    have cq0 : w10.cell? ⟨sa + 1, 0, none⟩ = some (.int .i64 hd) := (blk_cell Vq.out 0).trans rfl
    have cq1 : w10.cell? ⟨sa + 1, 1, none⟩ = some (.int .i64 tl) := (blk_cell Vq.out 1).trans rfl
    go_wp2_with fail
    refine (c4.out _ _ _ RX.out).mono ?_
    rintro e w11 ⟨B5, m5, d5, rfl, hrs, hb⟩
    clear ca0 ca1 cq0 cq1
    replace Va := Lib.hid (blk_below Va.out hb (blk_lt Va.out))
    replace Vq := Lib.hid (blk_below Vq.out hb (blk_lt Vq.out))
    replace Vo := Lib.hid (blk_below Vo.out hb (blk_lt Vo.out))
    replace Vx := Lib.hid (blk_below Vx.out hb (blk_lt Vx.out))
    replace Vp := Lib.hid (blk_below Vp.out hb (blk_lt Vp.out))
    replace Vy := Lib.hid (blk_below Vy.out hb (blk_lt Vy.out))
    replace Vr := Lib.hid (blk_below Vr.out hb (blk_lt Vr.out))
    replace Vb := Lib.hid (blk_below Vb.out hb (blk_lt Vb.out))
    replace Vs := Lib.hid (blk_below Vs.out hb (blk_lt Vs.out))
    replace RX := Lib.hid (Es.below RX.out hb)
    replace R1 := Lib.hid (Es.below R1.out hb)
    replace R2 := Lib.hid (Es.below R2.out hb)
    replace R3 := Lib.hid (Es.below R3.out hb)
    replace R4 := Lib.hid (Es.below R4.out hb)
    replace HB := Lib.hid (And.intro (HB.out.1.trans (hb.mono HB.out.2)) (Nat.le_trans HB.out.2 hb.size))
    clear hb
    have R5 := Lib.hid hrs
    clear hrs
    have lta := blk_lt Va.out
    have ltq := blk_lt Vq.out
    have lto := blk_lt Vo.out
    have ltx := blk_lt Vx.out
    have ltp := blk_lt Vp.out
    have lty := blk_lt Vy.out
    have ltr := blk_lt Vr.out
    have ltb := blk_lt Vb.out
    have lts := blk_lt Vs.out
    have gq := HB.out.2
    obtain ⟨w12, hw12⟩ : ∃ W, ((w11.alloc (.cells #[.slice B5 m5 d5, .int .i64 df] 24)).alloc (.cells #[.int .i64 dh, .int .i64 dt] 26)) = W := ⟨_, rfl⟩
    have hb : Below w11.heap.size w11 w12 := hw12 ▸ (((Below.refl _ _).alloc (Nat.le_refl _) _).alloc (by simp) _)
    have hv0 : w12.heap[w11.heap.size]? = some (.cells #[.slice B5 m5 d5, .int .i64 df] 24) := by
      have h0 := heap_alloc_new w11 (.cells #[.slice B5 m5 d5, .int .i64 df] 24)
      rw [show w11.heap.size = w11.heap.size by simp [Nat.add_assoc]] at h0
      rw [← hw12]
      rw [heap_alloc_old _ _ (by simp <;> omega)]; exact h0
    have hv1 : w12.heap[w11.heap.size + 1]? = some (.cells #[.int .i64 dh, .int .i64 dt] 26) := by
      have h0 := heap_alloc_new (w11.alloc (.cells #[.slice B5 m5 d5, .int .i64 df] 24)) (.cells #[.int .i64 dh, .int .i64 dt] 26)
      rw [show (w11.alloc (.cells #[.slice B5 m5 d5, .int .i64 df] 24)).heap.size = w11.heap.size + 1 by simp [Nat.add_assoc]] at h0
      rw [← hw12]
      exact h0
    replace Va := Lib.hid (blk_below Va.out hb (blk_lt Va.out))
    replace Vq := Lib.hid (blk_below Vq.out hb (blk_lt Vq.out))
    replace Vo := Lib.hid (blk_below Vo.out hb (blk_lt Vo.out))
    replace Vx := Lib.hid (blk_below Vx.out hb (blk_lt Vx.out))
    replace Vp := Lib.hid (blk_below Vp.out hb (blk_lt Vp.out))
    replace Vy := Lib.hid (blk_below Vy.out hb (blk_lt Vy.out))
    replace Vr := Lib.hid (blk_below Vr.out hb (blk_lt Vr.out))
    replace Vb := Lib.hid (blk_below Vb.out hb (blk_lt Vb.out))
    replace Vs := Lib.hid (blk_below Vs.out hb (blk_lt Vs.out))
    replace RX := Lib.hid (Es.below RX.out hb)
    replace R1 := Lib.hid (Es.below R1.out hb)
    replace R2 := Lib.hid (Es.below R2.out hb)
    replace R3 := Lib.hid (Es.below R3.out hb)
    replace R4 := Lib.hid (Es.below R4.out hb)
    replace R5 := Lib.hid (Es.below R5.out hb)
    replace HB := Lib.hid (And.intro (HB.out.1.trans (hb.mono HB.out.2)) (Nat.le_trans HB.out.2 hb.size))
    have Vcc := Lib.hid hv0
    have nea_cc := Nat.ne_of_lt lta
    have neq_cc := Nat.ne_of_lt ltq
    have neo_cc := Nat.ne_of_lt lto
    have nex_cc := Nat.ne_of_lt ltx
    have nep_cc := Nat.ne_of_lt ltp
    have ney_cc := Nat.ne_of_lt lty
    have ner_cc := Nat.ne_of_lt ltr
    have neb_cc := Nat.ne_of_lt ltb
    have nes_cc := Nat.ne_of_lt lts
    have gecc := gq
    have Vv := Lib.hid hv1
    have nea_v := Nat.ne_of_lt (Nat.lt_of_lt_of_le lta (Nat.le_add_right w11.heap.size 1))
    have neq_v := Nat.ne_of_lt (Nat.lt_of_lt_of_le ltq (Nat.le_add_right w11.heap.size 1))
    have neo_v := Nat.ne_of_lt (Nat.lt_of_lt_of_le lto (Nat.le_add_right w11.heap.size 1))
    have nex_v := Nat.ne_of_lt (Nat.lt_of_lt_of_le ltx (Nat.le_add_right w11.heap.size 1))
    have nep_v := Nat.ne_of_lt (Nat.lt_of_lt_of_le ltp (Nat.le_add_right w11.heap.size 1))
    have ney_v := Nat.ne_of_lt (Nat.lt_of_lt_of_le lty (Nat.le_add_right w11.heap.size 1))
    have ner_v := Nat.ne_of_lt (Nat.lt_of_lt_of_le ltr (Nat.le_add_right w11.heap.size 1))
    have neb_v := Nat.ne_of_lt (Nat.lt_of_lt_of_le ltb (Nat.le_add_right w11.heap.size 1))
    have nes_v := Nat.ne_of_lt (Nat.lt_of_lt_of_le lts (Nat.le_add_right w11.heap.size 1))
    have necc_v : w11.heap.size ≠ w11.heap.size + 1 := by omega
    have gev : _ ≤ w11.heap.size + 1 := Nat.le_trans gq (Nat.le_add_right _ 1)
    generalize hscc : w11.heap.size = scc at *
    clear hb gq hv0 hv1 lta ltq lto ltx ltp lty ltr ltb lts
    go_wp2
    refine wp_region_noPanic ?_
    refine wp_region_held_drew (S := (fun wv => Below w12.heap.size w12 wv)) (by kernel_rfl) ((Below.refl w12.heap.size w12).drew) (fun hS => ?_)
    refine wpAnyH_take (i := 0) (oi := ⟨some 62, .load 24 (.tmp 8), 24, "law.go:39", #[], none⟩) (v := .agg (([.slice B2 m2 d2, .int .i64 pf] : List Value)).toArray) rfl (by kernel_rfl) (by kernel_rfl) (by kernel_rfl) (fun _ _ _ h => h) (yieldsIf_load_mid (by rfl) _ _ (by rfl) (sx) 0 (by rfl) (([.slice B2 m2 d2, .int .i64 pf] : List Value)) _ (fun wv hS => blk_rngl (blk_below Vx.out hS (blk_lt Vx.out))) Try.underlying24 (by rfl) (by kernel_rfl)) hS ?_
    try simp only [Act.put, List.setIfInBounds_toArray, List.set_cons_zero, List.set_cons_succ]
    refine wpAnyH_take (i := 1) (oi := ⟨some 63, .load 24 (.tmp 12), 24, "law.go:39", #[], none⟩) (v := .agg (([.slice B3 m3 d3, .int .i64 pf] : List Value)).toArray) rfl (by kernel_rfl) (by kernel_rfl) (by kernel_rfl) (fun _ _ _ h => h) (yieldsIf_load_mid (by rfl) _ _ (by rfl) (sy) 0 (by rfl) (([.slice B3 m3 d3, .int .i64 pf] : List Value)) _ (fun wv hS => blk_rngl (blk_below Vy.out hS (blk_lt Vy.out))) Try.underlying24 (by rfl) (by kernel_rfl)) hS ?_
    try simp only [Act.put, List.setIfInBounds_toArray, List.set_cons_zero, List.set_cons_succ]
    refine wpAnyH_ready (rs := [2]) (by kernel_rfl) (by simp) (AllReadyH.cons (o := ⟨some 64, .call { callee := .value (.func 13), args := #[.tmp 62, .tmp 63], argTypes := #[24, 24] }, 4, "law.go:39", #[⟨0, .data⟩, ⟨1, .data⟩], none⟩) rfl (fun K hK => ?_) AllReadyH.nil)
    go_simp
    refine (c12.out _ _ _ _ _ _ _ _ _ hpl (Es.below R2.out hS) (Es.below R3.out hS)).mono ?_; rintro e u2 ⟨rfl, hb⟩
    replace hS := hS.trans (hb.mono hS.size)
    clear hb
    go_wp2_with fail
    refine Shut.out hK _ _ hS (fun _ => ?_)
    clear hK K
    try simp only [Act.put, List.setIfInBounds_toArray, List.set_cons_zero, List.set_cons_succ]
    refine wpAnyH_take (i := 3) (oi := ⟨some 65, .move (.tmp 64), 4, "law.go:39", #[⟨2, .data⟩, ⟨2, .chain⟩], none⟩) (v := ?_) rfl (by kernel_rfl) (by kernel_rfl) (by kernel_rfl) (fun _ _ _ h => h) (Or.inl ⟨by rfl, ?_⟩) hS ?_
    rotate_left
    · intro wv _; go_simp; try with_reducible rfl
    try simp only [Act.put, List.setIfInBounds_toArray, List.set_cons_zero, List.set_cons_succ]
    refine wpAnyH_take (i := 4) (oi := ⟨some 66, .load 26 (.tmp 9), 26, "law.go:39", #[⟨3, .guard⟩], some (3, true)⟩) (v := .agg (([.int .i64 ph, .int .i64 pt] : List Value)).toArray) rfl (by kernel_rfl) (by kernel_rfl) (by kernel_rfl) (fun _ _ _ h => h) (yieldsIf_load_mid (by rfl) _ _ (by rfl) (sx + 1) 0 (by rfl) (([.int .i64 ph, .int .i64 pt] : List Value)) _ (fun wv hS => blk_rngl (blk_below Vp.out hS (blk_lt Vp.out))) Try.underlying26 (by rfl) (by kernel_rfl)) hS ?_
    try simp only [Act.put, List.setIfInBounds_toArray, List.set_cons_zero, List.set_cons_succ]
    refine wpAnyH_take (i := 5) (oi := ⟨some 67, .load 26 (.tmp 13), 26, "law.go:39", #[⟨3, .guard⟩], some (3, true)⟩) (v := .agg (([.int .i64 ph, .int .i64 pt] : List Value)).toArray) rfl (by kernel_rfl) (by kernel_rfl) (by kernel_rfl) (fun _ _ _ h => h) (yieldsIf_load_mid (by rfl) _ _ (by rfl) (sy + 1) 0 (by rfl) (([.int .i64 ph, .int .i64 pt] : List Value)) _ (fun wv hS => blk_rngl (blk_below Vr.out hS (blk_lt Vr.out))) Try.underlying26 (by rfl) (by kernel_rfl)) hS ?_
    try simp only [Act.put, List.setIfInBounds_toArray, List.set_cons_zero, List.set_cons_succ]
    refine wpAnyH_take (i := 6) (oi := ⟨some 68, .binOp .eql 26 (.tmp 66) (.tmp 67) 26, 4, "law.go:39", #[⟨4, .data⟩, ⟨5, .data⟩, ⟨3, .guard⟩], some (3, true)⟩) (v := ?_) rfl (by kernel_rfl) (by kernel_rfl) (by kernel_rfl) (fun _ _ _ h => h) (Or.inl ⟨by rfl, ?_⟩) hS ?_
    rotate_left
    · intro wv _; go_simp; try with_reducible rfl
    try simp only [Act.put, List.setIfInBounds_toArray, List.set_cons_zero, List.set_cons_succ]
    refine wpAnyH_take (i := 7) (oi := ⟨some 69, .pick (.tmp 65) (.tmp 68) (.const (Value.bool false)), 4, "law.go:39", #[⟨3, .data⟩, ⟨6, .data⟩], none⟩) (v := ?_) rfl (by kernel_rfl) (by kernel_rfl) (by kernel_rfl) (fun _ _ _ h => h) (Or.inl ⟨by rfl, ?_⟩) hS ?_
    rotate_left
    · intro wv _; go_simp; try with_reducible rfl
    try simp only [Act.put, List.setIfInBounds_toArray, List.set_cons_zero, List.set_cons_succ]
    refine wpAnyH_take (i := 8) (oi := ⟨some 70, .move (.tmp 69), 4, "law.go:39", #[⟨7, .data⟩, ⟨3, .chain⟩], none⟩) (v := ?_) rfl (by kernel_rfl) (by kernel_rfl) (by kernel_rfl) (fun _ _ _ h => h) (Or.inl ⟨by rfl, ?_⟩) hS ?_
    rotate_left
    · intro wv _; go_simp; try with_reducible rfl
    try simp only [Act.put, List.setIfInBounds_toArray, List.set_cons_zero, List.set_cons_succ]
    refine wpAnyH_take (i := 9) (oi := ⟨some 71, .move (.tmp 10), 3, "law.go:39", #[⟨8, .guard⟩], some (8, true)⟩) (v := ?_) rfl (by kernel_rfl) (by kernel_rfl) (by kernel_rfl) (fun _ _ _ h => h) (Or.inl ⟨by rfl, ?_⟩) hS ?_
    rotate_left
    · intro wv _; go_simp; try with_reducible rfl
    try simp only [Act.put, List.setIfInBounds_toArray, List.set_cons_zero, List.set_cons_succ]
    refine wpAnyH_take (i := 10) (oi := ⟨some 72, .move (.tmp 14), 3, "law.go:39", #[⟨8, .guard⟩], some (8, true)⟩) (v := ?_) rfl (by kernel_rfl) (by kernel_rfl) (by kernel_rfl) (fun _ _ _ h => h) (Or.inl ⟨by rfl, ?_⟩) hS ?_
    rotate_left
    · intro wv _; go_simp; try with_reducible rfl
    try simp only [Act.put, List.setIfInBounds_toArray, List.set_cons_zero, List.set_cons_succ]
    refine wpAnyH_take (i := 11) (oi := ⟨some 73, .binOp .eql 3 (.tmp 71) (.tmp 72) 3, 4, "law.go:39", #[⟨9, .data⟩, ⟨10, .data⟩, ⟨8, .guard⟩], some (8, true)⟩) (v := ?_) rfl (by kernel_rfl) (by kernel_rfl) (by kernel_rfl) (fun _ _ _ h => h) (Or.inl ⟨by rfl, ?_⟩) hS ?_
    rotate_left
    · intro wv _; go_simp; try with_reducible rfl
    try simp only [Act.put, List.setIfInBounds_toArray, List.set_cons_zero, List.set_cons_succ]
    refine wpAnyH_take (i := 12) (oi := ⟨some 74, .pick (.tmp 70) (.tmp 73) (.const (Value.bool false)), 4, "law.go:39", #[⟨8, .data⟩, ⟨11, .data⟩], none⟩) (v := ?_) rfl (by kernel_rfl) (by kernel_rfl) (by kernel_rfl) (fun _ _ _ h => h) (Or.inl ⟨by rfl, ?_⟩) hS ?_
    rotate_left
    · intro wv _; go_simp; try with_reducible rfl
    try simp only [Act.put, List.setIfInBounds_toArray, List.set_cons_zero, List.set_cons_succ]
    refine wpAnyH_take (i := 13) (oi := ⟨some 75, .move (.tmp 74), 4, "law.go:39", #[⟨12, .data⟩, ⟨8, .chain⟩], none⟩) (v := ?_) rfl (by kernel_rfl) (by kernel_rfl) (by kernel_rfl) (fun _ _ _ h => h) (Or.inl ⟨by rfl, ?_⟩) hS ?_
    rotate_left
    · intro wv _; go_simp; try with_reducible rfl
    try simp only [Act.put, List.setIfInBounds_toArray, List.set_cons_zero, List.set_cons_succ]
    refine wpAnyH_take (i := 14) (oi := ⟨some 76, .move (.tmp 11), 29, "law.go:39", #[⟨13, .guard⟩], some (13, true)⟩) (v := ?_) rfl (by kernel_rfl) (by kernel_rfl) (by kernel_rfl) (fun _ _ _ h => h) (Or.inl ⟨by rfl, ?_⟩) hS ?_
    rotate_left
    · intro wv _; go_simp; try with_reducible rfl
    try simp only [Act.put, List.setIfInBounds_toArray, List.set_cons_zero, List.set_cons_succ]
    refine wpAnyH_take (i := 15) (oi := ⟨some 77, .move (.tmp 15), 29, "law.go:39", #[⟨13, .guard⟩], some (13, true)⟩) (v := ?_) rfl (by kernel_rfl) (by kernel_rfl) (by kernel_rfl) (fun _ _ _ h => h) (Or.inl ⟨by rfl, ?_⟩) hS ?_
    rotate_left
    · intro wv _; go_simp; try with_reducible rfl
    try simp only [Act.put, List.setIfInBounds_toArray, List.set_cons_zero, List.set_cons_succ]
    refine wpAnyH_take (i := 16) (oi := ⟨some 78, .binOp .eql 29 (.tmp 76) (.tmp 77) 29, 4, "law.go:39", #[⟨14, .data⟩, ⟨15, .data⟩, ⟨13, .guard⟩], some (13, true)⟩) (v := ?_) rfl (by kernel_rfl) (by kernel_rfl) (by kernel_rfl) (fun _ _ _ h => h) (Or.inl ⟨by rfl, ?_⟩) hS ?_
    rotate_left
    · intro wv _; go_simp; try with_reducible rfl
    try simp only [Act.put, List.setIfInBounds_toArray, List.set_cons_zero, List.set_cons_succ]
    refine wpAnyH_take (i := 17) (oi := ⟨some 79, .pick (.tmp 75) (.tmp 78) (.const (Value.bool false)), 4, "law.go:39", #[⟨13, .data⟩, ⟨16, .data⟩], none⟩) (v := ?_) rfl (by kernel_rfl) (by kernel_rfl) (by kernel_rfl) (fun _ _ _ h => h) (Or.inl ⟨by rfl, ?_⟩) hS ?_
    rotate_left
    · intro wv _; go_simp; try with_reducible rfl
    try simp only [Act.put, List.setIfInBounds_toArray, List.set_cons_zero, List.set_cons_succ]
    refine wpAnyH_take (i := 18) (oi := ⟨some 80, .move (.tmp 79), 4, "law.go:39", #[⟨17, .data⟩, ⟨13, .chain⟩], none⟩) (v := ?_) rfl (by kernel_rfl) (by kernel_rfl) (by kernel_rfl) (fun _ _ _ h => h) (Or.inl ⟨by rfl, ?_⟩) hS ?_
    rotate_left
    · intro wv _; go_simp; try with_reducible rfl
    try simp only [Act.put, List.setIfInBounds_toArray, List.set_cons_zero, List.set_cons_succ]
    refine wpAnyH_take (i := 19) (oi := ⟨some 81, .load 24 (.tmp 16), 24, "law.go:39", #[⟨18, .guard⟩], some (18, true)⟩) (v := .agg (([.slice B4 m4 d4, .int .i64 df] : List Value)).toArray) rfl (by kernel_rfl) (by kernel_rfl) (by kernel_rfl) (fun _ _ _ h => h) (yieldsIf_load_mid (by rfl) _ _ (by rfl) (sb) 0 (by rfl) (([.slice B4 m4 d4, .int .i64 df] : List Value)) _ (fun wv hS => blk_rngl (blk_below Vb.out hS (blk_lt Vb.out))) Try.underlying24 (by rfl) (by kernel_rfl)) hS ?_
    try simp only [Act.put, List.setIfInBounds_toArray, List.set_cons_zero, List.set_cons_succ]
    refine wpAnyH_take (i := 20) (oi := ⟨some 82, .load 24 (.tmp 19), 24, "law.go:39", #[⟨18, .guard⟩], some (18, true)⟩) (v := .agg (([.slice B5 m5 d5, .int .i64 df] : List Value)).toArray) rfl (by kernel_rfl) (by kernel_rfl) (by kernel_rfl) (fun _ _ _ h => h) (yieldsIf_load_mid (by rfl) _ _ (by rfl) (scc) 0 (by rfl) (([.slice B5 m5 d5, .int .i64 df] : List Value)) _ (fun wv hS => blk_rngl (blk_below Vcc.out hS (blk_lt Vcc.out))) Try.underlying24 (by rfl) (by kernel_rfl)) hS ?_
    try simp only [Act.put, List.setIfInBounds_toArray, List.set_cons_zero, List.set_cons_succ]
    refine wpAnyH_ready (rs := [21]) (by kernel_rfl) (by simp) (AllReadyH.cons (o := ⟨some 83, .call { callee := .value (.func 13), args := #[.tmp 81, .tmp 82], argTypes := #[24, 24] }, 4, "law.go:39", #[⟨19, .data⟩, ⟨20, .data⟩, ⟨18, .chain⟩, ⟨18, .guard⟩], some (18, true)⟩) rfl (fun K hK => ?_) AllReadyH.nil)
    go_simp
    refine (c12.out _ _ _ _ _ _ _ _ _ hdl (Es.below R4.out hS) (Es.below R5.out hS)).mono ?_; rintro e u21 ⟨rfl, hb⟩
    replace hS := hS.trans (hb.mono hS.size)
    clear hb
    go_wp2_with fail
    refine Shut.out hK _ _ hS (fun _ => ?_)
    clear hK K
    try simp only [Act.put, List.setIfInBounds_toArray, List.set_cons_zero, List.set_cons_succ]
    refine wpAnyH_take (i := 22) (oi := ⟨some 84, .pick (.tmp 80) (.tmp 83) (.const (Value.bool false)), 4, "law.go:39", #[⟨18, .data⟩, ⟨21, .data⟩], none⟩) (v := ?_) rfl (by kernel_rfl) (by kernel_rfl) (by kernel_rfl) (fun _ _ _ h => h) (Or.inl ⟨by rfl, ?_⟩) hS ?_
    rotate_left
    · intro wv _; go_simp; try with_reducible rfl
    try simp only [Act.put, List.setIfInBounds_toArray, List.set_cons_zero, List.set_cons_succ]
    refine wpAnyH_take (i := 23) (oi := ⟨some 85, .move (.tmp 84), 4, "law.go:39", #[⟨22, .data⟩, ⟨21, .chain⟩], none⟩) (v := ?_) rfl (by kernel_rfl) (by kernel_rfl) (by kernel_rfl) (fun _ _ _ h => h) (Or.inl ⟨by rfl, ?_⟩) hS ?_
    rotate_left
    · intro wv _; go_simp; try with_reducible rfl
    try simp only [Act.put, List.setIfInBounds_toArray, List.set_cons_zero, List.set_cons_succ]
    refine wpAnyH_take (i := 24) (oi := ⟨some 86, .load 26 (.tmp 17), 26, "law.go:39", #[⟨23, .guard⟩], some (23, true)⟩) (v := .agg (([.int .i64 dh, .int .i64 dt] : List Value)).toArray) rfl (by kernel_rfl) (by kernel_rfl) (by kernel_rfl) (fun _ _ _ h => h) (yieldsIf_load_mid (by rfl) _ _ (by rfl) (sb + 1) 0 (by rfl) (([.int .i64 dh, .int .i64 dt] : List Value)) _ (fun wv hS => blk_rngl (blk_below Vs.out hS (blk_lt Vs.out))) Try.underlying26 (by rfl) (by kernel_rfl)) hS ?_
    try simp only [Act.put, List.setIfInBounds_toArray, List.set_cons_zero, List.set_cons_succ]
    refine wpAnyH_take (i := 25) (oi := ⟨some 87, .load 26 (.tmp 20), 26, "law.go:39", #[⟨23, .guard⟩], some (23, true)⟩) (v := .agg (([.int .i64 dh, .int .i64 dt] : List Value)).toArray) rfl (by kernel_rfl) (by kernel_rfl) (by kernel_rfl) (fun _ _ _ h => h) (yieldsIf_load_mid (by rfl) _ _ (by rfl) (scc + 1) 0 (by rfl) (([.int .i64 dh, .int .i64 dt] : List Value)) _ (fun wv hS => blk_rngl (blk_below Vv.out hS (blk_lt Vv.out))) Try.underlying26 (by rfl) (by kernel_rfl)) hS ?_
    try simp only [Act.put, List.setIfInBounds_toArray, List.set_cons_zero, List.set_cons_succ]
    refine wpAnyH_take (i := 26) (oi := ⟨some 88, .binOp .eql 26 (.tmp 86) (.tmp 87) 26, 4, "law.go:39", #[⟨24, .data⟩, ⟨25, .data⟩, ⟨23, .guard⟩], some (23, true)⟩) (v := ?_) rfl (by kernel_rfl) (by kernel_rfl) (by kernel_rfl) (fun _ _ _ h => h) (Or.inl ⟨by rfl, ?_⟩) hS ?_
    rotate_left
    · intro wv _; go_simp; try with_reducible rfl
    try simp only [Act.put, List.setIfInBounds_toArray, List.set_cons_zero, List.set_cons_succ]
    refine wpAnyH_take (i := 27) (oi := ⟨some 89, .pick (.tmp 85) (.tmp 88) (.const (Value.bool false)), 4, "law.go:39", #[⟨23, .data⟩, ⟨26, .data⟩], none⟩) (v := ?_) rfl (by kernel_rfl) (by kernel_rfl) (by kernel_rfl) (fun _ _ _ h => h) (Or.inl ⟨by rfl, ?_⟩) hS ?_
    rotate_left
    · intro wv _; go_simp; try with_reducible rfl
    try simp only [Act.put, List.setIfInBounds_toArray, List.set_cons_zero, List.set_cons_succ]
    refine wpAnyH_take (i := 28) (oi := ⟨some 90, .move (.tmp 89), 4, "law.go:39", #[⟨27, .data⟩, ⟨23, .chain⟩], none⟩) (v := ?_) rfl (by kernel_rfl) (by kernel_rfl) (by kernel_rfl) (fun _ _ _ h => h) (Or.inl ⟨by rfl, ?_⟩) hS ?_
    rotate_left
    · intro wv _; go_simp; try with_reducible rfl
    try simp only [Act.put, List.setIfInBounds_toArray, List.set_cons_zero, List.set_cons_succ]
    refine wpAnyH_take (i := 29) (oi := ⟨some 91, .move (.tmp 18), 29, "law.go:39", #[⟨28, .guard⟩], some (28, true)⟩) (v := ?_) rfl (by kernel_rfl) (by kernel_rfl) (by kernel_rfl) (fun _ _ _ h => h) (Or.inl ⟨by rfl, ?_⟩) hS ?_
    rotate_left
    · intro wv _; go_simp; try with_reducible rfl
    try simp only [Act.put, List.setIfInBounds_toArray, List.set_cons_zero, List.set_cons_succ]
    refine wpAnyH_take (i := 30) (oi := ⟨some 92, .move (.tmp 21), 29, "law.go:39", #[⟨28, .guard⟩], some (28, true)⟩) (v := ?_) rfl (by kernel_rfl) (by kernel_rfl) (by kernel_rfl) (fun _ _ _ h => h) (Or.inl ⟨by rfl, ?_⟩) hS ?_
    rotate_left
    · intro wv _; go_simp; try with_reducible rfl
    try simp only [Act.put, List.setIfInBounds_toArray, List.set_cons_zero, List.set_cons_succ]
    refine wpAnyH_take (i := 31) (oi := ⟨some 93, .binOp .eql 29 (.tmp 91) (.tmp 92) 29, 4, "law.go:39", #[⟨29, .data⟩, ⟨30, .data⟩, ⟨28, .guard⟩], some (28, true)⟩) (v := ?_) rfl (by kernel_rfl) (by kernel_rfl) (by kernel_rfl) (fun _ _ _ h => h) (Or.inl ⟨by rfl, ?_⟩) hS ?_
    rotate_left
    · intro wv _; go_simp; try with_reducible rfl
    try simp only [Act.put, List.setIfInBounds_toArray, List.set_cons_zero, List.set_cons_succ]
    refine wpAnyH_take (i := 32) (oi := ⟨some 94, .pick (.tmp 90) (.tmp 93) (.const (Value.bool false)), 4, "law.go:39", #[⟨28, .data⟩, ⟨31, .data⟩], none⟩) (v := ?_) rfl (by kernel_rfl) (by kernel_rfl) (by kernel_rfl) (fun _ _ _ h => h) (Or.inl ⟨by rfl, ?_⟩) hS ?_
    rotate_left
    · intro wv _; go_simp; try with_reducible rfl
    try simp only [Act.put, List.setIfInBounds_toArray, List.set_cons_zero, List.set_cons_succ]
    refine wpAnyH_take (i := 33) (oi := ⟨some 95, .move (.tmp 94), 4, "law.go:39", #[⟨32, .data⟩, ⟨28, .chain⟩], none⟩) (v := ?_) rfl (by kernel_rfl) (by kernel_rfl) (by kernel_rfl) (fun _ _ _ h => h) (Or.inl ⟨by rfl, ?_⟩) hS ?_
    rotate_left
    · intro wv _; go_simp; try with_reducible rfl
    try simp only [Act.put, List.setIfInBounds_toArray, List.set_cons_zero, List.set_cons_succ]
    refine wpAnyH_take (i := 34) (oi := ⟨some 96, .load 24 (.tmp 3), 24, "law.go:39", #[⟨33, .guard⟩], some (33, true)⟩) (v := .agg (([.slice A n c, .int .i64 fr] : List Value)).toArray) rfl (by kernel_rfl) (by kernel_rfl) (by kernel_rfl) (fun _ _ _ h => h) (yieldsIf_load_mid (by rfl) _ _ (by rfl) (sa) 0 (by rfl) (([.slice A n c, .int .i64 fr] : List Value)) _ (fun wv hS => blk_rngl (blk_below Va.out hS (blk_lt Va.out))) Try.underlying24 (by rfl) (by kernel_rfl)) hS ?_
    try simp only [Act.put, List.setIfInBounds_toArray, List.set_cons_zero, List.set_cons_succ]
    refine wpAnyH_take (i := 35) (oi := ⟨some 97, .load 26 (.tmp 4), 26, "law.go:39", #[⟨33, .guard⟩], some (33, true)⟩) (v := .agg (([.int .i64 hd, .int .i64 tl] : List Value)).toArray) rfl (by kernel_rfl) (by kernel_rfl) (by kernel_rfl) (fun _ _ _ h => h) (yieldsIf_load_mid (by rfl) _ _ (by rfl) (sa + 1) 0 (by rfl) (([.int .i64 hd, .int .i64 tl] : List Value)) _ (fun wv hS => blk_rngl (blk_below Vq.out hS (blk_lt Vq.out))) Try.underlying26 (by rfl) (by kernel_rfl)) hS ?_
    try simp only [Act.put, List.setIfInBounds_toArray, List.set_cons_zero, List.set_cons_succ]
    refine wpAnyH_take (i := 37) (oi := ⟨some 99, .load 24 (.tmp 3), 24, "law.go:39", #[⟨33, .guard⟩], some (33, true)⟩) (v := .agg (([.slice A n c, .int .i64 fr] : List Value)).toArray) rfl (by kernel_rfl) (by kernel_rfl) (by kernel_rfl) (fun _ _ _ h => h) (yieldsIf_load_mid (by rfl) _ _ (by rfl) (sa) 0 (by rfl) (([.slice A n c, .int .i64 fr] : List Value)) _ (fun wv hS => blk_rngl (blk_below Va.out hS (blk_lt Va.out))) Try.underlying24 (by rfl) (by kernel_rfl)) hS ?_
    try simp only [Act.put, List.setIfInBounds_toArray, List.set_cons_zero, List.set_cons_succ]
    refine wpAnyH_take (i := 38) (oi := ⟨some 100, .load 26 (.tmp 4), 26, "law.go:39", #[⟨33, .guard⟩], some (33, true)⟩) (v := .agg (([.int .i64 hd, .int .i64 tl] : List Value)).toArray) rfl (by kernel_rfl) (by kernel_rfl) (by kernel_rfl) (fun _ _ _ h => h) (yieldsIf_load_mid (by rfl) _ _ (by rfl) (sa + 1) 0 (by rfl) (([.int .i64 hd, .int .i64 tl] : List Value)) _ (fun wv hS => blk_rngl (blk_below Vq.out hS (blk_lt Vq.out))) Try.underlying26 (by rfl) (by kernel_rfl)) hS ?_
    try simp only [Act.put, List.setIfInBounds_toArray, List.set_cons_zero, List.set_cons_succ]
    refine wpAnyH_ready (rs := [36]) (by kernel_rfl) (by simp) (AllReadyH.cons (o := ⟨some 98, .call { callee := .value (.func 14), args := #[.tmp 96, .tmp 97], argTypes := #[24, 26] }, 4, "law.go:39", #[⟨34, .data⟩, ⟨35, .data⟩, ⟨33, .chain⟩, ⟨33, .guard⟩], some (33, true)⟩) rfl (fun K hK => ?_) AllReadyH.nil)
    go_simp
    refine (c5.out _ _ _ (Es.below RX.out hS)).mono ?_; rintro e u36 ⟨rfl, hb⟩
    replace hS := hS.trans (hb.mono hS.size)
    clear hb
    go_wp2_with fail
    refine Shut.out hK _ _ hS (fun _ => ?_)
    clear hK K
    try simp only [Act.put, List.setIfInBounds_toArray, List.set_cons_zero, List.set_cons_succ]
    refine wpAnyH_ready (rs := [39]) (by kernel_rfl) (by simp) (AllReadyH.cons (o := ⟨some 101, .call { callee := .value (.func 15), args := #[.tmp 99, .tmp 100], argTypes := #[24, 26] }, 4, "law.go:39", #[⟨37, .data⟩, ⟨38, .data⟩, ⟨36, .chain⟩, ⟨33, .guard⟩], some (33, true)⟩) rfl (fun K hK => ?_) AllReadyH.nil)
    go_simp
    refine (c6.out _ _ _ (Es.below RX.out hS)).mono ?_; rintro e u39 ⟨rfl, hb⟩
    replace hS := hS.trans (hb.mono hS.size)
    clear hb
    go_wp2_with fail
    refine Shut.out hK _ _ hS (fun _ => ?_)
    clear hK K
    try simp only [Act.put, List.setIfInBounds_toArray, List.set_cons_zero, List.set_cons_succ]
    refine wpAnyH_take (i := 40) (oi := ⟨some 102, .binOp .eql 4 (.tmp 98) (.tmp 101) 4, 4, "law.go:39", #[⟨36, .data⟩, ⟨39, .data⟩, ⟨33, .guard⟩], some (33, true)⟩) (v := ?_) rfl (by kernel_rfl) (by kernel_rfl) (by kernel_rfl) (fun _ _ _ h => h) (Or.inl ⟨by rfl, ?_⟩) hS ?_
    rotate_left
    · intro wv _; go_simp; try with_reducible rfl
    try simp only [Act.put, List.setIfInBounds_toArray, List.set_cons_zero, List.set_cons_succ]
    refine wpAnyH_take (i := 41) (oi := ⟨some 103, .pick (.tmp 95) (.tmp 102) (.const (Value.bool false)), 4, "law.go:39", #[⟨33, .data⟩, ⟨40, .data⟩], none⟩) (v := ?_) rfl (by kernel_rfl) (by kernel_rfl) (by kernel_rfl) (fun _ _ _ h => h) (Or.inl ⟨by rfl, ?_⟩) hS ?_
    rotate_left
    · intro wv _; go_simp; try with_reducible rfl
    try simp only [Act.put, List.setIfInBounds_toArray, List.set_cons_zero, List.set_cons_succ]
    refine wpAnyH_take (i := 42) (oi := ⟨some 104, .move (.tmp 103), 4, "law.go:39", #[⟨41, .data⟩, ⟨39, .chain⟩], none⟩) (v := ?_) rfl (by kernel_rfl) (by kernel_rfl) (by kernel_rfl) (fun _ _ _ h => h) (Or.inl ⟨by rfl, ?_⟩) hS ?_
    rotate_left
    · intro wv _; go_simp; try with_reducible rfl
    try simp only [Act.put, List.setIfInBounds_toArray, List.set_cons_zero, List.set_cons_succ]
    refine wpAnyH_take (i := 43) (oi := ⟨some 105, .load 24 (.tmp 3), 24, "law.go:39", #[⟨42, .guard⟩], some (42, true)⟩) (v := .agg (([.slice A n c, .int .i64 fr] : List Value)).toArray) rfl (by kernel_rfl) (by kernel_rfl) (by kernel_rfl) (fun _ _ _ h => h) (yieldsIf_load_mid (by rfl) _ _ (by rfl) (sa) 0 (by rfl) (([.slice A n c, .int .i64 fr] : List Value)) _ (fun wv hS => blk_rngl (blk_below Va.out hS (blk_lt Va.out))) Try.underlying24 (by rfl) (by kernel_rfl)) hS ?_
    try simp only [Act.put, List.setIfInBounds_toArray, List.set_cons_zero, List.set_cons_succ]
    refine wpAnyH_take (i := 44) (oi := ⟨some 106, .load 26 (.tmp 4), 26, "law.go:39", #[⟨42, .guard⟩], some (42, true)⟩) (v := .agg (([.int .i64 hd, .int .i64 tl] : List Value)).toArray) rfl (by kernel_rfl) (by kernel_rfl) (by kernel_rfl) (fun _ _ _ h => h) (yieldsIf_load_mid (by rfl) _ _ (by rfl) (sa + 1) 0 (by rfl) (([.int .i64 hd, .int .i64 tl] : List Value)) _ (fun wv hS => blk_rngl (blk_below Vq.out hS (blk_lt Vq.out))) Try.underlying26 (by rfl) (by kernel_rfl)) hS ?_
    try simp only [Act.put, List.setIfInBounds_toArray, List.set_cons_zero, List.set_cons_succ]
    refine wpAnyH_take (i := 46) (oi := ⟨some 108, .load 24 (.tmp 3), 24, "law.go:39", #[⟨42, .guard⟩], some (42, true)⟩) (v := .agg (([.slice A n c, .int .i64 fr] : List Value)).toArray) rfl (by kernel_rfl) (by kernel_rfl) (by kernel_rfl) (fun _ _ _ h => h) (yieldsIf_load_mid (by rfl) _ _ (by rfl) (sa) 0 (by rfl) (([.slice A n c, .int .i64 fr] : List Value)) _ (fun wv hS => blk_rngl (blk_below Va.out hS (blk_lt Va.out))) Try.underlying24 (by rfl) (by kernel_rfl)) hS ?_
    try simp only [Act.put, List.setIfInBounds_toArray, List.set_cons_zero, List.set_cons_succ]
    refine wpAnyH_take (i := 47) (oi := ⟨some 109, .load 26 (.tmp 4), 26, "law.go:39", #[⟨42, .guard⟩], some (42, true)⟩) (v := .agg (([.int .i64 hd, .int .i64 tl] : List Value)).toArray) rfl (by kernel_rfl) (by kernel_rfl) (by kernel_rfl) (fun _ _ _ h => h) (yieldsIf_load_mid (by rfl) _ _ (by rfl) (sa + 1) 0 (by rfl) (([.int .i64 hd, .int .i64 tl] : List Value)) _ (fun wv hS => blk_rngl (blk_below Vq.out hS (blk_lt Vq.out))) Try.underlying26 (by rfl) (by kernel_rfl)) hS ?_
    try simp only [Act.put, List.setIfInBounds_toArray, List.set_cons_zero, List.set_cons_succ]
    refine wpAnyH_ready (rs := [45]) (by kernel_rfl) (by simp) (AllReadyH.cons (o := ⟨some 107, .call { callee := .value (.func 17), args := #[.tmp 105, .tmp 106], argTypes := #[24, 26] }, 37, "law.go:39", #[⟨43, .data⟩, ⟨44, .data⟩, ⟨42, .chain⟩, ⟨42, .guard⟩], some (42, true)⟩) rfl (fun K hK => ?_) AllReadyH.nil)
    go_simp
    refine (c7.out _ _ _ (Es.below RX.out hS)).mono ?_; rintro e u45 ⟨AJ1, nJ1, eJ1, rfl, his, hb⟩
    have J1 := Lib.hid his; clear his
    replace hS := hS.trans (hb.mono hS.size)
    clear hb
    go_wp2_with fail
    refine Shut.out hK _ _ hS (fun _ => ?_)
    clear hK K
    try simp only [Act.put, List.setIfInBounds_toArray, List.set_cons_zero, List.set_cons_succ]
    refine wpAnyH_ready (rs := [48]) (by kernel_rfl) (by simp) (AllReadyH.cons (o := ⟨some 110, .call { callee := .value (.func 18), args := #[.tmp 108, .tmp 109], argTypes := #[24, 26] }, 37, "law.go:39", #[⟨46, .data⟩, ⟨47, .data⟩, ⟨45, .chain⟩, ⟨42, .guard⟩], some (42, true)⟩) rfl (fun K hK => ?_) AllReadyH.nil)
    go_simp
    refine (c8.out _ _ _ (Es.below RX.out hS)).mono ?_; rintro e u48 ⟨AJ2, nJ2, eJ2, rfl, his, hb⟩
    have J2 := Lib.hid his; clear his
    replace J1 := Lib.hid (Es.below J1.out hb)
    replace hS := hS.trans (hb.mono hS.size)
    clear hb
    go_wp2_with fail
    refine Shut.out hK _ _ hS (fun _ => ?_)
    clear hK K
    try simp only [Act.put, List.setIfInBounds_toArray, List.set_cons_zero, List.set_cons_succ]
    refine wpAnyH_ready (rs := [49]) (by kernel_rfl) (by simp) (AllReadyH.cons (o := ⟨some 111, .call { callee := .value (.func 16), args := #[.tmp 107, .tmp 110], argTypes := #[37, 37] }, 4, "law.go:39", #[⟨45, .data⟩, ⟨48, .data⟩, ⟨48, .chain⟩, ⟨42, .guard⟩], some (42, true)⟩) rfl (fun K hK => ?_) AllReadyH.nil)
    go_simp
    refine (c13.out _ _ _ _ _ _ _ _ J1.out J2.out htl).mono ?_; rintro e u49 ⟨rfl, hb⟩
    replace hS := hS.trans (hb.mono hS.size)
    clear hb
    go_wp2_with fail
    refine Shut.out hK _ _ hS (fun _ => ?_)
    clear hK K
    try simp only [Act.put, List.setIfInBounds_toArray, List.set_cons_zero, List.set_cons_succ]
    refine wpAnyH_take (i := 50) (oi := ⟨some 112, .pick (.tmp 104) (.tmp 111) (.const (Value.bool false)), 4, "law.go:39", #[⟨42, .data⟩, ⟨49, .data⟩], none⟩) (v := ?_) rfl (by kernel_rfl) (by kernel_rfl) (by kernel_rfl) (fun _ _ _ h => h) (Or.inl ⟨by rfl, ?_⟩) hS ?_
    rotate_left
    · intro wv _; go_simp; try with_reducible rfl
    try simp only [Act.put, List.setIfInBounds_toArray, List.set_cons_zero, List.set_cons_succ]
    refine wpAnyH_take (i := 51) (oi := ⟨some 113, .move (.tmp 112), 4, "law.go:39", #[⟨50, .data⟩, ⟨49, .chain⟩], none⟩) (v := ?_) rfl (by kernel_rfl) (by kernel_rfl) (by kernel_rfl) (fun _ _ _ h => h) (Or.inl ⟨by rfl, ?_⟩) hS ?_
    rotate_left
    · intro wv _; go_simp; try with_reducible rfl
    try simp only [Act.put, List.setIfInBounds_toArray, List.set_cons_zero, List.set_cons_succ]
    refine wpAnyH_take (i := 52) (oi := ⟨some 114, .load 24 (.tmp 3), 24, "law.go:39", #[⟨51, .guard⟩], some (51, true)⟩) (v := .agg (([.slice A n c, .int .i64 fr] : List Value)).toArray) rfl (by kernel_rfl) (by kernel_rfl) (by kernel_rfl) (fun _ _ _ h => h) (yieldsIf_load_mid (by rfl) _ _ (by rfl) (sa) 0 (by rfl) (([.slice A n c, .int .i64 fr] : List Value)) _ (fun wv hS => blk_rngl (blk_below Va.out hS (blk_lt Va.out))) Try.underlying24 (by rfl) (by kernel_rfl)) hS ?_
    try simp only [Act.put, List.setIfInBounds_toArray, List.set_cons_zero, List.set_cons_succ]
    refine wpAnyH_take (i := 53) (oi := ⟨some 115, .load 26 (.tmp 4), 26, "law.go:39", #[⟨51, .guard⟩], some (51, true)⟩) (v := .agg (([.int .i64 hd, .int .i64 tl] : List Value)).toArray) rfl (by kernel_rfl) (by kernel_rfl) (by kernel_rfl) (fun _ _ _ h => h) (yieldsIf_load_mid (by rfl) _ _ (by rfl) (sa + 1) 0 (by rfl) (([.int .i64 hd, .int .i64 tl] : List Value)) _ (fun wv hS => blk_rngl (blk_below Vq.out hS (blk_lt Vq.out))) Try.underlying26 (by rfl) (by kernel_rfl)) hS ?_
    try simp only [Act.put, List.setIfInBounds_toArray, List.set_cons_zero, List.set_cons_succ]
    refine wpAnyH_take (i := 55) (oi := ⟨some 117, .load 24 (.tmp 3), 24, "law.go:39", #[⟨51, .guard⟩], some (51, true)⟩) (v := .agg (([.slice A n c, .int .i64 fr] : List Value)).toArray) rfl (by kernel_rfl) (by kernel_rfl) (by kernel_rfl) (fun _ _ _ h => h) (yieldsIf_load_mid (by rfl) _ _ (by rfl) (sa) 0 (by rfl) (([.slice A n c, .int .i64 fr] : List Value)) _ (fun wv hS => blk_rngl (blk_below Va.out hS (blk_lt Va.out))) Try.underlying24 (by rfl) (by kernel_rfl)) hS ?_
    try simp only [Act.put, List.setIfInBounds_toArray, List.set_cons_zero, List.set_cons_succ]
    refine wpAnyH_take (i := 56) (oi := ⟨some 118, .load 26 (.tmp 4), 26, "law.go:39", #[⟨51, .guard⟩], some (51, true)⟩) (v := .agg (([.int .i64 hd, .int .i64 tl] : List Value)).toArray) rfl (by kernel_rfl) (by kernel_rfl) (by kernel_rfl) (fun _ _ _ h => h) (yieldsIf_load_mid (by rfl) _ _ (by rfl) (sa + 1) 0 (by rfl) (([.int .i64 hd, .int .i64 tl] : List Value)) _ (fun wv hS => blk_rngl (blk_below Vq.out hS (blk_lt Vq.out))) Try.underlying26 (by rfl) (by kernel_rfl)) hS ?_
    try simp only [Act.put, List.setIfInBounds_toArray, List.set_cons_zero, List.set_cons_succ]
    refine wpAnyH_ready (rs := [54]) (by kernel_rfl) (by simp) (AllReadyH.cons (o := ⟨some 116, .call { callee := .value (.func 19), args := #[.tmp 114, .tmp 115], argTypes := #[24, 26] }, 37, "law.go:39", #[⟨52, .data⟩, ⟨53, .data⟩, ⟨51, .chain⟩, ⟨51, .guard⟩], some (51, true)⟩) rfl (fun K hK => ?_) AllReadyH.nil)
    go_simp
    refine (c9.out _ _ _ (Es.below RX.out hS)).mono ?_; rintro e u54 ⟨AK1, nK1, eK1, rfl, his, hb⟩
    have K1 := Lib.hid his; clear his
    replace hS := hS.trans (hb.mono hS.size)
    clear hb
    go_wp2_with fail
    refine Shut.out hK _ _ hS (fun _ => ?_)
    clear hK K
    try simp only [Act.put, List.setIfInBounds_toArray, List.set_cons_zero, List.set_cons_succ]
    refine wpAnyH_ready (rs := [57]) (by kernel_rfl) (by simp) (AllReadyH.cons (o := ⟨some 119, .call { callee := .value (.func 20), args := #[.tmp 117, .tmp 118], argTypes := #[24, 26] }, 37, "law.go:39", #[⟨55, .data⟩, ⟨56, .data⟩, ⟨54, .chain⟩, ⟨51, .guard⟩], some (51, true)⟩) rfl (fun K hK => ?_) AllReadyH.nil)
    go_simp
    refine (c10.out _ _ _ (Es.below RX.out hS)).mono ?_; rintro e u57 ⟨AK2, nK2, eK2, rfl, his, hb⟩
    have K2 := Lib.hid his; clear his
    replace K1 := Lib.hid (Es.below K1.out hb)
    replace hS := hS.trans (hb.mono hS.size)
    clear hb
    go_wp2_with fail
    refine Shut.out hK _ _ hS (fun _ => ?_)
    clear hK K
    try simp only [Act.put, List.setIfInBounds_toArray, List.set_cons_zero, List.set_cons_succ]
    refine wpAnyH_ready (rs := [58]) (by kernel_rfl) (by simp) (AllReadyH.cons (o := ⟨some 120, .call { callee := .value (.func 16), args := #[.tmp 116, .tmp 119], argTypes := #[37, 37] }, 4, "law.go:39", #[⟨54, .data⟩, ⟨57, .data⟩, ⟨57, .chain⟩, ⟨51, .guard⟩], some (51, true)⟩) rfl (fun K hK => ?_) AllReadyH.nil)
    go_simp
    refine (c13.out _ _ _ _ _ _ _ _ K1.out K2.out hll).mono ?_; rintro e u58 ⟨rfl, hb⟩
    replace hS := hS.trans (hb.mono hS.size)
    clear hb
    go_wp2_with fail
    refine Shut.out hK _ _ hS (fun _ => ?_)
    clear hK K
    try simp only [Act.put, List.setIfInBounds_toArray, List.set_cons_zero, List.set_cons_succ]
    refine wpAnyH_take (i := 59) (oi := ⟨some 121, .pick (.tmp 113) (.tmp 120) (.const (Value.bool false)), 4, "law.go:39", #[⟨51, .data⟩, ⟨58, .data⟩], none⟩) (v := ?_) rfl (by kernel_rfl) (by kernel_rfl) (by kernel_rfl) (fun _ _ _ h => h) (Or.inl ⟨by rfl, ?_⟩) hS ?_
    rotate_left
    · intro wv _; go_simp; try with_reducible rfl
    try simp only [Act.put, List.setIfInBounds_toArray, List.set_cons_zero, List.set_cons_succ]
    refine wpAnyH_take (i := 60) (oi := ⟨some 122, .move (.tmp 121), 4, "law.go:39", #[⟨59, .data⟩, ⟨58, .chain⟩], none⟩) (v := ?_) rfl (by kernel_rfl) (by kernel_rfl) (by kernel_rfl) (fun _ _ _ h => h) (Or.inl ⟨by rfl, ?_⟩) hS ?_
    rotate_left
    · intro wv _; go_simp; try with_reducible rfl
    try simp only [Act.put, List.setIfInBounds_toArray, List.set_cons_zero, List.set_cons_succ]
    refine wpAnyH_take (i := 61) (oi := ⟨some 123, .load 24 (.tmp 7), 24, "law.go:39", #[⟨60, .guard⟩], some (60, true)⟩) (v := .agg (([.slice B1 n d1, .int .i64 fr] : List Value)).toArray) rfl (by kernel_rfl) (by kernel_rfl) (by kernel_rfl) (fun _ _ _ h => h) (yieldsIf_load_mid (by rfl) _ _ (by rfl) (so) 0 (by rfl) (([.slice B1 n d1, .int .i64 fr] : List Value)) _ (fun wv hS => blk_rngl (blk_below Vo.out hS (blk_lt Vo.out))) Try.underlying24 (by rfl) (by kernel_rfl)) hS ?_
    try simp only [Act.put, List.setIfInBounds_toArray, List.set_cons_zero, List.set_cons_succ]
    refine wpAnyH_take (i := 62) (oi := ⟨some 124, .load 24 (.tmp 3), 24, "law.go:39", #[⟨60, .guard⟩], some (60, true)⟩) (v := .agg (([.slice A n c, .int .i64 fr] : List Value)).toArray) rfl (by kernel_rfl) (by kernel_rfl) (by kernel_rfl) (fun _ _ _ h => h) (yieldsIf_load_mid (by rfl) _ _ (by rfl) (sa) 0 (by rfl) (([.slice A n c, .int .i64 fr] : List Value)) _ (fun wv hS => blk_rngl (blk_below Va.out hS (blk_lt Va.out))) Try.underlying24 (by rfl) (by kernel_rfl)) hS ?_
    try simp only [Act.put, List.setIfInBounds_toArray, List.set_cons_zero, List.set_cons_succ]
    refine wpAnyH_ready (rs := [63]) (by kernel_rfl) (by simp) (AllReadyH.cons (o := ⟨some 125, .call { callee := .value (.func 13), args := #[.tmp 123, .tmp 124], argTypes := #[24, 24] }, 4, "law.go:39", #[⟨61, .data⟩, ⟨62, .data⟩, ⟨60, .chain⟩, ⟨60, .guard⟩], some (60, true)⟩) rfl (fun K hK => ?_) AllReadyH.nil)
    go_simp
    refine (c12.out _ _ _ _ _ _ _ _ _ hlen (Es.below R1.out hS) (Es.below RX.out hS)).mono ?_; rintro e u63 ⟨rfl, hb⟩
    replace hS := hS.trans (hb.mono hS.size)
    clear hb
    go_wp2_with fail
    refine Shut.out hK _ _ hS (fun _ => ?_)
    clear hK K
    try simp only [Act.put, List.setIfInBounds_toArray, List.set_cons_zero, List.set_cons_succ]
    refine wpAnyH_take (i := 64) (oi := ⟨some 126, .pick (.tmp 122) (.tmp 125) (.const (Value.bool false)), 4, "law.go:39", #[⟨60, .data⟩, ⟨63, .data⟩], none⟩) (v := ?_) rfl (by kernel_rfl) (by kernel_rfl) (by kernel_rfl) (fun _ _ _ h => h) (Or.inl ⟨by rfl, ?_⟩) hS ?_
    rotate_left
    · intro wv _; go_simp; try with_reducible rfl
    try simp only [Act.put, List.setIfInBounds_toArray, List.set_cons_zero, List.set_cons_succ]
    refine wpAnyH_take (i := 65) (oi := ⟨some 6, .assign (.tmp 126), 4, "law.go:39", ([⟨64, .data⟩, ⟨63, .chain⟩, ⟨0, .phase⟩, ⟨1, .phase⟩, ⟨2, .phase⟩, ⟨3, .phase⟩, ⟨4, .phase⟩, ⟨5, .phase⟩, ⟨6, .phase⟩, ⟨7, .phase⟩, ⟨8, .phase⟩, ⟨9, .phase⟩, ⟨10, .phase⟩, ⟨11, .phase⟩, ⟨12, .phase⟩, ⟨13, .phase⟩, ⟨14, .phase⟩, ⟨15, .phase⟩, ⟨16, .phase⟩, ⟨17, .phase⟩, ⟨18, .phase⟩, ⟨19, .phase⟩, ⟨20, .phase⟩, ⟨21, .phase⟩, ⟨22, .phase⟩, ⟨23, .phase⟩, ⟨24, .phase⟩, ⟨25, .phase⟩, ⟨26, .phase⟩, ⟨27, .phase⟩, ⟨28, .phase⟩, ⟨29, .phase⟩, ⟨30, .phase⟩].append [⟨31, .phase⟩, ⟨32, .phase⟩, ⟨33, .phase⟩, ⟨34, .phase⟩, ⟨35, .phase⟩, ⟨36, .phase⟩, ⟨37, .phase⟩, ⟨38, .phase⟩, ⟨39, .phase⟩, ⟨40, .phase⟩, ⟨41, .phase⟩, ⟨42, .phase⟩, ⟨43, .phase⟩, ⟨44, .phase⟩, ⟨45, .phase⟩, ⟨46, .phase⟩, ⟨47, .phase⟩, ⟨48, .phase⟩, ⟨49, .phase⟩, ⟨50, .phase⟩, ⟨51, .phase⟩, ⟨52, .phase⟩, ⟨53, .phase⟩, ⟨54, .phase⟩, ⟨55, .phase⟩, ⟨56, .phase⟩, ⟨57, .phase⟩, ⟨58, .phase⟩, ⟨59, .phase⟩, ⟨60, .phase⟩, ⟨61, .phase⟩, ⟨62, .phase⟩, ⟨63, .phase⟩, ⟨64, .phase⟩]).toArray, none⟩) (v := ?_) rfl (by kernel_rfl) (by kernel_rfl) (by kernel_rfl) (fun _ _ _ h => h) (Or.inl ⟨by rfl, ?_⟩) hS ?_
    rotate_left
    · intro wv _; go_simp; try with_reducible rfl
    try simp only [Act.put, List.setIfInBounds_toArray, List.set_cons_zero, List.set_cons_succ]
    refine wpAnyH_done (by kernel_rfl) ?_ _
    refine NoPanic.normal ?_
    go_wp2
    go_ret
    exact ⟨rfl, HB.out.1.trans (hS.mono HB.out.2)⟩
end Go.Proofs.Ytombfempdfdeoaa
