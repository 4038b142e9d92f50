/- The fixed fact 'alive' of layer 8 is true, and writes nothing that was there; no condition. -/
import Derived.Test.YtombfempdfdeoaaQueP
namespace Go.Proofs.Ytombfempdfdeoaa
set_option linter.unusedVariables false
set_option linter.unusedSimpArgs false
open Go.RowKit
set_option maxRecDepth 100000 in
set_option maxHeartbeats 8000000 in
theorem alive8 (w : World) : Calls Try.prog 7 #[] w fun e w' => e = .returned (.bool true) ∧ Below w.heap.size w w' := by
  obtain ⟨z, hz⟩ : ∃ z : Int, z = 0 := ⟨0, rfl⟩
  have c1 : ∀ W, Calls Try.prog 23 #[.int .i64 3] W (fun e w' => ∃ B m d, e = .returned (.tuple #[.agg #[.slice B m d, .int .i64 z], .int .i64 0]) ∧ Rr w w' B m d [(-1, -1, 1), (-1, -1, 2), (-1, -1, -1)] ∧ Below W.heap.size W w') := fun W => by
    subst hz
    refine (refMake_own 3 W (by decide) (by decide)).mono ?_
    rw [show arMake 3 = (([(-1, -1, 1), (-1, -1, 2), (-1, -1, -1)], 0), 0) by kernel_rfl]
    rintro e w' ⟨B, m, d, h1, h2, h3⟩
    exact ⟨B, m, d, h1, Ro.of_own h2 (recC_one _), h3⟩
  have c2 : ∀ B m d W, Rr w W B m d [(-1, -1, 1), (-1, -1, 2), (-1, -1, -1)] → Calls Try.prog 21 #[.agg #[.slice B m d, .int .i64 z], .agg #[.int .i64 (-1), .int .i64 (-1)], .int .i64 5, .int .i64 1, .bool false] W (QAs w W [(5, 1, -1), (-1, -1, 2), (-1, -1, -1)] 1 z z 0) := fun B m d W hx => by
    subst hz
    exact pushAs 5 1 false hx (by have := hx.es.len; rw [recC_len] at this; simp at this; omega) (by kernel_rfl)
  have c3 : ∀ B m d W, Rr w W B m d [(5, 1, -1), (-1, -1, 2), (-1, -1, -1)] → Calls Try.prog 21 #[.agg #[.slice B m d, .int .i64 1], .agg #[.int .i64 z, .int .i64 z], .int .i64 5, .int .i64 2, .bool false] W (QAs w W [(5, 1, 1), (5, 2, -1), (-1, -1, -1)] 2 z 1 0) := fun B m d W hx => by
    subst hz
    exact pushAs 5 2 false hx (by have := hx.es.len; rw [recC_len] at this; simp at this; omega) (by kernel_rfl)
  have c4 : ∀ B m d W, Rr w W B m d [(5, 1, 1), (5, 2, -1), (-1, -1, -1)] → Calls Try.prog 21 #[.agg #[.slice B m d, .int .i64 2], .agg #[.int .i64 z, .int .i64 1], .int .i64 5, .int .i64 3, .bool true] W (QAs w W [(5, 1, 1), (5, 2, -1), (5, 3, 0)] (-1) 2 1 0) := fun B m d W hx => by
    subst hz
    exact pushAs 5 3 true hx (by have := hx.es.len; rw [recC_len] at this; simp at this; omega) (by kernel_rfl)
  have c5 : ∀ B m d W, Rr w W B m d [(5, 1, 1), (5, 2, -1), (5, 3, 0)] → Calls Try.prog 21 #[.agg #[.slice B m d, .int .i64 (-1)], .agg #[.int .i64 2, .int .i64 1], .int .i64 5, .int .i64 4, .bool true] W (QAs w W [(5, 1, 1), (5, 2, -1), (5, 3, 0)] (-1) 2 1 6) := fun B m d W hx => by
    subst hz
    exact pushAs 5 4 true hx (by have := hx.es.len; rw [recC_len] at this; simp at this; omega) (by kernel_rfl)
  have c6 : ∀ B m d W, Rr w W B m d [(5, 1, 1), (5, 2, -1), (5, 3, 0)] → Calls Try.prog 11 #[.agg #[.slice B m d, .int .i64 (-1)], .agg #[.int .i64 2, .int .i64 1], .int .i64 1] W (QAs w W [(-1, -1, -1), (5, 2, -1), (5, 3, 1)] z 2 1 0) := fun B m d W hx => by
    subst hz
    exact dropAs 1 hx (by have := hx.es.len; rw [recC_len] at this; simp at this; omega) (by kernel_rfl)
  have c7 : ∀ B m d W, Rr w W B m d [(-1, -1, -1), (5, 2, -1), (5, 3, 1)] → Calls Try.prog 9 #[.agg #[.slice B m d, .int .i64 z], .agg #[.int .i64 2, .int .i64 1]] W (PAs w W [(-1, -1, -1), (5, 2, -1), (-1, -1, 0)] 2 1 1 3 0) := fun B m d W hx => by
    subst hz
    exact popAs hx (by have := hx.es.len; rw [recC_len] at this; simp at this; omega) (by kernel_rfl)
  have c8 : ∀ B m d W, Rr w W B m d [(5, 1, 1), (5, 2, -1), (5, 3, 0)] → Calls Try.prog 9 #[.agg #[.slice B m d, .int .i64 (-1)], .agg #[.int .i64 (-1), .int .i64 (-1)]] W (PAs w W [(5, 1, 1), (5, 2, -1), (5, 3, 0)] (-1) (-1) (-1) 0 7) := fun B m d W hx => by
    subst hz
    exact popAs hx (by have := hx.es.len; rw [recC_len] at this; simp at this; omega) (by kernel_rfl)
  have c9 : ∀ B m d W, Rr w W B m d [(5, 1, 1), (5, 2, -1), (5, 3, 0)] → Calls Try.prog 17 #[.agg #[.slice B m d, .int .i64 (-1)], .agg #[.int .i64 2, .int .i64 1]] W (IntsPost W [3, 1, 2]) := fun B m d W hx => by
    subst hz
    exact tasksAs hx (by have := hx.es.len; rw [recC_len] at this; simp at this; omega) (by kernel_rfl)
  have c10 : ∀ B m d W, Rr w W B m d [(5, 1, 1), (5, 2, -1), (5, 3, 0)] → Calls Try.prog 19 #[.agg #[.slice B m d, .int .i64 (-1)], .agg #[.int .i64 2, .int .i64 1]] W (IntsPost W [2, 0, 1]) := fun B m d W hx => by
    subst hz
    exact placesAs hx (by have := hx.es.len; rw [recC_len] at this; simp at this; omega) (by kernel_rfl)
  have c11 : ∀ B m d W, Rr w W B m d [(-1, -1, -1), (5, 2, -1), (5, 3, 1)] → Calls Try.prog 17 #[.agg #[.slice B m d, .int .i64 z], .agg #[.int .i64 2, .int .i64 1]] W (IntsPost W [3, 2]) := fun B m d W hx => by
    subst hz
    exact tasksAs hx (by have := hx.es.len; rw [recC_len] at this; simp at this; omega) (by kernel_rfl)
  have c12 : ∀ B m d W, Rr w W B m d [(-1, -1, -1), (5, 2, -1), (-1, -1, 0)] → Calls Try.prog 17 #[.agg #[.slice B m d, .int .i64 2], .agg #[.int .i64 1, .int .i64 1]] W (IntsPost W [2]) := fun B m d W hx => by
    subst hz
    exact tasksAs hx (by have := hx.es.len; rw [recC_len] at this; simp at this; omega) (by kernel_rfl)
  have c13 : ∀ B m d W, Rr w W B m d [(-1, -1, -1), (5, 2, -1), (-1, -1, 0)] → Calls Try.prog 14 #[.agg #[.slice B m d, .int .i64 2], .agg #[.int .i64 1, .int .i64 1]] W (YesPost W true) := fun B m d W hx => by
    subst hz
    exact rightAs hx (by have := hx.es.len; rw [recC_len] at this; simp at this; omega) (by kernel_rfl)
  have c14 : ∀ B m d W, Rr w W B m d [(-1, -1, -1), (5, 2, -1), (-1, -1, 0)] → Calls Try.prog 14 #[.agg #[.slice B m d, .int .i64 2], .agg #[.int .i64 2, .int .i64 1]] W (YesPost W false) := fun B m d W hx => by
    subst hz
    exact rightAs hx (by have := hx.es.len; rw [recC_len] at this; simp at this; omega) (by kernel_rfl)
  have c15 : ∀ B m d W, Rr w W B m d [(5, 1, 1), (5, 2, -1), (5, 3, 0)] → Calls Try.prog 8 #[.agg #[.slice B m d, .int .i64 (-1)]] W (fun e w' => ∃ B2 d2, e = .returned (.agg #[.slice B2 m d2, .int .i64 (-1)]) ∧ Rr w w' B2 m d2 [(5, 1, 1), (5, 2, -1), (5, 3, 0)] ∧ Below W.heap.size W w') := fun B m d W hx => copyAs hx.es (by have := hx.es.len; rw [recC_len] at this; simp at this; omega)
  have c16 : ∀ (xs : List Int) (A B : Option Addr) (n c m d : Nat) W, Is W A n c xs → Is W B m d xs → xs.length ≤ 100 → Calls Try.prog 16 #[.slice A n c, .slice B m d] W (YesPost W true) := fun xs A B n c m d W h1 h2 h3 => intsTrue xs h1 h2 (by omega)
  clear hz
  have HB := Lib.hid (And.intro (Below.refl w.heap.size w) (Nat.le_refl w.heap.size))
  replace c1 := Lib.hid c1
  replace c2 := Lib.hid c2
  replace c3 := Lib.hid c3
  replace c4 := Lib.hid c4
  replace c5 := Lib.hid c5
  replace c6 := Lib.hid c6
  replace c7 := Lib.hid c7
  replace c8 := Lib.hid c8
  replace c9 := Lib.hid c9
  replace c10 := Lib.hid c10
  replace c11 := Lib.hid c11
  replace c12 := Lib.hid c12
  replace c13 := Lib.hid c13
  replace c14 := Lib.hid c14
  replace c15 := Lib.hid c15
  replace c16 := Lib.hid c16
  go_enter Try.func7, Try.ntmps7
  go_wp2_with fail
  refine (c1.out _).mono ?_
  rintro e w1 ⟨B1, m1, d1, rfl, hrs, hb⟩
  replace HB := Lib.hid (And.intro (HB.out.1.trans (hb.mono HB.out.2)) (Nat.le_trans HB.out.2 hb.size))
  have Ra := Lib.hid hrs
  clear hrs
  clear hb
  have gq := HB.out.2
  obtain ⟨w2, hw2⟩ : ∃ W, (w1.alloc (.cells #[.slice B1 m1 d1, .int .i64 z] 24)) = W := ⟨_, rfl⟩
  have hb : Below w1.heap.size w1 w2 := hw2 ▸ ((Below.refl _ _).alloc (Nat.le_refl _) _)
  have hv0 : w2.heap[w1.heap.size]? = some (.cells #[.slice B1 m1 d1, .int .i64 z] 24) := by
    have h0 := heap_alloc_new w1 (.cells #[.slice B1 m1 d1, .int .i64 z] 24)
    rw [show w1.heap.size = w1.heap.size by simp [Nat.add_assoc]] at h0
    rw [← hw2]
    exact h0
  replace Ra := Lib.hid (Ro.below Ra.out hb)
  replace HB := Lib.hid (And.intro (HB.out.1.trans (hb.mono HB.out.2)) (Nat.le_trans HB.out.2 hb.size))
  have Va := Lib.hid hv0
  have gea : w.heap.size ≤ w1.heap.size := gq
  generalize hsa : w1.heap.size = sa at *
  clear hb gq hv0
  have lta := blk_lt Va.out
  have gq := HB.out.2
  obtain ⟨w3, hw3⟩ : ∃ W, (w2.alloc (.cells #[.int .i64 (-1), .int .i64 (-1)] 26)) = W := ⟨_, rfl⟩
  have hb : Below w2.heap.size w2 w3 := hw3 ▸ ((Below.refl _ _).alloc (Nat.le_refl _) _)
  have hv0 : w3.heap[w2.heap.size]? = some (.cells #[.int .i64 (-1), .int .i64 (-1)] 26) := by
    have h0 := heap_alloc_new w2 (.cells #[.int .i64 (-1), .int .i64 (-1)] 26)
    rw [show w2.heap.size = w2.heap.size by simp [Nat.add_assoc]] at h0
    rw [← hw3]
    exact h0
  replace Va := Lib.hid (blk_below Va.out hb (blk_lt Va.out))
  replace Ra := Lib.hid (Ro.below Ra.out hb)
  replace HB := Lib.hid (And.intro (HB.out.1.trans (hb.mono HB.out.2)) (Nat.le_trans HB.out.2 hb.size))
  have Vq := Lib.hid hv0
  have nea_q := Nat.ne_of_lt lta
  have geq : w.heap.size ≤ w2.heap.size := gq
  generalize hsq : w2.heap.size = sq at *
  clear hb gq hv0 lta
  have ca0 : w3.cell? ⟨sa, 0, none⟩ = some (.slice B1 m1 d1) := (blk_cell Va.out 0).trans rfl
  have ca1 : w3.cell? ⟨sa, 1, none⟩ = some (.int .i64 z) := (blk_cell Va.out 1).trans rfl
  have cq0 : w3.cell? ⟨sq, 0, none⟩ = some (.int .i64 (-1)) := (blk_cell Vq.out 0).trans rfl
  have cq1 : w3.cell? ⟨sq, 1, none⟩ = some (.int .i64 (-1)) := (blk_cell Vq.out 1).trans rfl
  go_wp2_with fail
  refine (c2.out _ _ _ _ Ra.out).mono ?_
  rintro e w4 ⟨B2, m2, d2, rfl, hrs, hb⟩
  clear ca0 ca1 cq0 cq1
  replace Va := Lib.hid (blk_below Va.out hb (blk_lt Va.out))
  replace Vq := Lib.hid (blk_below Vq.out hb (blk_lt Vq.out))
  replace Ra := Lib.hid (Ro.below Ra.out hb)
  replace HB := Lib.hid (And.intro (HB.out.1.trans (hb.mono HB.out.2)) (Nat.le_trans HB.out.2 hb.size))
  have Rb := Lib.hid hrs
  clear hrs
  clear hb
  clear Ra
  have pca0 : w4.cell? ⟨sa, 0, none⟩ = some (.slice B1 m1 d1) := (blk_cell Va.out 0).trans rfl
  have pfa0 : w4.frozen? ⟨sa, 0, none⟩ = false := blk_frozen Va.out 0
  have pca1 : w4.cell? ⟨sa, 1, none⟩ = some (.int .i64 z) := (blk_cell Va.out 1).trans rfl
  have pfa1 : w4.frozen? ⟨sa, 1, none⟩ = false := blk_frozen Va.out 1
  obtain ⟨w5, hw5⟩ : ∃ W, (w4.setCell ⟨sa, 0, none⟩ (.slice B2 m2 d2)).setCell ⟨sa, 1, none⟩ (.int .i64 1) = W := ⟨_, rfl⟩
  replace Rb := Lib.hid (hw5 ▸ Rb.out.pair Va.out (by decide) gea (.slice B2 m2 d2) (.int .i64 1))
  replace Vq := Lib.hid (hw5 ▸ keep_pair Vq.out nea_q.symm (.slice B2 m2 d2) (.int .i64 1))
  replace Va := Lib.hid (hw5 ▸ blk_pair Va.out (.slice B2 m2 d2) (.int .i64 1))
  have hbb : Below _ _ w5 := hw5 ▸ bel_pair HB.out.1 gea (.slice B2 m2 d2) (.int .i64 1)
  have hbs : w5.heap.size = w4.heap.size := by rw [← hw5]; simp [World.setCell]
  replace HB := Lib.hid (And.intro hbb (show _ ≤ w5.heap.size by rw [hbs]; exact HB.out.2))
  clear hbb hbs
  have pcq0 : w5.cell? ⟨sq, 0, none⟩ = some (.int .i64 (-1)) := (blk_cell Vq.out 0).trans rfl
  have pfq0 : w5.frozen? ⟨sq, 0, none⟩ = false := blk_frozen Vq.out 0
  have pcq1 : w5.cell? ⟨sq, 1, none⟩ = some (.int .i64 (-1)) := (blk_cell Vq.out 1).trans rfl
  have pfq1 : w5.frozen? ⟨sq, 1, none⟩ = false := blk_frozen Vq.out 1
  obtain ⟨w6, hw6⟩ : ∃ W, (w5.setCell ⟨sq, 0, none⟩ (.int .i64 z)).setCell ⟨sq, 1, none⟩ (.int .i64 z) = W := ⟨_, rfl⟩
  replace Rb := Lib.hid (hw6 ▸ Rb.out.pair Vq.out (by decide) geq (.int .i64 z) (.int .i64 z))
  replace Va := Lib.hid (hw6 ▸ keep_pair Va.out nea_q (.int .i64 z) (.int .i64 z))
  replace Vq := Lib.hid (hw6 ▸ blk_pair Vq.out (.int .i64 z) (.int .i64 z))
  have hbb : Below _ _ w6 := hw6 ▸ bel_pair HB.out.1 geq (.int .i64 z) (.int .i64 z)
  have hbs : w6.heap.size = w5.heap.size := by rw [← hw6]; simp [World.setCell]
  replace HB := Lib.hid (And.intro hbb (show _ ≤ w6.heap.size by rw [hbs]; exact HB.out.2))
  clear hbb hbs
  have ca0 : w6.cell? ⟨sa, 0, none⟩ = some (.slice B2 m2 d2) := (blk_cell Va.out 0).trans rfl
  have ca1 : w6.cell? ⟨sa, 1, none⟩ = some (.int .i64 1) := (blk_cell Va.out 1).trans rfl
  have cq0 : w6.cell? ⟨sq, 0, none⟩ = some (.int .i64 z) := (blk_cell Vq.out 0).trans rfl
  have cq1 : w6.cell? ⟨sq, 1, none⟩ = some (.int .i64 z) := (blk_cell Vq.out 1).trans rfl
  go_wp2_with fail
  refine (c3.out _ _ _ _ Rb.out).mono ?_
  rintro e w7 ⟨B3, m3, d3, rfl, hrs, hb⟩
  clear pca0 pfa0 pca1 pfa1 pcq0 pfq0 pcq1 pfq1 ca0 ca1 cq0 cq1
  replace Va := Lib.hid (blk_below Va.out hb (blk_lt Va.out))
  replace Vq := Lib.hid (blk_below Vq.out hb (blk_lt Vq.out))
  replace Rb := Lib.hid (Ro.below Rb.out hb)
  replace HB := Lib.hid (And.intro (HB.out.1.trans (hb.mono HB.out.2)) (Nat.le_trans HB.out.2 hb.size))
  have Ra := Lib.hid hrs
  clear hrs
  clear hb
  clear Rb
  have pca0 : w7.cell? ⟨sa, 0, none⟩ = some (.slice B2 m2 d2) := (blk_cell Va.out 0).trans rfl
  have pfa0 : w7.frozen? ⟨sa, 0, none⟩ = false := blk_frozen Va.out 0
  have pca1 : w7.cell? ⟨sa, 1, none⟩ = some (.int .i64 1) := (blk_cell Va.out 1).trans rfl
  have pfa1 : w7.frozen? ⟨sa, 1, none⟩ = false := blk_frozen Va.out 1
  obtain ⟨w8, hw8⟩ : ∃ W, (w7.setCell ⟨sa, 0, none⟩ (.slice B3 m3 d3)).setCell ⟨sa, 1, none⟩ (.int .i64 2) = W := ⟨_, rfl⟩
  replace Ra := Lib.hid (hw8 ▸ Ra.out.pair Va.out (by decide) gea (.slice B3 m3 d3) (.int .i64 2))
  replace Vq := Lib.hid (hw8 ▸ keep_pair Vq.out nea_q.symm (.slice B3 m3 d3) (.int .i64 2))
  replace Va := Lib.hid (hw8 ▸ blk_pair Va.out (.slice B3 m3 d3) (.int .i64 2))
  have hbb : Below _ _ w8 := hw8 ▸ bel_pair HB.out.1 gea (.slice B3 m3 d3) (.int .i64 2)
  have hbs : w8.heap.size = w7.heap.size := by rw [← hw8]; simp [World.setCell]
  replace HB := Lib.hid (And.intro hbb (show _ ≤ w8.heap.size by rw [hbs]; exact HB.out.2))
  clear hbb hbs
  have pcq0 : w8.cell? ⟨sq, 0, none⟩ = some (.int .i64 z) := (blk_cell Vq.out 0).trans rfl
  have pfq0 : w8.frozen? ⟨sq, 0, none⟩ = false := blk_frozen Vq.out 0
  have pcq1 : w8.cell? ⟨sq, 1, none⟩ = some (.int .i64 z) := (blk_cell Vq.out 1).trans rfl
  have pfq1 : w8.frozen? ⟨sq, 1, none⟩ = false := blk_frozen Vq.out 1
  obtain ⟨w9, hw9⟩ : ∃ W, (w8.setCell ⟨sq, 0, none⟩ (.int .i64 z)).setCell ⟨sq, 1, none⟩ (.int .i64 1) = W := ⟨_, rfl⟩
  replace Ra := Lib.hid (hw9 ▸ Ra.out.pair Vq.out (by decide) geq (.int .i64 z) (.int .i64 1))
  replace Va := Lib.hid (hw9 ▸ keep_pair Va.out nea_q (.int .i64 z) (.int .i64 1))
  replace Vq := Lib.hid (hw9 ▸ blk_pair Vq.out (.int .i64 z) (.int .i64 1))
  have hbb : Below _ _ w9 := hw9 ▸ bel_pair HB.out.1 geq (.int .i64 z) (.int .i64 1)
  have hbs : w9.heap.size = w8.heap.size := by rw [← hw9]; simp [World.setCell]
  replace HB := Lib.hid (And.intro hbb (show _ ≤ w9.heap.size by rw [hbs]; exact HB.out.2))
  clear hbb hbs
  have ca0 : w9.cell? ⟨sa, 0, none⟩ = some (.slice B3 m3 d3) := (blk_cell Va.out 0).trans rfl
  have ca1 : w9.cell? ⟨sa, 1, none⟩ = some (.int .i64 2) := (blk_cell Va.out 1).trans rfl
  have cq0 : w9.cell? ⟨sq, 0, none⟩ = some (.int .i64 z) := (blk_cell Vq.out 0).trans rfl
  have cq1 : w9.cell? ⟨sq, 1, none⟩ = some (.int .i64 1) := (blk_cell Vq.out 1).trans rfl
  go_wp2_with fail
  refine (c4.out _ _ _ _ Ra.out).mono ?_
  rintro e w10 ⟨B4, m4, d4, rfl, hrs, hb⟩
  clear pca0 pfa0 pca1 pfa1 pcq0 pfq0 pcq1 pfq1 ca0 ca1 cq0 cq1
  replace Va := Lib.hid (blk_below Va.out hb (blk_lt Va.out))
  replace Vq := Lib.hid (blk_below Vq.out hb (blk_lt Vq.out))
  replace Ra := Lib.hid (Ro.below Ra.out hb)
  replace HB := Lib.hid (And.intro (HB.out.1.trans (hb.mono HB.out.2)) (Nat.le_trans HB.out.2 hb.size))
  have Rb := Lib.hid hrs
  clear hrs
  clear hb
  clear Ra
  have pca0 : w10.cell? ⟨sa, 0, none⟩ = some (.slice B3 m3 d3) := (blk_cell Va.out 0).trans rfl
  have pfa0 : w10.frozen? ⟨sa, 0, none⟩ = false := blk_frozen Va.out 0
  have pca1 : w10.cell? ⟨sa, 1, none⟩ = some (.int .i64 2) := (blk_cell Va.out 1).trans rfl
  have pfa1 : w10.frozen? ⟨sa, 1, none⟩ = false := blk_frozen Va.out 1
  obtain ⟨w11, hw11⟩ : ∃ W, (w10.setCell ⟨sa, 0, none⟩ (.slice B4 m4 d4)).setCell ⟨sa, 1, none⟩ (.int .i64 (-1)) = W := ⟨_, rfl⟩
  replace Rb := Lib.hid (hw11 ▸ Rb.out.pair Va.out (by decide) gea (.slice B4 m4 d4) (.int .i64 (-1)))
  replace Vq := Lib.hid (hw11 ▸ keep_pair Vq.out nea_q.symm (.slice B4 m4 d4) (.int .i64 (-1)))
  replace Va := Lib.hid (hw11 ▸ blk_pair Va.out (.slice B4 m4 d4) (.int .i64 (-1)))
  have hbb : Below _ _ w11 := hw11 ▸ bel_pair HB.out.1 gea (.slice B4 m4 d4) (.int .i64 (-1))
  have hbs : w11.heap.size = w10.heap.size := by rw [← hw11]; simp [World.setCell]
  replace HB := Lib.hid (And.intro hbb (show _ ≤ w11.heap.size by rw [hbs]; exact HB.out.2))
  clear hbb hbs
  have pcq0 : w11.cell? ⟨sq, 0, none⟩ = some (.int .i64 z) := (blk_cell Vq.out 0).trans rfl
  have pfq0 : w11.frozen? ⟨sq, 0, none⟩ = false := blk_frozen Vq.out 0
  have pcq1 : w11.cell? ⟨sq, 1, none⟩ = some (.int .i64 1) := (blk_cell Vq.out 1).trans rfl
  have pfq1 : w11.frozen? ⟨sq, 1, none⟩ = false := blk_frozen Vq.out 1
  obtain ⟨w12, hw12⟩ : ∃ W, (w11.setCell ⟨sq, 0, none⟩ (.int .i64 2)).setCell ⟨sq, 1, none⟩ (.int .i64 1) = W := ⟨_, rfl⟩
  replace Rb := Lib.hid (hw12 ▸ Rb.out.pair Vq.out (by decide) geq (.int .i64 2) (.int .i64 1))
  replace Va := Lib.hid (hw12 ▸ keep_pair Va.out nea_q (.int .i64 2) (.int .i64 1))
  replace Vq := Lib.hid (hw12 ▸ blk_pair Vq.out (.int .i64 2) (.int .i64 1))
  have hbb : Below _ _ w12 := hw12 ▸ bel_pair HB.out.1 geq (.int .i64 2) (.int .i64 1)
  have hbs : w12.heap.size = w11.heap.size := by rw [← hw12]; simp [World.setCell]
  replace HB := Lib.hid (And.intro hbb (show _ ≤ w12.heap.size by rw [hbs]; exact HB.out.2))
  clear hbb hbs
  have ca0 : w12.cell? ⟨sa, 0, none⟩ = some (.slice B4 m4 d4) := (blk_cell Va.out 0).trans rfl
  have ca1 : w12.cell? ⟨sa, 1, none⟩ = some (.int .i64 (-1)) := (blk_cell Va.out 1).trans rfl
  have cq0 : w12.cell? ⟨sq, 0, none⟩ = some (.int .i64 2) := (blk_cell Vq.out 0).trans rfl
  have cq1 : w12.cell? ⟨sq, 1, none⟩ = some (.int .i64 1) := (blk_cell Vq.out 1).trans rfl
  go_wp2_with fail
  refine (c5.out _ _ _ _ Rb.out).mono ?_
  rintro e w13 ⟨B5, m5, d5, rfl, hrs, hb⟩
  clear pca0 pfa0 pca1 pfa1 pcq0 pfq0 pcq1 pfq1 ca0 ca1 cq0 cq1
  replace Va := Lib.hid (blk_below Va.out hb (blk_lt Va.out))
  replace Vq := Lib.hid (blk_below Vq.out hb (blk_lt Vq.out))
  replace Rb := Lib.hid (Ro.below Rb.out hb)
  replace HB := Lib.hid (And.intro (HB.out.1.trans (hb.mono HB.out.2)) (Nat.le_trans HB.out.2 hb.size))
  have Rx := Lib.hid hrs
  clear hrs
  clear hb
  have lta := blk_lt Va.out
  have ltq := blk_lt Vq.out
  have gq := HB.out.2
  obtain ⟨w14, hw14⟩ : ∃ W, ((w13.alloc (.cells #[.slice B5 m5 d5, .int .i64 (-1)] 24)).alloc (.cells #[.int .i64 2, .int .i64 1] 26)) = W := ⟨_, rfl⟩
  have hb : Below w13.heap.size w13 w14 := hw14 ▸ (((Below.refl _ _).alloc (Nat.le_refl _) _).alloc (by simp) _)
  have hv0 : w14.heap[w13.heap.size]? = some (.cells #[.slice B5 m5 d5, .int .i64 (-1)] 24) := by
    have h0 := heap_alloc_new w13 (.cells #[.slice B5 m5 d5, .int .i64 (-1)] 24)
    rw [show w13.heap.size = w13.heap.size by simp [Nat.add_assoc]] at h0
    rw [← hw14]
    rw [heap_alloc_old _ _ (by simp <;> omega)]; exact h0
  have hv1 : w14.heap[w13.heap.size + 1]? = some (.cells #[.int .i64 2, .int .i64 1] 26) := by
    have h0 := heap_alloc_new (w13.alloc (.cells #[.slice B5 m5 d5, .int .i64 (-1)] 24)) (.cells #[.int .i64 2, .int .i64 1] 26)
    rw [show (w13.alloc (.cells #[.slice B5 m5 d5, .int .i64 (-1)] 24)).heap.size = w13.heap.size + 1 by simp [Nat.add_assoc]] at h0
    rw [← hw14]
    exact h0
  replace Va := Lib.hid (blk_below Va.out hb (blk_lt Va.out))
  replace Vq := Lib.hid (blk_below Vq.out hb (blk_lt Vq.out))
  replace Rb := Lib.hid (Ro.below Rb.out hb)
  replace Rx := Lib.hid (Ro.below Rx.out hb)
  replace HB := Lib.hid (And.intro (HB.out.1.trans (hb.mono HB.out.2)) (Nat.le_trans HB.out.2 hb.size))
  have Vx := Lib.hid hv0
  have nea_x := Nat.ne_of_lt lta
  have neq_x := Nat.ne_of_lt ltq
  have gex : w.heap.size ≤ w13.heap.size := gq
  have Vy := Lib.hid hv1
  have nea_y := Nat.ne_of_lt (Nat.lt_of_lt_of_le lta (Nat.le_add_right w13.heap.size 1))
  have neq_y := Nat.ne_of_lt (Nat.lt_of_lt_of_le ltq (Nat.le_add_right w13.heap.size 1))
  have nex_y : w13.heap.size ≠ w13.heap.size + 1 := by omega
  have gey : w.heap.size ≤ w13.heap.size + 1 := Nat.le_trans gq (Nat.le_add_right _ _)
  generalize hsx : w13.heap.size = sx at *
  clear hb gq hv0 hv1 lta ltq
  clear Rx
  clear Vx Vy
  have ca0 : w14.cell? ⟨sa, 0, none⟩ = some (.slice B4 m4 d4) := (blk_cell Va.out 0).trans rfl
  have ca1 : w14.cell? ⟨sa, 1, none⟩ = some (.int .i64 (-1)) := (blk_cell Va.out 1).trans rfl
  have cq0 : w14.cell? ⟨sq, 0, none⟩ = some (.int .i64 2) := (blk_cell Vq.out 0).trans rfl
  have cq1 : w14.cell? ⟨sq, 1, none⟩ = some (.int .i64 1) := (blk_cell Vq.out 1).trans rfl
  go_wp2_with fail
  refine (c6.out _ _ _ _ Rb.out).mono ?_
  rintro e w15 ⟨B6, m6, d6, rfl, hrs, hb⟩
  clear ca0 ca1 cq0 cq1
  replace Va := Lib.hid (blk_below Va.out hb (blk_lt Va.out))
  replace Vq := Lib.hid (blk_below Vq.out hb (blk_lt Vq.out))
  replace Rb := Lib.hid (Ro.below Rb.out hb)
  replace HB := Lib.hid (And.intro (HB.out.1.trans (hb.mono HB.out.2)) (Nat.le_trans HB.out.2 hb.size))
  have Rd := Lib.hid hrs
  clear hrs
  clear hb
  have lta := blk_lt Va.out
  have ltq := blk_lt Vq.out
  have gq := HB.out.2
  obtain ⟨w16, hw16⟩ : ∃ W, ((w15.alloc (.cells #[.slice B6 m6 d6, .int .i64 z] 24)).alloc (.cells #[.int .i64 2, .int .i64 1] 26)) = W := ⟨_, rfl⟩
  have hb : Below w15.heap.size w15 w16 := hw16 ▸ (((Below.refl _ _).alloc (Nat.le_refl _) _).alloc (by simp) _)
  have hv0 : w16.heap[w15.heap.size]? = some (.cells #[.slice B6 m6 d6, .int .i64 z] 24) := by
    have h0 := heap_alloc_new w15 (.cells #[.slice B6 m6 d6, .int .i64 z] 24)
    rw [show w15.heap.size = w15.heap.size by simp [Nat.add_assoc]] at h0
    rw [← hw16]
    rw [heap_alloc_old _ _ (by simp <;> omega)]; exact h0
  have hv1 : w16.heap[w15.heap.size + 1]? = some (.cells #[.int .i64 2, .int .i64 1] 26) := by
    have h0 := heap_alloc_new (w15.alloc (.cells #[.slice B6 m6 d6, .int .i64 z] 24)) (.cells #[.int .i64 2, .int .i64 1] 26)
    rw [show (w15.alloc (.cells #[.slice B6 m6 d6, .int .i64 z] 24)).heap.size = w15.heap.size + 1 by simp [Nat.add_assoc]] at h0
    rw [← hw16]
    exact h0
  replace Va := Lib.hid (blk_below Va.out hb (blk_lt Va.out))
  replace Vq := Lib.hid (blk_below Vq.out hb (blk_lt Vq.out))
  replace Rb := Lib.hid (Ro.below Rb.out hb)
  replace Rd := Lib.hid (Ro.below Rd.out hb)
  replace HB := Lib.hid (And.intro (HB.out.1.trans (hb.mono HB.out.2)) (Nat.le_trans HB.out.2 hb.size))
  have Vb := Lib.hid hv0
  have nea_b := Nat.ne_of_lt lta
  have neq_b := Nat.ne_of_lt ltq
  have geb : w.heap.size ≤ w15.heap.size := gq
  have Vp := Lib.hid hv1
  have nea_p := Nat.ne_of_lt (Nat.lt_of_lt_of_le lta (Nat.le_add_right w15.heap.size 1))
  have neq_p := Nat.ne_of_lt (Nat.lt_of_lt_of_le ltq (Nat.le_add_right w15.heap.size 1))
  have neb_p : w15.heap.size ≠ w15.heap.size + 1 := by omega
  have gep : w.heap.size ≤ w15.heap.size + 1 := Nat.le_trans gq (Nat.le_add_right _ _)
  generalize hsb : w15.heap.size = sb at *
  clear hb gq hv0 hv1 lta ltq
  have cb0 : w16.cell? ⟨sb, 0, none⟩ = some (.slice B6 m6 d6) := (blk_cell Vb.out 0).trans rfl
  have cb1 : w16.cell? ⟨sb, 1, none⟩ = some (.int .i64 z) := (blk_cell Vb.out 1).trans rfl
  have cp0 : w16.cell? ⟨sb + 1, 0, none⟩ = some (.int .i64 2) := (blk_cell Vp.out 0).trans rfl
  have cp1 : w16.cell? ⟨sb + 1, 1, none⟩ = some (.int .i64 1) := (blk_cell Vp.out 1).trans rfl
  go_wp2_with fail
  refine (c7.out _ _ _ _ Rd.out).mono ?_
  rintro e w17 ⟨B7, m7, d7, rfl, hrs, hb⟩
  clear cb0 cb1 cp0 cp1
  replace Va := Lib.hid (blk_below Va.out hb (blk_lt Va.out))
  replace Vq := Lib.hid (blk_below Vq.out hb (blk_lt Vq.out))
  replace Vb := Lib.hid (blk_below Vb.out hb (blk_lt Vb.out))
  replace Vp := Lib.hid (blk_below Vp.out hb (blk_lt Vp.out))
  replace Rb := Lib.hid (Ro.below Rb.out hb)
  replace Rd := Lib.hid (Ro.below Rd.out hb)
  replace HB := Lib.hid (And.intro (HB.out.1.trans (hb.mono HB.out.2)) (Nat.le_trans HB.out.2 hb.size))
  have Re := Lib.hid hrs
  clear hrs
  clear hb
  have lta := blk_lt Va.out
  have ltq := blk_lt Vq.out
  have ltb := blk_lt Vb.out
  have ltp := blk_lt Vp.out
  have gq := HB.out.2
  obtain ⟨w18, hw18⟩ : ∃ W, ((w17.alloc (.cells #[.slice B7 m7 d7, .int .i64 2] 24)).alloc (.cells #[.int .i64 1, .int .i64 1] 26)) = W := ⟨_, rfl⟩
  have hb : Below w17.heap.size w17 w18 := hw18 ▸ (((Below.refl _ _).alloc (Nat.le_refl _) _).alloc (by simp) _)
  have hv0 : w18.heap[w17.heap.size]? = some (.cells #[.slice B7 m7 d7, .int .i64 2] 24) := by
    have h0 := heap_alloc_new w17 (.cells #[.slice B7 m7 d7, .int .i64 2] 24)
    rw [show w17.heap.size = w17.heap.size by simp [Nat.add_assoc]] at h0
    rw [← hw18]
    rw [heap_alloc_old _ _ (by simp <;> omega)]; exact h0
  have hv1 : w18.heap[w17.heap.size + 1]? = some (.cells #[.int .i64 1, .int .i64 1] 26) := by
    have h0 := heap_alloc_new (w17.alloc (.cells #[.slice B7 m7 d7, .int .i64 2] 24)) (.cells #[.int .i64 1, .int .i64 1] 26)
    rw [show (w17.alloc (.cells #[.slice B7 m7 d7, .int .i64 2] 24)).heap.size = w17.heap.size + 1 by simp [Nat.add_assoc]] at h0
    rw [← hw18]
    exact h0
  replace Va := Lib.hid (blk_below Va.out hb (blk_lt Va.out))
  replace Vq := Lib.hid (blk_below Vq.out hb (blk_lt Vq.out))
  replace Vb := Lib.hid (blk_below Vb.out hb (blk_lt Vb.out))
  replace Vp := Lib.hid (blk_below Vp.out hb (blk_lt Vp.out))
  replace Rb := Lib.hid (Ro.below Rb.out hb)
  replace Rd := Lib.hid (Ro.below Rd.out hb)
  replace Re := Lib.hid (Ro.below Re.out hb)
  replace HB := Lib.hid (And.intro (HB.out.1.trans (hb.mono HB.out.2)) (Nat.le_trans HB.out.2 hb.size))
  have Vc := Lib.hid hv0
  have nea_c := Nat.ne_of_lt lta
  have neq_c := Nat.ne_of_lt ltq
  have neb_c := Nat.ne_of_lt ltb
  have nep_c := Nat.ne_of_lt ltp
  have gec : w.heap.size ≤ w17.heap.size := gq
  have Vr := Lib.hid hv1
  have nea_r := Nat.ne_of_lt (Nat.lt_of_lt_of_le lta (Nat.le_add_right w17.heap.size 1))
  have neq_r := Nat.ne_of_lt (Nat.lt_of_lt_of_le ltq (Nat.le_add_right w17.heap.size 1))
  have neb_r := Nat.ne_of_lt (Nat.lt_of_lt_of_le ltb (Nat.le_add_right w17.heap.size 1))
  have nep_r := Nat.ne_of_lt (Nat.lt_of_lt_of_le ltp (Nat.le_add_right w17.heap.size 1))
  have nec_r : w17.heap.size ≠ w17.heap.size + 1 := by omega
  have ger : w.heap.size ≤ w17.heap.size + 1 := Nat.le_trans gq (Nat.le_add_right _ _)
  generalize hsc : w17.heap.size = sc at *
  clear hb gq hv0 hv1 lta ltq ltb ltp
  have ca0 : w18.cell? ⟨sa, 0, none⟩ = some (.slice B4 m4 d4) := (blk_cell Va.out 0).trans rfl
  have ca1 : w18.cell? ⟨sa, 1, none⟩ = some (.int .i64 (-1)) := (blk_cell Va.out 1).trans rfl
  go_wp2_with fail
  refine (c15.out _ _ _ _ Rb.out).mono ?_
  rintro e w19 ⟨B8, d8, rfl, hrs, hb⟩
  clear ca0 ca1
  replace Va := Lib.hid (blk_below Va.out hb (blk_lt Va.out))
  replace Vq := Lib.hid (blk_below Vq.out hb (blk_lt Vq.out))
  replace Vb := Lib.hid (blk_below Vb.out hb (blk_lt Vb.out))
  replace Vp := Lib.hid (blk_below Vp.out hb (blk_lt Vp.out))
  replace Vc := Lib.hid (blk_below Vc.out hb (blk_lt Vc.out))
  replace Vr := Lib.hid (blk_below Vr.out hb (blk_lt Vr.out))
  replace Rb := Lib.hid (Ro.below Rb.out hb)
  replace Rd := Lib.hid (Ro.below Rd.out hb)
  replace Re := Lib.hid (Ro.below Re.out hb)
  replace HB := Lib.hid (And.intro (HB.out.1.trans (hb.mono HB.out.2)) (Nat.le_trans HB.out.2 hb.size))
  have Rf := Lib.hid hrs
  clear hrs
  clear hb
  go_wp2_with fail
  refine (c8.out _ _ _ _ Rf.out).mono ?_
  rintro e w20 ⟨B9, m9, d9, rfl, hrs, hb⟩
  replace Va := Lib.hid (blk_below Va.out hb (blk_lt Va.out))
  replace Vq := Lib.hid (blk_below Vq.out hb (blk_lt Vq.out))
  replace Vb := Lib.hid (blk_below Vb.out hb (blk_lt Vb.out))
  replace Vp := Lib.hid (blk_below Vp.out hb (blk_lt Vp.out))
  replace Vc := Lib.hid (blk_below Vc.out hb (blk_lt Vc.out))
  replace Vr := Lib.hid (blk_below Vr.out hb (blk_lt Vr.out))
  replace Rb := Lib.hid (Ro.below Rb.out hb)
  replace Rd := Lib.hid (Ro.below Rd.out hb)
  replace Re := Lib.hid (Ro.below Re.out hb)
  replace Rf := Lib.hid (Ro.below Rf.out hb)
  replace HB := Lib.hid (And.intro (HB.out.1.trans (hb.mono HB.out.2)) (Nat.le_trans HB.out.2 hb.size))
  have Rg := Lib.hid hrs
  clear hrs
  clear hb
  clear Rf Rg
  have lta := blk_lt Va.out
  have ltq := blk_lt Vq.out
  have ltb := blk_lt Vb.out
  have ltp := blk_lt Vp.out
  have ltc := blk_lt Vc.out
  have ltr := blk_lt Vr.out
  have gq := HB.out.2
  obtain ⟨w21, hw21⟩ : ∃ W, ((w20.alloc (.cells #[.slice B9 m9 d9, .int .i64 (-1)] 24)).alloc (.cells #[.int .i64 (-1), .int .i64 (-1)] 26)) = W := ⟨_, rfl⟩
  have hb : Below w20.heap.size w20 w21 := hw21 ▸ (((Below.refl _ _).alloc (Nat.le_refl _) _).alloc (by simp) _)
  have hv0 : w21.heap[w20.heap.size]? = some (.cells #[.slice B9 m9 d9, .int .i64 (-1)] 24) := by
    have h0 := heap_alloc_new w20 (.cells #[.slice B9 m9 d9, .int .i64 (-1)] 24)
    rw [show w20.heap.size = w20.heap.size by simp [Nat.add_assoc]] at h0
    rw [← hw21]
    rw [heap_alloc_old _ _ (by simp <;> omega)]; exact h0
  have hv1 : w21.heap[w20.heap.size + 1]? = some (.cells #[.int .i64 (-1), .int .i64 (-1)] 26) := by
    have h0 := heap_alloc_new (w20.alloc (.cells #[.slice B9 m9 d9, .int .i64 (-1)] 24)) (.cells #[.int .i64 (-1), .int .i64 (-1)] 26)
    rw [show (w20.alloc (.cells #[.slice B9 m9 d9, .int .i64 (-1)] 24)).heap.size = w20.heap.size + 1 by simp [Nat.add_assoc]] at h0
    rw [← hw21]
    exact h0
  replace Va := Lib.hid (blk_below Va.out hb (blk_lt Va.out))
  replace Vq := Lib.hid (blk_below Vq.out hb (blk_lt Vq.out))
  replace Vb := Lib.hid (blk_below Vb.out hb (blk_lt Vb.out))
  replace Vp := Lib.hid (blk_below Vp.out hb (blk_lt Vp.out))
  replace Vc := Lib.hid (blk_below Vc.out hb (blk_lt Vc.out))
  replace Vr := Lib.hid (blk_below Vr.out hb (blk_lt Vr.out))
  replace Rb := Lib.hid (Ro.below Rb.out hb)
  replace Rd := Lib.hid (Ro.below Rd.out hb)
  replace Re := Lib.hid (Ro.below Re.out hb)
  replace HB := Lib.hid (And.intro (HB.out.1.trans (hb.mono HB.out.2)) (Nat.le_trans HB.out.2 hb.size))
  have Vu := Lib.hid hv0
  have nea_u := Nat.ne_of_lt lta
  have neq_u := Nat.ne_of_lt ltq
  have neb_u := Nat.ne_of_lt ltb
  have nep_u := Nat.ne_of_lt ltp
  have nec_u := Nat.ne_of_lt ltc
  have ner_u := Nat.ne_of_lt ltr
  have geu : w.heap.size ≤ w20.heap.size := gq
  have Vv := Lib.hid hv1
  have nea_v := Nat.ne_of_lt (Nat.lt_of_lt_of_le lta (Nat.le_add_right w20.heap.size 1))
  have neq_v := Nat.ne_of_lt (Nat.lt_of_lt_of_le ltq (Nat.le_add_right w20.heap.size 1))
  have neb_v := Nat.ne_of_lt (Nat.lt_of_lt_of_le ltb (Nat.le_add_right w20.heap.size 1))
  have nep_v := Nat.ne_of_lt (Nat.lt_of_lt_of_le ltp (Nat.le_add_right w20.heap.size 1))
  have nec_v := Nat.ne_of_lt (Nat.lt_of_lt_of_le ltc (Nat.le_add_right w20.heap.size 1))
  have ner_v := Nat.ne_of_lt (Nat.lt_of_lt_of_le ltr (Nat.le_add_right w20.heap.size 1))
  have neu_v : w20.heap.size ≠ w20.heap.size + 1 := by omega
  have gev : w.heap.size ≤ w20.heap.size + 1 := Nat.le_trans gq (Nat.le_add_right _ _)
  generalize hsu : w20.heap.size = su at *
  clear hb gq hv0 hv1 lta ltq ltb ltp ltc ltr
  clear Vu Vv
  have ca0 : w21.cell? ⟨sa, 0, none⟩ = some (.slice B4 m4 d4) := (blk_cell Va.out 0).trans rfl
  have ca1 : w21.cell? ⟨sa, 1, none⟩ = some (.int .i64 (-1)) := (blk_cell Va.out 1).trans rfl
  have cq0 : w21.cell? ⟨sq, 0, none⟩ = some (.int .i64 2) := (blk_cell Vq.out 0).trans rfl
  have cq1 : w21.cell? ⟨sq, 1, none⟩ = some (.int .i64 1) := (blk_cell Vq.out 1).trans rfl
  go_wp2_with fail
  refine (c9.out _ _ _ _ Rb.out).mono ?_
  rintro e w22 ⟨A1, n1, e1, rfl, his, hb⟩
  clear ca0 ca1 cq0 cq1
  replace Va := Lib.hid (blk_below Va.out hb (blk_lt Va.out))
  replace Vq := Lib.hid (blk_below Vq.out hb (blk_lt Vq.out))
  replace Vb := Lib.hid (blk_below Vb.out hb (blk_lt Vb.out))
  replace Vp := Lib.hid (blk_below Vp.out hb (blk_lt Vp.out))
  replace Vc := Lib.hid (blk_below Vc.out hb (blk_lt Vc.out))
  replace Vr := Lib.hid (blk_below Vr.out hb (blk_lt Vr.out))
  replace Rb := Lib.hid (Ro.below Rb.out hb)
  replace Rd := Lib.hid (Ro.below Rd.out hb)
  replace Re := Lib.hid (Ro.below Re.out hb)
  replace HB := Lib.hid (And.intro (HB.out.1.trans (hb.mono HB.out.2)) (Nat.le_trans HB.out.2 hb.size))
  clear hb
  have hz : Below _ _ _ := (Below.refl w22.heap.size w22).alloc (Nat.le_refl _) (.cells (intC [3, 1, 2]).toArray 3)
  have I1 := Lib.hid (Es.below his hz)
  have I2 := Lib.hid (is_lit w22 [3, 1, 2] rfl)
  clear his
  replace Va := Lib.hid (blk_below Va.out hz (blk_lt Va.out))
  replace Vq := Lib.hid (blk_below Vq.out hz (blk_lt Vq.out))
  replace Vb := Lib.hid (blk_below Vb.out hz (blk_lt Vb.out))
  replace Vp := Lib.hid (blk_below Vp.out hz (blk_lt Vp.out))
  replace Vc := Lib.hid (blk_below Vc.out hz (blk_lt Vc.out))
  replace Vr := Lib.hid (blk_below Vr.out hz (blk_lt Vr.out))
  replace Rb := Lib.hid (Ro.below Rb.out hz)
  replace Rd := Lib.hid (Ro.below Rd.out hz)
  replace Re := Lib.hid (Ro.below Re.out hz)
  replace HB := Lib.hid (And.intro (HB.out.1.trans (hz.mono HB.out.2)) (Nat.le_trans HB.out.2 hz.size))
  clear hz
  go_wp2_with fail
  refine (c16.out _ _ _ _ _ _ _ _ I1.out I2.out (by simp)).mono ?_
  rintro e w23 ⟨rfl, hb⟩
  replace Va := Lib.hid (blk_below Va.out hb (blk_lt Va.out))
  replace Vq := Lib.hid (blk_below Vq.out hb (blk_lt Vq.out))
  replace Vb := Lib.hid (blk_below Vb.out hb (blk_lt Vb.out))
  replace Vp := Lib.hid (blk_below Vp.out hb (blk_lt Vp.out))
  replace Vc := Lib.hid (blk_below Vc.out hb (blk_lt Vc.out))
  replace Vr := Lib.hid (blk_below Vr.out hb (blk_lt Vr.out))
  replace Rb := Lib.hid (Ro.below Rb.out hb)
  replace Rd := Lib.hid (Ro.below Rd.out hb)
  replace Re := Lib.hid (Ro.below Re.out hb)
  replace HB := Lib.hid (And.intro (HB.out.1.trans (hb.mono HB.out.2)) (Nat.le_trans HB.out.2 hb.size))
  clear hb
  clear I1 I2
  have ca0 : w23.cell? ⟨sa, 0, none⟩ = some (.slice B4 m4 d4) := (blk_cell Va.out 0).trans rfl
  have ca1 : w23.cell? ⟨sa, 1, none⟩ = some (.int .i64 (-1)) := (blk_cell Va.out 1).trans rfl
  have cq0 : w23.cell? ⟨sq, 0, none⟩ = some (.int .i64 2) := (blk_cell Vq.out 0).trans rfl
  have cq1 : w23.cell? ⟨sq, 1, none⟩ = some (.int .i64 1) := (blk_cell Vq.out 1).trans rfl
  go_wp2_with fail
  refine (c10.out _ _ _ _ Rb.out).mono ?_
  rintro e w24 ⟨A2, n2, e2, rfl, his, hb⟩
  clear ca0 ca1 cq0 cq1
  replace Va := Lib.hid (blk_below Va.out hb (blk_lt Va.out))
  replace Vq := Lib.hid (blk_below Vq.out hb (blk_lt Vq.out))
  replace Vb := Lib.hid (blk_below Vb.out hb (blk_lt Vb.out))
  replace Vp := Lib.hid (blk_below Vp.out hb (blk_lt Vp.out))
  replace Vc := Lib.hid (blk_below Vc.out hb (blk_lt Vc.out))
  replace Vr := Lib.hid (blk_below Vr.out hb (blk_lt Vr.out))
  replace Rb := Lib.hid (Ro.below Rb.out hb)
  replace Rd := Lib.hid (Ro.below Rd.out hb)
  replace Re := Lib.hid (Ro.below Re.out hb)
  replace HB := Lib.hid (And.intro (HB.out.1.trans (hb.mono HB.out.2)) (Nat.le_trans HB.out.2 hb.size))
  clear hb
  have hz : Below _ _ _ := (Below.refl w24.heap.size w24).alloc (Nat.le_refl _) (.cells (intC [2, 0, 1]).toArray 3)
  have I1 := Lib.hid (Es.below his hz)
  have I2 := Lib.hid (is_lit w24 [2, 0, 1] rfl)
  clear his
  replace Va := Lib.hid (blk_below Va.out hz (blk_lt Va.out))
  replace Vq := Lib.hid (blk_below Vq.out hz (blk_lt Vq.out))
  replace Vb := Lib.hid (blk_below Vb.out hz (blk_lt Vb.out))
  replace Vp := Lib.hid (blk_below Vp.out hz (blk_lt Vp.out))
  replace Vc := Lib.hid (blk_below Vc.out hz (blk_lt Vc.out))
  replace Vr := Lib.hid (blk_below Vr.out hz (blk_lt Vr.out))
  replace Rb := Lib.hid (Ro.below Rb.out hz)
  replace Rd := Lib.hid (Ro.below Rd.out hz)
  replace Re := Lib.hid (Ro.below Re.out hz)
  replace HB := Lib.hid (And.intro (HB.out.1.trans (hz.mono HB.out.2)) (Nat.le_trans HB.out.2 hz.size))
  clear hz
  go_wp2_with fail
  refine (c16.out _ _ _ _ _ _ _ _ I1.out I2.out (by simp)).mono ?_
  rintro e w25 ⟨rfl, hb⟩
  replace Va := Lib.hid (blk_below Va.out hb (blk_lt Va.out))
  replace Vq := Lib.hid (blk_below Vq.out hb (blk_lt Vq.out))
  replace Vb := Lib.hid (blk_below Vb.out hb (blk_lt Vb.out))
  replace Vp := Lib.hid (blk_below Vp.out hb (blk_lt Vp.out))
  replace Vc := Lib.hid (blk_below Vc.out hb (blk_lt Vc.out))
  replace Vr := Lib.hid (blk_below Vr.out hb (blk_lt Vr.out))
  replace Rb := Lib.hid (Ro.below Rb.out hb)
  replace Rd := Lib.hid (Ro.below Rd.out hb)
  replace Re := Lib.hid (Ro.below Re.out hb)
  replace HB := Lib.hid (And.intro (HB.out.1.trans (hb.mono HB.out.2)) (Nat.le_trans HB.out.2 hb.size))
  clear hb
  clear I1 I2
  have cb0 : w25.cell? ⟨sb, 0, none⟩ = some (.slice B6 m6 d6) := (blk_cell Vb.out 0).trans rfl
  have cb1 : w25.cell? ⟨sb, 1, none⟩ = some (.int .i64 z) := (blk_cell Vb.out 1).trans rfl
  have cp0 : w25.cell? ⟨sb + 1, 0, none⟩ = some (.int .i64 2) := (blk_cell Vp.out 0).trans rfl
  have cp1 : w25.cell? ⟨sb + 1, 1, none⟩ = some (.int .i64 1) := (blk_cell Vp.out 1).trans rfl
  go_wp2_with fail
  refine (c11.out _ _ _ _ Rd.out).mono ?_
  rintro e w26 ⟨A3, n3, e3, rfl, his, hb⟩
  clear cb0 cb1 cp0 cp1
  replace Va := Lib.hid (blk_below Va.out hb (blk_lt Va.out))
  replace Vq := Lib.hid (blk_below Vq.out hb (blk_lt Vq.out))
  replace Vb := Lib.hid (blk_below Vb.out hb (blk_lt Vb.out))
  replace Vp := Lib.hid (blk_below Vp.out hb (blk_lt Vp.out))
  replace Vc := Lib.hid (blk_below Vc.out hb (blk_lt Vc.out))
  replace Vr := Lib.hid (blk_below Vr.out hb (blk_lt Vr.out))
  replace Rb := Lib.hid (Ro.below Rb.out hb)
  replace Rd := Lib.hid (Ro.below Rd.out hb)
  replace Re := Lib.hid (Ro.below Re.out hb)
  replace HB := Lib.hid (And.intro (HB.out.1.trans (hb.mono HB.out.2)) (Nat.le_trans HB.out.2 hb.size))
  clear hb
  have hz : Below _ _ _ := (Below.refl w26.heap.size w26).alloc (Nat.le_refl _) (.cells (intC [3, 2]).toArray 3)
  have I1 := Lib.hid (Es.below his hz)
  have I2 := Lib.hid (is_lit w26 [3, 2] rfl)
  clear his
  replace Va := Lib.hid (blk_below Va.out hz (blk_lt Va.out))
  replace Vq := Lib.hid (blk_below Vq.out hz (blk_lt Vq.out))
  replace Vb := Lib.hid (blk_below Vb.out hz (blk_lt Vb.out))
  replace Vp := Lib.hid (blk_below Vp.out hz (blk_lt Vp.out))
  replace Vc := Lib.hid (blk_below Vc.out hz (blk_lt Vc.out))
  replace Vr := Lib.hid (blk_below Vr.out hz (blk_lt Vr.out))
  replace Rb := Lib.hid (Ro.below Rb.out hz)
  replace Rd := Lib.hid (Ro.below Rd.out hz)
  replace Re := Lib.hid (Ro.below Re.out hz)
  replace HB := Lib.hid (And.intro (HB.out.1.trans (hz.mono HB.out.2)) (Nat.le_trans HB.out.2 hz.size))
  clear hz
  go_wp2_with fail
  refine (c16.out _ _ _ _ _ _ _ _ I1.out I2.out (by simp)).mono ?_
  rintro e w27 ⟨rfl, hb⟩
  replace Va := Lib.hid (blk_below Va.out hb (blk_lt Va.out))
  replace Vq := Lib.hid (blk_below Vq.out hb (blk_lt Vq.out))
  replace Vb := Lib.hid (blk_below Vb.out hb (blk_lt Vb.out))
  replace Vp := Lib.hid (blk_below Vp.out hb (blk_lt Vp.out))
  replace Vc := Lib.hid (blk_below Vc.out hb (blk_lt Vc.out))
  replace Vr := Lib.hid (blk_below Vr.out hb (blk_lt Vr.out))
  replace Rb := Lib.hid (Ro.below Rb.out hb)
  replace Rd := Lib.hid (Ro.below Rd.out hb)
  replace Re := Lib.hid (Ro.below Re.out hb)
  replace HB := Lib.hid (And.intro (HB.out.1.trans (hb.mono HB.out.2)) (Nat.le_trans HB.out.2 hb.size))
  clear hb
  clear I1 I2
  have cc0 : w27.cell? ⟨sc, 0, none⟩ = some (.slice B7 m7 d7) := (blk_cell Vc.out 0).trans rfl
  have cc1 : w27.cell? ⟨sc, 1, none⟩ = some (.int .i64 2) := (blk_cell Vc.out 1).trans rfl
  have cr0 : w27.cell? ⟨sc + 1, 0, none⟩ = some (.int .i64 1) := (blk_cell Vr.out 0).trans rfl
  have cr1 : w27.cell? ⟨sc + 1, 1, none⟩ = some (.int .i64 1) := (blk_cell Vr.out 1).trans rfl
  go_wp2_with fail
  refine (c12.out _ _ _ _ Re.out).mono ?_
  rintro e w28 ⟨A4, n4, e4, rfl, his, hb⟩
  clear cc0 cc1 cr0 cr1
  replace Va := Lib.hid (blk_below Va.out hb (blk_lt Va.out))
  replace Vq := Lib.hid (blk_below Vq.out hb (blk_lt Vq.out))
  replace Vb := Lib.hid (blk_below Vb.out hb (blk_lt Vb.out))
  replace Vp := Lib.hid (blk_below Vp.out hb (blk_lt Vp.out))
  replace Vc := Lib.hid (blk_below Vc.out hb (blk_lt Vc.out))
  replace Vr := Lib.hid (blk_below Vr.out hb (blk_lt Vr.out))
  replace Rb := Lib.hid (Ro.below Rb.out hb)
  replace Rd := Lib.hid (Ro.below Rd.out hb)
  replace Re := Lib.hid (Ro.below Re.out hb)
  replace HB := Lib.hid (And.intro (HB.out.1.trans (hb.mono HB.out.2)) (Nat.le_trans HB.out.2 hb.size))
  clear hb
  have hz : Below _ _ _ := (Below.refl w28.heap.size w28).alloc (Nat.le_refl _) (.cells (intC [2]).toArray 3)
  have I1 := Lib.hid (Es.below his hz)
  have I2 := Lib.hid (is_lit w28 [2] rfl)
  clear his
  replace Va := Lib.hid (blk_below Va.out hz (blk_lt Va.out))
  replace Vq := Lib.hid (blk_below Vq.out hz (blk_lt Vq.out))
  replace Vb := Lib.hid (blk_below Vb.out hz (blk_lt Vb.out))
  replace Vp := Lib.hid (blk_below Vp.out hz (blk_lt Vp.out))
  replace Vc := Lib.hid (blk_below Vc.out hz (blk_lt Vc.out))
  replace Vr := Lib.hid (blk_below Vr.out hz (blk_lt Vr.out))
  replace Rb := Lib.hid (Ro.below Rb.out hz)
  replace Rd := Lib.hid (Ro.below Rd.out hz)
  replace Re := Lib.hid (Ro.below Re.out hz)
  replace HB := Lib.hid (And.intro (HB.out.1.trans (hz.mono HB.out.2)) (Nat.le_trans HB.out.2 hz.size))
  clear hz
  go_wp2_with fail
  refine (c16.out _ _ _ _ _ _ _ _ I1.out I2.out (by simp)).mono ?_
  rintro e w29 ⟨rfl, hb⟩
  replace Va := Lib.hid (blk_below Va.out hb (blk_lt Va.out))
  replace Vq := Lib.hid (blk_below Vq.out hb (blk_lt Vq.out))
  replace Vb := Lib.hid (blk_below Vb.out hb (blk_lt Vb.out))
  replace Vp := Lib.hid (blk_below Vp.out hb (blk_lt Vp.out))
  replace Vc := Lib.hid (blk_below Vc.out hb (blk_lt Vc.out))
  replace Vr := Lib.hid (blk_below Vr.out hb (blk_lt Vr.out))
  replace Rb := Lib.hid (Ro.below Rb.out hb)
  replace Rd := Lib.hid (Ro.below Rd.out hb)
  replace Re := Lib.hid (Ro.below Re.out hb)
  replace HB := Lib.hid (And.intro (HB.out.1.trans (hb.mono HB.out.2)) (Nat.le_trans HB.out.2 hb.size))
  clear hb
  clear I1 I2
  have cc0 : w29.cell? ⟨sc, 0, none⟩ = some (.slice B7 m7 d7) := (blk_cell Vc.out 0).trans rfl
  have cc1 : w29.cell? ⟨sc, 1, none⟩ = some (.int .i64 2) := (blk_cell Vc.out 1).trans rfl
  have cr0 : w29.cell? ⟨sc + 1, 0, none⟩ = some (.int .i64 1) := (blk_cell Vr.out 0).trans rfl
  have cr1 : w29.cell? ⟨sc + 1, 1, none⟩ = some (.int .i64 1) := (blk_cell Vr.out 1).trans rfl
  go_wp2_with fail
  refine (c13.out _ _ _ _ Re.out).mono ?_
  rintro e w30 ⟨rfl, hb⟩
  clear cc0 cc1 cr0 cr1
  replace Va := Lib.hid (blk_below Va.out hb (blk_lt Va.out))
  replace Vq := Lib.hid (blk_below Vq.out hb (blk_lt Vq.out))
  replace Vb := Lib.hid (blk_below Vb.out hb (blk_lt Vb.out))
  replace Vp := Lib.hid (blk_below Vp.out hb (blk_lt Vp.out))
  replace Vc := Lib.hid (blk_below Vc.out hb (blk_lt Vc.out))
  replace Vr := Lib.hid (blk_below Vr.out hb (blk_lt Vr.out))
  replace Rb := Lib.hid (Ro.below Rb.out hb)
  replace Rd := Lib.hid (Ro.below Rd.out hb)
  replace Re := Lib.hid (Ro.below Re.out hb)
  replace HB := Lib.hid (And.intro (HB.out.1.trans (hb.mono HB.out.2)) (Nat.le_trans HB.out.2 hb.size))
  clear hb
  have cc0 : w30.cell? ⟨sc, 0, none⟩ = some (.slice B7 m7 d7) := (blk_cell Vc.out 0).trans rfl
  have cc1 : w30.cell? ⟨sc, 1, none⟩ = some (.int .i64 2) := (blk_cell Vc.out 1).trans rfl
  have cq0 : w30.cell? ⟨sq, 0, none⟩ = some (.int .i64 2) := (blk_cell Vq.out 0).trans rfl
  have cq1 : w30.cell? ⟨sq, 1, none⟩ = some (.int .i64 1) := (blk_cell Vq.out 1).trans rfl
  go_wp2_with fail
  refine (c14.out _ _ _ _ Re.out).mono ?_
  rintro e w31 ⟨rfl, hb⟩
  clear cc0 cc1 cq0 cq1
  replace Va := Lib.hid (blk_below Va.out hb (blk_lt Va.out))
  replace Vq := Lib.hid (blk_below Vq.out hb (blk_lt Vq.out))
  replace Vb := Lib.hid (blk_below Vb.out hb (blk_lt Vb.out))
  replace Vp := Lib.hid (blk_below Vp.out hb (blk_lt Vp.out))
  replace Vc := Lib.hid (blk_below Vc.out hb (blk_lt Vc.out))
  replace Vr := Lib.hid (blk_below Vr.out hb (blk_lt Vr.out))
  replace Rb := Lib.hid (Ro.below Rb.out hb)
  replace Rd := Lib.hid (Ro.below Rd.out hb)
  replace Re := Lib.hid (Ro.below Re.out hb)
  replace HB := Lib.hid (And.intro (HB.out.1.trans (hb.mono HB.out.2)) (Nat.le_trans HB.out.2 hb.size))
  clear hb
  go_wp2
  go_ret
  exact ⟨rfl, HB.out.1⟩
end Go.Proofs.Ytombfempdfdeoaa
