/- The fixed fact 'alive' of layer 7 is true, and writes nothing that was there; no condition. -/
import Derived.Test.YtglccgmhcncghaaAreO
namespace Go.Proofs.Ytglccgmhcncghaa
set_option linter.unusedVariables false
set_option linter.unusedSimpArgs false
open Go.RowKit
/-- an arena as the answer, and what was wrong; with a place. -/
def GivenAs (w : World) (rs : List Rec3) (fr er : Int) (e : Ending) (w' : World) : Prop :=
  ∃ B m d, e = .returned (.tuple #[.agg #[.slice B m d, .int .i64 fr], .int .i64 er]) ∧ Rs w' B m d rs ∧ Below w.heap.size w w'
def TakenAs (w : World) (rs : List Rec3) (fr i er : Int) (e : Ending) (w' : World) : Prop :=
  ∃ B m d, e = .returned (.tuple #[.agg #[.slice B m d, .int .i64 fr], .int .i64 i, .int .i64 er]) ∧ Rs w' B m d rs ∧ Below w.heap.size w w'
theorem blk_first {w : World} {b : Nat} {x y : Value} {T : TypeId} (h : w.heap[b]? = some (.cells #[x, y] T)) (u : Value) : (w.setCell ⟨b, 0, none⟩ u).heap[b]? = some (.cells #[u, y] T) := by
  simp only [World.setCell, Array.getElem?_modify]
  rw [if_pos trivial, h]
  rfl
/-- records do not lie in a block of two cells. -/
theorem rs_apart {w : World} {B : Option Addr} {m d : Nat} {rs : List Rec3} {s o : Nat} {x y v : Value} {T : TypeId} (h : Rs w B m d rs) (hs : w.heap[s]? = some (.cells #[x, y] T)) : Rs (w.setCell ⟨s, o, none⟩ v) B m d rs := by
  refine ⟨Es.len h, Es.cap h, Es.one h, fun hm => ?_⟩
  obtain ⟨b, off, e, hb, hc⟩ := Es.mem h hm
  have hne : b ≠ s := by
    rintro rfl
    obtain ⟨_, _, h2⟩ := recC_at rs 0 (by have := h.len; omega)
    have h3 := hc _ _ h2
    rw [blk_cell hs, Array.getElem?_eq_none (by simp)] at h3
    cases h3
  refine ⟨b, off, e, by simpa [World.setCell] using hb, fun j u hj => ?_⟩
  have := hc j u hj
  unfold World.cell? at this ⊢
  rw [show (w.setCell ⟨s, o, none⟩ v).heap[b]? = w.heap[b]? from Below.heap_setCell _ _ _ _ (by simpa using hne)]
  exact this
theorem int_mk {w : World} (xs : List Int) {q : Nat} (hq : xs.length = q) : Is (w.alloc (.cells (intC xs).toArray 3)) (some ⟨w.heap.size, 0, none⟩) q q xs := Es.new_ w _ _ (intC_one xs) (by rw [intC_len, hq, Nat.mul_one])
set_option maxRecDepth 100000 in
set_option maxHeartbeats 8000000 in
theorem alive7 (w : World) : Calls Try.prog 7 #[] w fun e w' => e = .returned (.bool true) ∧ Below w.heap.size w w' := by
  obtain ⟨z, hz⟩ : ∃ z : Int, z = 0 := ⟨0, rfl⟩
  have c1 : ∀ w, Calls Try.prog 21 #[.int .i64 3] w (GivenAs w [(-1, -1, 1), (-1, -1, 2), (-1, -1, -1)] z 0) := fun w => by
    subst hz
    have h := arnMake_any 3 w (by decide) (by decide)
    rwa [show arMake 3 = (([(-1, -1, 1), (-1, -1, 2), (-1, -1, -1)], 0), 0) by kernel_rfl] at h
  have c2 : ∀ B m d w, Rs w B m d [(-1, -1, 1), (-1, -1, 2), (-1, -1, -1)] → Calls Try.prog 9 #[.agg #[.slice B m d, .int .i64 z], .int .i64 5, .int .i64 1] w (TakenAs w [(5, 1, -1), (-1, -1, 2), (-1, -1, -1)] (1) 0 0) := fun B m d w hx => by
    subst hz
    have h := arnTake_any B m d _ (0) 5 1 w hx (by have := hx.len; simp at this; omega)
    rwa [show arTake ([(-1, -1, 1), (-1, -1, 2), (-1, -1, -1)], 0) 5 1 = (([(5, 1, -1), (-1, -1, 2), (-1, -1, -1)], 1), 0, 0) by kernel_rfl] at h
  have c3 : ∀ B m d w, Rs w B m d [(5, 1, -1), (-1, -1, 2), (-1, -1, -1)] → Calls Try.prog 9 #[.agg #[.slice B m d, .int .i64 1], .int .i64 5, .int .i64 2] w (TakenAs w [(5, 1, -1), (5, 2, -1), (-1, -1, -1)] (2) 1 0) := fun B m d w hx => by
    subst hz
    have h := arnTake_any B m d _ (1) 5 2 w hx (by have := hx.len; simp at this; omega)
    rwa [show arTake ([(5, 1, -1), (-1, -1, 2), (-1, -1, -1)], 1) 5 2 = (([(5, 1, -1), (5, 2, -1), (-1, -1, -1)], 2), 1, 0) by kernel_rfl] at h
  have c4 : ∀ B m d w, Rs w B m d [(5, 1, -1), (5, 2, -1), (-1, -1, -1)] → Calls Try.prog 13 #[.agg #[.slice B m d, .int .i64 2], .int .i64 1, .int .i64 0] w (GivenAs w [(5, 1, -1), (5, 2, 0), (-1, -1, -1)] 2 0) := fun B m d w hx => by
    have h := arnSet_any B m d _ 2 1 0 w hx (by have := hx.len; simp at this; omega)
    rwa [show arSet ([(5, 1, -1), (5, 2, -1), (-1, -1, -1)], 2) 1 0 = (([(5, 1, -1), (5, 2, 0), (-1, -1, -1)], 2), 0) by kernel_rfl] at h
  have c5 : ∀ B m d w, Rs w B m d [(5, 1, -1), (5, 2, 0), (-1, -1, -1)] → Calls Try.prog 11 #[.agg #[.slice B m d, .int .i64 2], .int .i64 0] w (GivenAs w [(5, 1, -1), (5, 2, 0), (-1, -1, -1)] (2) 8) := fun B m d w hx => by
    subst hz
    have h := arnGive_any B m d _ (2) 0 w hx (by have := hx.len; simp at this; omega)
    rwa [show arGive ([(5, 1, -1), (5, 2, 0), (-1, -1, -1)], 2) 0 = (([(5, 1, -1), (5, 2, 0), (-1, -1, -1)], 2), 8) by kernel_rfl] at h
  have c6 : ∀ B m d w, Rs w B m d [(5, 1, -1), (5, 2, -1), (-1, -1, -1)] → Calls Try.prog 11 #[.agg #[.slice B m d, .int .i64 2], .int .i64 0] w (GivenAs w [(-1, -1, 2), (5, 2, -1), (-1, -1, -1)] (z) 0) := fun B m d w hx => by
    subst hz
    have h := arnGive_any B m d _ (2) 0 w hx (by have := hx.len; simp at this; omega)
    rwa [show arGive ([(5, 1, -1), (5, 2, -1), (-1, -1, -1)], 2) 0 = (([(-1, -1, 2), (5, 2, -1), (-1, -1, -1)], 0), 0) by kernel_rfl] at h
  have c7 : ∀ B m d w, Rs w B m d [(-1, -1, 2), (5, 2, -1), (-1, -1, -1)] → Calls Try.prog 9 #[.agg #[.slice B m d, .int .i64 z], .int .i64 0, .int .i64 9] w (TakenAs w [(0, 9, -1), (5, 2, -1), (-1, -1, -1)] (2) 0 0) := fun B m d w hx => by
    subst hz
    have h := arnTake_any B m d _ (0) 0 9 w hx (by have := hx.len; simp at this; omega)
    rwa [show arTake ([(-1, -1, 2), (5, 2, -1), (-1, -1, -1)], 0) 0 9 = (([(0, 9, -1), (5, 2, -1), (-1, -1, -1)], 2), 0, 0) by kernel_rfl] at h
  have c8 : ∀ B m d w, Rs w B m d [(0, 9, -1), (5, 2, -1), (-1, -1, -1)] → Calls Try.prog 16 #[.agg #[.slice B m d, .int .i64 2]] w fun e w' => e = .returned (.bool true) ∧ Below w.heap.size w w' := fun B m d w hx => by
    have h := arnRight_any B m d _ 2 w hx (by have := hx.len; simp at this; omega)
    rwa [show rightS ([(0, 9, -1), (5, 2, -1), (-1, -1, -1)], 2) = true by kernel_rfl] at h
  have c9 : ∀ w, Calls Try.prog 16 #[.agg #[.slice none 0 0, .int .i64 0]] w fun e w' => e = .returned (.bool false) ∧ Below w.heap.size w w' := fun w => by
    have h := arnRight_any none 0 0 [] 0 w (Es.nil _ _ _ _) (by omega)
    rwa [show rightS ([], 0) = false by kernel_rfl] at h
  have c10 : ∀ B m d w, Rs w B m d [(-1, -1, 2), (5, 2, -1), (-1, -1, -1)] → Calls Try.prog 19 #[.agg #[.slice B m d, .int .i64 z]] w (IntsPost w [0, 2]) := fun B m d w hx => by
    subst hz
    have h := arnFree_any B m d _ 0 w hx (by have := hx.len; simp at this; omega)
    rwa [show freeS ([(-1, -1, 2), (5, 2, -1), (-1, -1, -1)], 0) = [0, 2] by kernel_rfl] at h
  have c11 : ∀ B m d w, Rs w B m d [(0, 9, -1), (5, 2, -1), (-1, -1, -1)] → Calls Try.prog 19 #[.agg #[.slice B m d, .int .i64 2]] w (IntsPost w [2]) := fun B m d w hx => by
    have h := arnFree_any B m d _ 2 w hx (by have := hx.len; simp at this; omega)
    rwa [show freeS ([(0, 9, -1), (5, 2, -1), (-1, -1, -1)], 2) = [2] by kernel_rfl] at h
  have c12 : ∀ (xs : List Int) (A B : Option Addr) (n c m d : Nat) w, Is w A n c xs → Is w B m d xs → xs.length ≤ 100 → Calls Try.prog 18 #[.slice A n c, .slice B m d] w fun e w' => e = .returned (.bool true) ∧ Below w.heap.size w w' := fun xs A B n c m d w h1 h2 h3 => by
    have h := refInts_any A n c xs B m d xs w h1 h2 (by have := h1.len; omega)
    rwa [decide_eq_true rfl] at h
  clear hz
  replace c1 := Lib.hid c1
  replace c2 := Lib.hid c2
  replace c3 := Lib.hid c3
  replace c4 := Lib.hid c4
  replace c5 := Lib.hid c5
  replace c6 := Lib.hid c6
  replace c7 := Lib.hid c7
  replace c8 := Lib.hid c8
  replace c9 := Lib.hid c9
  replace c10 := Lib.hid c10
  replace c11 := Lib.hid c11
  replace c12 := Lib.hid c12
  have HB := Lib.hid (And.intro (Below.refl w.heap.size w) (Nat.le_refl w.heap.size))
  go_enter Try.func7, Try.ntmps7
  go_wp2_with fail
  refine (c1.out _).mono ?_
  rintro e w1 ⟨B1, m1, d1, rfl, hrs, hb⟩
  replace HB := Lib.hid (And.intro (HB.out.1.trans (hb.mono HB.out.2)) (Nat.le_trans HB.out.2 hb.size))
  have Ra := Lib.hid hrs
  clear hb hrs
  have lea := HB.out.2
  obtain ⟨w2, hw2⟩ : ∃ W, w1.alloc (.cells #[.slice B1 m1 d1, .int .i64 z] 24) = W := ⟨_, rfl⟩
  have hb : Below w1.heap.size w1 w2 := hw2 ▸ (Below.refl _ _).alloc (Nat.le_refl _) _
  have hv : w2.heap[w1.heap.size]? = some (.cells #[.slice B1 m1 d1, .int .i64 z] 24) := hw2 ▸ heap_alloc_new _ _
  replace Ra := Lib.hid (Es.below Ra.out hb)
  replace HB := Lib.hid (And.intro (HB.out.1.trans (hb.mono HB.out.2)) (Nat.le_trans HB.out.2 hb.size))
  have Va := Lib.hid hv
  have gea := lea
  generalize hsa : w1.heap.size = sa at *
  clear hb hv lea
  have ca0 := blk_cell Va.out 0; have ca1 := blk_cell Va.out 1
  simp only [List.getElem?_toArray, List.getElem?_cons_zero, List.getElem?_cons_succ] at ca0 ca1
  go_wp2_with fail
  refine (c2.out _ _ _ _ Ra.out).mono ?_
  rintro e w3 ⟨B2, m2, d2, rfl, hrs, hb⟩
  clear ca0 ca1
  replace Va := Lib.hid (blk_below Va.out hb (blk_lt Va.out))
  replace Ra := Lib.hid (Es.below Ra.out hb)
  replace HB := Lib.hid (And.intro (HB.out.1.trans (hb.mono HB.out.2)) (Nat.le_trans HB.out.2 hb.size))
  have Rb := Lib.hid hrs
  clear hb hrs
  clear Ra
  obtain ⟨w4, hw4⟩ : ∃ W, (w3.setCell ⟨sa, 0, none⟩ (.slice B2 m2 d2)).setCell ⟨sa, 1, none⟩ (.int .i64 1) = W := ⟨_, rfl⟩
  have fa0 := blk_frozen Va.out 0; have fa1 := blk_frozen Va.out 1; have ga0 := blk_cell Va.out 0; have ga1 := blk_cell Va.out 1
  simp only [List.getElem?_toArray, List.getElem?_cons_zero, List.getElem?_cons_succ] at ga0 ga1
  replace Rb : Hid (Rs w4 _ _ _ _) := Lib.hid (hw4 ▸ rs_apart (rs_apart Rb.out Va.out) (blk_first Va.out (.slice B2 m2 d2)))
  replace Va := Lib.hid (hw4 ▸ blk_pair Va.out (.slice B2 m2 d2) (.int .i64 1))
  have hbb : Below _ _ w4 := hw4 ▸ (HB.out.1.setCell (p := ⟨sa, 0, none⟩) gea _).setCell (p := ⟨sa, 1, none⟩) gea _
  have hbs : w4.heap.size = w3.heap.size := by rw [← hw4]; simp [World.setCell]
  replace HB := Lib.hid (And.intro hbb (show _ ≤ w4.heap.size by rw [hbs]; exact HB.out.2))
  clear hbb hbs
  have ca0 := blk_cell Va.out 0; have ca1 := blk_cell Va.out 1
  simp only [List.getElem?_toArray, List.getElem?_cons_zero, List.getElem?_cons_succ] at ca0 ca1
  go_wp2_with fail
  refine (c3.out _ _ _ _ Rb.out).mono ?_
  rintro e w5 ⟨B3, m3, d3, rfl, hrs, hb⟩
  clear ca0 ca1
  replace Va := Lib.hid (blk_below Va.out hb (blk_lt Va.out))
  replace Rb := Lib.hid (Es.below Rb.out hb)
  replace HB := Lib.hid (And.intro (HB.out.1.trans (hb.mono HB.out.2)) (Nat.le_trans HB.out.2 hb.size))
  have Ra := Lib.hid hrs
  clear hb hrs
  clear fa0 fa1 ga0 ga1
  clear Rb
  obtain ⟨w6, hw6⟩ : ∃ W, (w5.setCell ⟨sa, 0, none⟩ (.slice B3 m3 d3)).setCell ⟨sa, 1, none⟩ (.int .i64 2) = W := ⟨_, rfl⟩
  have fa0 := blk_frozen Va.out 0; have fa1 := blk_frozen Va.out 1; have ga0 := blk_cell Va.out 0; have ga1 := blk_cell Va.out 1
  simp only [List.getElem?_toArray, List.getElem?_cons_zero, List.getElem?_cons_succ] at ga0 ga1
  replace Ra : Hid (Rs w6 _ _ _ _) := Lib.hid (hw6 ▸ rs_apart (rs_apart Ra.out Va.out) (blk_first Va.out (.slice B3 m3 d3)))
  replace Va := Lib.hid (hw6 ▸ blk_pair Va.out (.slice B3 m3 d3) (.int .i64 2))
  have hbb : Below _ _ w6 := hw6 ▸ (HB.out.1.setCell (p := ⟨sa, 0, none⟩) gea _).setCell (p := ⟨sa, 1, none⟩) gea _
  have hbs : w6.heap.size = w5.heap.size := by rw [← hw6]; simp [World.setCell]
  replace HB := Lib.hid (And.intro hbb (show _ ≤ w6.heap.size by rw [hbs]; exact HB.out.2))
  clear hbb hbs
  have ca0 := blk_cell Va.out 0; have ca1 := blk_cell Va.out 1
  simp only [List.getElem?_toArray, List.getElem?_cons_zero, List.getElem?_cons_succ] at ca0 ca1
  go_wp2_with fail
  refine (c4.out _ _ _ _ Ra.out).mono ?_
  rintro e w7 ⟨B4, m4, d4, rfl, hrs, hb⟩
  clear ca0 ca1
  replace Va := Lib.hid (blk_below Va.out hb (blk_lt Va.out))
  replace Ra := Lib.hid (Es.below Ra.out hb)
  replace HB := Lib.hid (And.intro (HB.out.1.trans (hb.mono HB.out.2)) (Nat.le_trans HB.out.2 hb.size))
  have Rb := Lib.hid hrs
  clear hb hrs
  clear fa0 fa1 ga0 ga1
  have ltab := blk_lt Va.out
  have leb := HB.out.2
  obtain ⟨w8, hw8⟩ : ∃ W, w7.alloc (.cells #[.slice B4 m4 d4, .int .i64 2] 24) = W := ⟨_, rfl⟩
  have hb : Below w7.heap.size w7 w8 := hw8 ▸ (Below.refl _ _).alloc (Nat.le_refl _) _
  have hv : w8.heap[w7.heap.size]? = some (.cells #[.slice B4 m4 d4, .int .i64 2] 24) := hw8 ▸ heap_alloc_new _ _
  replace Va := Lib.hid (blk_below Va.out hb (blk_lt Va.out))
  replace Ra := Lib.hid (Es.below Ra.out hb)
  replace Rb := Lib.hid (Es.below Rb.out hb)
  replace HB := Lib.hid (And.intro (HB.out.1.trans (hb.mono HB.out.2)) (Nat.le_trans HB.out.2 hb.size))
  have Vb := Lib.hid hv
  have neab := Nat.ne_of_lt ltab
  have geb := leb
  generalize hsb : w7.heap.size = sb at *
  clear hb hv ltab leb
  have cb0 := blk_cell Vb.out 0; have cb1 := blk_cell Vb.out 1
  simp only [List.getElem?_toArray, List.getElem?_cons_zero, List.getElem?_cons_succ] at cb0 cb1
  go_wp2_with fail
  refine (c5.out _ _ _ _ Rb.out).mono ?_
  rintro e w9 ⟨B5, m5, d5, rfl, hrs, hb⟩
  clear cb0 cb1
  replace Va := Lib.hid (blk_below Va.out hb (blk_lt Va.out))
  replace Vb := Lib.hid (blk_below Vb.out hb (blk_lt Vb.out))
  replace Ra := Lib.hid (Es.below Ra.out hb)
  replace Rb := Lib.hid (Es.below Rb.out hb)
  replace HB := Lib.hid (And.intro (HB.out.1.trans (hb.mono HB.out.2)) (Nat.le_trans HB.out.2 hb.size))
  have Rx := Lib.hid hrs
  clear hb hrs
  clear Rb
  have ltax := blk_lt Va.out
  have ltbx := blk_lt Vb.out
  have lex := HB.out.2
  obtain ⟨w10, hw10⟩ : ∃ W, w9.alloc (.cells #[.slice B5 m5 d5, .int .i64 2] 24) = W := ⟨_, rfl⟩
  have hb : Below w9.heap.size w9 w10 := hw10 ▸ (Below.refl _ _).alloc (Nat.le_refl _) _
  have hv : w10.heap[w9.heap.size]? = some (.cells #[.slice B5 m5 d5, .int .i64 2] 24) := hw10 ▸ heap_alloc_new _ _
  replace Va := Lib.hid (blk_below Va.out hb (blk_lt Va.out))
  replace Vb := Lib.hid (blk_below Vb.out hb (blk_lt Vb.out))
  replace Ra := Lib.hid (Es.below Ra.out hb)
  replace Rx := Lib.hid (Es.below Rx.out hb)
  replace HB := Lib.hid (And.intro (HB.out.1.trans (hb.mono HB.out.2)) (Nat.le_trans HB.out.2 hb.size))
  have Vx := Lib.hid hv
  have neax := Nat.ne_of_lt ltax
  have nebx := Nat.ne_of_lt ltbx
  have gex := lex
  generalize hsx : w9.heap.size = sx at *
  clear hb hv ltax ltbx lex
  have ca0 := blk_cell Va.out 0; have ca1 := blk_cell Va.out 1
  simp only [List.getElem?_toArray, List.getElem?_cons_zero, List.getElem?_cons_succ] at ca0 ca1
  go_wp2_with fail
  refine (c6.out _ _ _ _ Ra.out).mono ?_
  rintro e w11 ⟨B6, m6, d6, rfl, hrs, hb⟩
  clear ca0 ca1
  replace Va := Lib.hid (blk_below Va.out hb (blk_lt Va.out))
  replace Vb := Lib.hid (blk_below Vb.out hb (blk_lt Vb.out))
  replace Vx := Lib.hid (blk_below Vx.out hb (blk_lt Vx.out))
  replace Ra := Lib.hid (Es.below Ra.out hb)
  replace Rx := Lib.hid (Es.below Rx.out hb)
  replace HB := Lib.hid (And.intro (HB.out.1.trans (hb.mono HB.out.2)) (Nat.le_trans HB.out.2 hb.size))
  have Rc := Lib.hid hrs
  clear hb hrs
  clear Ra
  have ltac := blk_lt Va.out
  have ltbc := blk_lt Vb.out
  have ltxc := blk_lt Vx.out
  have lec := HB.out.2
  obtain ⟨w12, hw12⟩ : ∃ W, w11.alloc (.cells #[.slice B6 m6 d6, .int .i64 z] 24) = W := ⟨_, rfl⟩
  have hb : Below w11.heap.size w11 w12 := hw12 ▸ (Below.refl _ _).alloc (Nat.le_refl _) _
  have hv : w12.heap[w11.heap.size]? = some (.cells #[.slice B6 m6 d6, .int .i64 z] 24) := hw12 ▸ heap_alloc_new _ _
  replace Va := Lib.hid (blk_below Va.out hb (blk_lt Va.out))
  replace Vb := Lib.hid (blk_below Vb.out hb (blk_lt Vb.out))
  replace Vx := Lib.hid (blk_below Vx.out hb (blk_lt Vx.out))
  replace Rx := Lib.hid (Es.below Rx.out hb)
  replace Rc := Lib.hid (Es.below Rc.out hb)
  replace HB := Lib.hid (And.intro (HB.out.1.trans (hb.mono HB.out.2)) (Nat.le_trans HB.out.2 hb.size))
  have Vc := Lib.hid hv
  have neac := Nat.ne_of_lt ltac
  have nebc := Nat.ne_of_lt ltbc
  have necx := (Nat.ne_of_lt ltxc).symm
  have gec := lec
  generalize hsc : w11.heap.size = sc at *
  clear hb hv ltac ltbc ltxc lec
  have cc0 := blk_cell Vc.out 0; have cc1 := blk_cell Vc.out 1
  simp only [List.getElem?_toArray, List.getElem?_cons_zero, List.getElem?_cons_succ] at cc0 cc1
  go_wp2_with fail
  refine (c7.out _ _ _ _ Rc.out).mono ?_
  rintro e w13 ⟨B7, m7, d7, rfl, hrs, hb⟩
  clear cc0 cc1
  replace Va := Lib.hid (blk_below Va.out hb (blk_lt Va.out))
  replace Vb := Lib.hid (blk_below Vb.out hb (blk_lt Vb.out))
  replace Vx := Lib.hid (blk_below Vx.out hb (blk_lt Vx.out))
  replace Vc := Lib.hid (blk_below Vc.out hb (blk_lt Vc.out))
  replace Rx := Lib.hid (Es.below Rx.out hb)
  replace Rc := Lib.hid (Es.below Rc.out hb)
  replace HB := Lib.hid (And.intro (HB.out.1.trans (hb.mono HB.out.2)) (Nat.le_trans HB.out.2 hb.size))
  have Rd := Lib.hid hrs
  clear hb hrs
  have ltad := blk_lt Va.out
  have ltbd := blk_lt Vb.out
  have ltxd := blk_lt Vx.out
  have ltcd := blk_lt Vc.out
  have led := HB.out.2
  obtain ⟨w14, hw14⟩ : ∃ W, w13.alloc (.cells #[.slice B7 m7 d7, .int .i64 2] 24) = W := ⟨_, rfl⟩
  have hb : Below w13.heap.size w13 w14 := hw14 ▸ (Below.refl _ _).alloc (Nat.le_refl _) _
  have hv : w14.heap[w13.heap.size]? = some (.cells #[.slice B7 m7 d7, .int .i64 2] 24) := hw14 ▸ heap_alloc_new _ _
  replace Va := Lib.hid (blk_below Va.out hb (blk_lt Va.out))
  replace Vb := Lib.hid (blk_below Vb.out hb (blk_lt Vb.out))
  replace Vx := Lib.hid (blk_below Vx.out hb (blk_lt Vx.out))
  replace Vc := Lib.hid (blk_below Vc.out hb (blk_lt Vc.out))
  replace Rx := Lib.hid (Es.below Rx.out hb)
  replace Rc := Lib.hid (Es.below Rc.out hb)
  replace Rd := Lib.hid (Es.below Rd.out hb)
  replace HB := Lib.hid (And.intro (HB.out.1.trans (hb.mono HB.out.2)) (Nat.le_trans HB.out.2 hb.size))
  have Vd := Lib.hid hv
  have nead := Nat.ne_of_lt ltad
  have nebd := Nat.ne_of_lt ltbd
  have nedx := (Nat.ne_of_lt ltxd).symm
  have necd := Nat.ne_of_lt ltcd
  have ged := led
  generalize hsd : w13.heap.size = sd at *
  clear hb hv ltad ltbd ltxd ltcd led
  have cd0 := blk_cell Vd.out 0; have cd1 := blk_cell Vd.out 1
  simp only [List.getElem?_toArray, List.getElem?_cons_zero, List.getElem?_cons_succ] at cd0 cd1
  go_wp2_with fail
  refine (c8.out _ _ _ _ Rd.out).mono ?_
  rintro e w15 ⟨rfl, hb⟩
  clear cd0 cd1
  replace Va := Lib.hid (blk_below Va.out hb (blk_lt Va.out))
  replace Vb := Lib.hid (blk_below Vb.out hb (blk_lt Vb.out))
  replace Vx := Lib.hid (blk_below Vx.out hb (blk_lt Vx.out))
  replace Vc := Lib.hid (blk_below Vc.out hb (blk_lt Vc.out))
  replace Vd := Lib.hid (blk_below Vd.out hb (blk_lt Vd.out))
  replace Rx := Lib.hid (Es.below Rx.out hb)
  replace Rc := Lib.hid (Es.below Rc.out hb)
  replace Rd := Lib.hid (Es.below Rd.out hb)
  replace HB := Lib.hid (And.intro (HB.out.1.trans (hb.mono HB.out.2)) (Nat.le_trans HB.out.2 hb.size))
  clear hb
  go_wp2_with fail
  refine (c9.out _).mono ?_
  rintro e w16 ⟨rfl, hb⟩
  replace Va := Lib.hid (blk_below Va.out hb (blk_lt Va.out))
  replace Vb := Lib.hid (blk_below Vb.out hb (blk_lt Vb.out))
  replace Vx := Lib.hid (blk_below Vx.out hb (blk_lt Vx.out))
  replace Vc := Lib.hid (blk_below Vc.out hb (blk_lt Vc.out))
  replace Vd := Lib.hid (blk_below Vd.out hb (blk_lt Vd.out))
  replace Rx := Lib.hid (Es.below Rx.out hb)
  replace Rc := Lib.hid (Es.below Rc.out hb)
  replace Rd := Lib.hid (Es.below Rd.out hb)
  replace HB := Lib.hid (And.intro (HB.out.1.trans (hb.mono HB.out.2)) (Nat.le_trans HB.out.2 hb.size))
  clear hb
  have cc0 := blk_cell Vc.out 0; have cc1 := blk_cell Vc.out 1
  simp only [List.getElem?_toArray, List.getElem?_cons_zero, List.getElem?_cons_succ] at cc0 cc1
  go_wp2_with fail
  refine (c10.out _ _ _ _ Rc.out).mono ?_
  rintro e w17 ⟨A1, n1, e1, rfl, his, hb⟩
  clear cc0 cc1
  replace Va := Lib.hid (blk_below Va.out hb (blk_lt Va.out))
  replace Vb := Lib.hid (blk_below Vb.out hb (blk_lt Vb.out))
  replace Vx := Lib.hid (blk_below Vx.out hb (blk_lt Vx.out))
  replace Vc := Lib.hid (blk_below Vc.out hb (blk_lt Vc.out))
  replace Vd := Lib.hid (blk_below Vd.out hb (blk_lt Vd.out))
  replace Rx := Lib.hid (Es.below Rx.out hb)
  replace Rc := Lib.hid (Es.below Rc.out hb)
  replace Rd := Lib.hid (Es.below Rd.out hb)
  replace HB := Lib.hid (And.intro (HB.out.1.trans (hb.mono HB.out.2)) (Nat.le_trans HB.out.2 hb.size))
  clear hb
  have I1 := Lib.hid his; clear his
  have hz : Below _ _ _ := (Below.refl w17.heap.size w17).alloc (Nat.le_refl _) (.cells #[.int .i64 0, .int .i64 2] 3)
  have I2 := Lib.hid (int_mk (w := w17) [0, 2] rfl)
  replace I1 := Lib.hid (Es.below I1.out hz)
  replace Vd := Lib.hid (blk_below Vd.out hz (blk_lt Vd.out))
  replace Rd := Lib.hid (Es.below Rd.out hz)
  replace HB := Lib.hid (And.intro (HB.out.1.trans (hz.mono HB.out.2)) (Nat.le_trans HB.out.2 hz.size))
  clear hz
  go_wp2_with fail
  refine (c12.out _ _ _ _ _ _ _ _ I1.out I2.out (by simp)).mono ?_
  rintro e w18 ⟨rfl, hb⟩
  replace Vd := Lib.hid (blk_below Vd.out hb (blk_lt Vd.out))
  replace Rd := Lib.hid (Es.below Rd.out hb)
  replace HB := Lib.hid (And.intro (HB.out.1.trans (hb.mono HB.out.2)) (Nat.le_trans HB.out.2 hb.size))
  clear hb
  have cd0 := blk_cell Vd.out 0; have cd1 := blk_cell Vd.out 1
  simp only [List.getElem?_toArray, List.getElem?_cons_zero, List.getElem?_cons_succ] at cd0 cd1
  go_wp2_with fail
  refine (c11.out _ _ _ _ Rd.out).mono ?_
  rintro e w19 ⟨A2, n2, e2, rfl, his, hb⟩
  clear cd0 cd1
  replace Vd := Lib.hid (blk_below Vd.out hb (blk_lt Vd.out))
  replace Rd := Lib.hid (Es.below Rd.out hb)
  replace HB := Lib.hid (And.intro (HB.out.1.trans (hb.mono HB.out.2)) (Nat.le_trans HB.out.2 hb.size))
  clear hb
  have I3 := Lib.hid his; clear his
  have hz : Below _ _ _ := (Below.refl w19.heap.size w19).alloc (Nat.le_refl _) (.cells #[.int .i64 2] 3)
  have I4 := Lib.hid (int_mk (w := w19) [2] rfl)
  replace I3 := Lib.hid (Es.below I3.out hz)
  replace HB := Lib.hid (And.intro (HB.out.1.trans (hz.mono HB.out.2)) (Nat.le_trans HB.out.2 hz.size))
  clear hz
  go_wp2_with fail
  refine (c12.out _ _ _ _ _ _ _ _ I3.out I4.out (by simp)).mono ?_
  rintro e w20 ⟨rfl, hb⟩
  replace HB := Lib.hid (And.intro (HB.out.1.trans (hb.mono HB.out.2)) (Nat.le_trans HB.out.2 hb.size))
  clear hb
  go_wp2
  go_ret
  exact ⟨rfl, HB.out.1⟩
end Go.Proofs.Ytglccgmhcncghaa
