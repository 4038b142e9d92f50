/- The fixed fact 'alive' of layer 9 is true, and writes nothing that was there; no condition. -/
import Derived.Test.YtfgfohomgomidaaTreP
import Derived.Test.YtfgfohomgomidaaAreG
namespace Go.Proofs.Ytfgfohomgomidaa
set_option linter.unusedVariables false
set_option linter.unusedSimpArgs false
open Go.RowKit
theorem is_lit9 (W : World) (xs : List Int) {m : Nat} (hm : m = xs.length) : Is (W.alloc (.cells (intC xs).toArray 3)) (some ⟨W.heap.size, 0, none⟩) m m xs := Es.new_ W _ (intC xs) (intC_one _) (by rw [intC_len, hm, Nat.mul_one])
set_option maxRecDepth 100000 in
set_option maxHeartbeats 8000000 in
theorem alive9 (w : World) : Calls Try.prog 7 #[] w fun e w' => e = .returned (.bool true) ∧ Below w.heap.size w w' := by
  obtain ⟨z, hz⟩ : ∃ z : Int, z = 0 := ⟨0, rfl⟩
  have c1 : ∀ W, Calls Try.prog 23 #[.int .i64 3] W (TAs w W [⟨-1, 0, 1, -1, -1, -1⟩, ⟨-1, 0, 2, -1, -1, -1⟩, ⟨-1, 0, -1, -1, -1, -1⟩] (-1) z 0) := fun W => by
    subst hz
    exact makeAs 3 (by decide) (by kernel_rfl)
  have c2 : ∀ B m d W, Rn w W B m d [⟨-1, 0, 1, -1, -1, -1⟩, ⟨-1, 0, 2, -1, -1, -1⟩, ⟨-1, 0, -1, -1, -1, -1⟩] → Calls Try.prog 9 #[.agg #[.slice B m d, .int .i64 (-1), .int .i64 z], .int .i64 1, .int .u32 5] W (IAs w W [⟨1, 5, -1, -1, -1, -1⟩, ⟨-1, 0, 2, -1, -1, -1⟩, ⟨-1, 0, -1, -1, -1, -1⟩] z 1 0 0) := fun B m d W hx => by
    subst hz
    exact insAs 1 5 hx (by have := hx.es.len; rw [ndC_len] at this; simp at this; omega) (by kernel_rfl)
  have c3 : ∀ B m d W, Rn w W B m d [⟨1, 5, -1, -1, -1, -1⟩, ⟨-1, 0, 2, -1, -1, -1⟩, ⟨-1, 0, -1, -1, -1, -1⟩] → Calls Try.prog 9 #[.agg #[.slice B m d, .int .i64 z, .int .i64 1], .int .i64 2, .int .u32 3] W (IAs w W [⟨1, 5, -1, -1, -1, -1⟩, ⟨2, 3, 0, -1, -1, -1⟩, ⟨-1, 0, -1, -1, -1, -1⟩] 1 2 1 0) := fun B m d W hx => by
    subst hz
    exact insAs 2 3 hx (by have := hx.es.len; rw [ndC_len] at this; simp at this; omega) (by kernel_rfl)
  have c4 : ∀ B m d W, Rn w W B m d [⟨1, 5, -1, -1, -1, -1⟩, ⟨2, 3, 0, -1, -1, -1⟩, ⟨-1, 0, -1, -1, -1, -1⟩] → Calls Try.prog 9 #[.agg #[.slice B m d, .int .i64 1, .int .i64 2], .int .i64 3, .int .u32 9] W (IAs w W [⟨1, 5, -1, -1, -1, -1⟩, ⟨2, 3, 0, 2, -1, -1⟩, ⟨3, 9, -1, -1, -1, -1⟩] 1 (-1) 2 0) := fun B m d W hx => by
    subst hz
    exact insAs 3 9 hx (by have := hx.es.len; rw [ndC_len] at this; simp at this; omega) (by kernel_rfl)
  have c5 : ∀ B m d W, Rn w W B m d [⟨1, 5, -1, -1, -1, -1⟩, ⟨2, 3, 0, 2, -1, -1⟩, ⟨3, 9, -1, -1, -1, -1⟩] → Calls Try.prog 9 #[.agg #[.slice B m d, .int .i64 1, .int .i64 (-1)], .int .i64 4, .int .u32 1] W (IAs w W [⟨1, 5, -1, -1, -1, -1⟩, ⟨2, 3, 0, 2, -1, -1⟩, ⟨3, 9, -1, -1, -1, -1⟩] 1 (-1) 0 6) := fun B m d W hx => by
    subst hz
    exact insAs 4 1 hx (by have := hx.es.len; rw [ndC_len] at this; simp at this; omega) (by kernel_rfl)
  have c6 : ∀ B m d W, Rn w W B m d [⟨1, 5, -1, -1, -1, -1⟩, ⟨2, 3, 0, 2, -1, -1⟩, ⟨3, 9, -1, -1, -1, -1⟩] → Calls Try.prog 9 #[.agg #[.slice B m d, .int .i64 1, .int .i64 (-1)], .int .i64 2, .int .u32 1] W (IAs w W [⟨1, 5, -1, -1, -1, -1⟩, ⟨2, 3, 0, 2, -1, -1⟩, ⟨3, 9, -1, -1, -1, -1⟩] 1 (-1) 0 8) := fun B m d W hx => by
    subst hz
    exact insAs 2 1 hx (by have := hx.es.len; rw [ndC_len] at this; simp at this; omega) (by kernel_rfl)
  have c7 : ∀ B m d W, Rn w W B m d [⟨1, 5, -1, -1, -1, -1⟩, ⟨2, 3, 0, 2, -1, -1⟩, ⟨3, 9, -1, -1, -1, -1⟩] → Calls Try.prog 13 #[.agg #[.slice B m d, .int .i64 1, .int .i64 (-1)], .int .i64 3] W (FindPost9 W (2, 2, true)) := fun B m d W hx => by
    subst hz
    exact findAs 3 hx (by have := hx.es.len; rw [ndC_len] at this; simp at this; omega) (by kernel_rfl)
  have c8 : ∀ B m d W, Rn w W B m d [⟨1, 5, -1, -1, -1, -1⟩, ⟨2, 3, 0, 2, -1, -1⟩, ⟨3, 9, -1, -1, -1, -1⟩] → Calls Try.prog 13 #[.agg #[.slice B m d, .int .i64 1, .int .i64 (-1)], .int .i64 9] W (FindPost9 W (0, 2, false)) := fun B m d W hx => by
    subst hz
    exact findAs 9 hx (by have := hx.es.len; rw [ndC_len] at this; simp at this; omega) (by kernel_rfl)
  have c9 : ∀ B m d W, Rn w W B m d [⟨1, 5, -1, -1, -1, -1⟩, ⟨2, 3, 0, 2, -1, -1⟩, ⟨3, 9, -1, -1, -1, -1⟩] → Calls Try.prog 11 #[.agg #[.slice B m d, .int .i64 1, .int .i64 (-1)], .int .i64 2] W (TAs w W [⟨1, 5, -1, 2, -1, -1⟩, ⟨-1, 0, -1, -1, -1, -1⟩, ⟨3, 9, -1, -1, -1, -1⟩] z 1 0) := fun B m d W hx => by
    subst hz
    exact delAs 2 hx (by have := hx.es.len; rw [ndC_len] at this; simp at this; omega) (by kernel_rfl)
  have c10 : ∀ B m d W, Rn w W B m d [⟨1, 5, -1, 2, -1, -1⟩, ⟨-1, 0, -1, -1, -1, -1⟩, ⟨3, 9, -1, -1, -1, -1⟩] → Calls Try.prog 21 #[.agg #[.slice B m d, .int .i64 z, .int .i64 1], .int .i64 3, .agg #[.int .i64 4, .int .i64 4]] W (TAs w W [⟨1, 5, -1, 2, -1, -1⟩, ⟨-1, 0, -1, -1, -1, -1⟩, ⟨3, 9, -1, -1, 4, 4⟩] z 1 0) := fun B m d W hx => by
    subst hz
    exact hangAs 3 4 4 hx (by have := hx.es.len; rw [ndC_len] at this; simp at this; omega) (by kernel_rfl)
  have c11 : ∀ B m d W, Rn w W B m d [⟨1, 5, -1, 2, -1, -1⟩, ⟨-1, 0, -1, -1, -1, -1⟩, ⟨3, 9, -1, -1, 4, 4⟩] → Calls Try.prog 11 #[.agg #[.slice B m d, .int .i64 z, .int .i64 1], .int .i64 3] W (TAs w W [⟨1, 5, -1, 2, -1, -1⟩, ⟨-1, 0, -1, -1, -1, -1⟩, ⟨3, 9, -1, -1, 4, 4⟩] z 1 8) := fun B m d W hx => by
    subst hz
    exact delAs 3 hx (by have := hx.es.len; rw [ndC_len] at this; simp at this; omega) (by kernel_rfl)
  have c12 : ∀ B m d W, Rn w W B m d [⟨1, 5, -1, 2, -1, -1⟩, ⟨-1, 0, -1, -1, -1, -1⟩, ⟨3, 9, -1, -1, -1, -1⟩] → Calls Try.prog 19 #[.agg #[.slice B m d, .int .i64 z, .int .i64 1]] W (fun e w' => ∃ A n c, e = .returned (.slice A n c) ∧ Is w' A n c [1, 3] ∧ Below W.heap.size W w') := fun B m d W hx => by
    subst hz
    exact keysAs hx (by have := hx.es.len; rw [ndC_len] at this; simp at this; omega) (by kernel_rfl)
  have c13 : ∀ B m d W, Rn w W B m d [⟨1, 5, -1, 2, -1, -1⟩, ⟨-1, 0, -1, -1, -1, -1⟩, ⟨3, 9, -1, -1, 4, 4⟩] → Calls Try.prog 16 #[.agg #[.slice B m d, .int .i64 z, .int .i64 1]] W (Yes9 W true) := fun B m d W hx => by
    subst hz
    exact right9As hx (by have := hx.es.len; rw [ndC_len] at this; simp at this; omega) (by kernel_rfl)
  have c14 : ∀ W, Calls Try.prog 16 #[.agg #[.slice none 0 0, .int .i64 0, .int .i64 0]] W (Yes9 W false) := fun W => right9As (w0 := w) (A := none) (n := 0) (c := 0) (ns := []) (rt := 0) (fr := 0) (Ro.nil _ _ _ _ _ _) (by decide) (by kernel_rfl)
  have c16 : ∀ (xs : List Int) (A B : Option Addr) (n c m d : Nat) W, Is W A n c xs → Is W B m d xs → xs.length ≤ 70 → Calls Try.prog 18 #[.slice A n c, .slice B m d] W (Yes9 W true) := fun xs A B n c m d W h1 h2 h3 => by have h := refInts_any A n c xs B m d xs W h1 h2 (by have := Is.len h1; omega); rwa [decide_eq_true rfl] at h
  have hz0 : (z == 0) = true := by simp [hz]
  clear hz
  have HB := Lib.hid (And.intro (Below.refl w.heap.size w) (Nat.le_refl w.heap.size))
  replace c1 := Lib.hid c1
  replace c2 := Lib.hid c2
  replace c3 := Lib.hid c3
  replace c4 := Lib.hid c4
  replace c5 := Lib.hid c5
  replace c6 := Lib.hid c6
  replace c7 := Lib.hid c7
  replace c8 := Lib.hid c8
  replace c9 := Lib.hid c9
  replace c10 := Lib.hid c10
  replace c11 := Lib.hid c11
  replace c12 := Lib.hid c12
  replace c13 := Lib.hid c13
  replace c14 := Lib.hid c14
  replace c16 := Lib.hid c16
  go_enter Try.func7, Try.ntmps7
  go_wp2_with fail
  refine (c1.out _).mono ?_
  rintro e w1 ⟨B1, m1, d1, rfl, hrs, hb⟩
  replace HB := Lib.hid (And.intro (HB.out.1.trans (hb.mono HB.out.2)) (Nat.le_trans HB.out.2 hb.size))
  have Ra := Lib.hid hrs
  clear hrs
  clear hb
  have gq := HB.out.2
  obtain ⟨w2, hw2⟩ : ∃ W, (w1.alloc (.cells #[.slice B1 m1 d1, .int .i64 (-1), .int .i64 z] 24)) = W := ⟨_, rfl⟩
  have hb : Below w1.heap.size w1 w2 := hw2 ▸ ((Below.refl _ _).alloc (Nat.le_refl _) _)
  have hv0 : w2.heap[w1.heap.size]? = some (.cells #[.slice B1 m1 d1, .int .i64 (-1), .int .i64 z] 24) := by
    have h0 := heap_alloc_new w1 (.cells #[.slice B1 m1 d1, .int .i64 (-1), .int .i64 z] 24)
    rw [show w1.heap.size = w1.heap.size by simp [Nat.add_assoc]] at h0
    rw [← hw2]
    exact h0
  replace Ra := Lib.hid (Ro.below Ra.out hb)
  replace HB := Lib.hid (And.intro (HB.out.1.trans (hb.mono HB.out.2)) (Nat.le_trans HB.out.2 hb.size))
  have Vt := Lib.hid hv0
  have get := gq
  generalize hst : w1.heap.size = st at *
  clear hb gq hv0
  have ct0 : w2.cell? ⟨st, 0, none⟩ = some (.slice B1 m1 d1) := (blk_cell Vt.out 0).trans rfl
  have ct1 : w2.cell? ⟨st, 1, none⟩ = some (.int .i64 (-1)) := (blk_cell Vt.out 1).trans rfl
  have ct2 : w2.cell? ⟨st, 2, none⟩ = some (.int .i64 z) := (blk_cell Vt.out 2).trans rfl
  go_wp2_with fail
  refine (c2.out _ _ _ _ Ra.out).mono ?_
  rintro e w3 ⟨B2, m2, d2, rfl, hrs, hb⟩
  clear ct0 ct1 ct2
  replace Vt := Lib.hid (blk_below Vt.out hb (blk_lt Vt.out))
  replace Ra := Lib.hid (Ro.below Ra.out hb)
  replace HB := Lib.hid (And.intro (HB.out.1.trans (hb.mono HB.out.2)) (Nat.le_trans HB.out.2 hb.size))
  have Rb := Lib.hid hrs
  clear hrs
  clear hb
  clear Ra
  have pct0 : w3.cell? ⟨st, 0, none⟩ = some (.slice B1 m1 d1) := (blk_cell Vt.out 0).trans rfl
  have pft0 : w3.frozen? ⟨st, 0, none⟩ = false := blk_frozen Vt.out 0
  have pct1 : w3.cell? ⟨st, 1, none⟩ = some (.int .i64 (-1)) := (blk_cell Vt.out 1).trans rfl
  have pft1 : w3.frozen? ⟨st, 1, none⟩ = false := blk_frozen Vt.out 1
  have pct2 : w3.cell? ⟨st, 2, none⟩ = some (.int .i64 z) := (blk_cell Vt.out 2).trans rfl
  have pft2 : w3.frozen? ⟨st, 2, none⟩ = false := blk_frozen Vt.out 2
  obtain ⟨w4, hw4⟩ : ∃ W, (((w3.setCell ⟨st, 0, none⟩ (.slice B2 m2 d2)).setCell ⟨st, 1, none⟩ (.int .i64 z)).setCell ⟨st, 2, none⟩ (.int .i64 1)) = W := ⟨_, rfl⟩
  replace Rb := Lib.hid (hw4 ▸ (((Rb.out.set (o := 0) (u := .slice B2 m2 d2) Vt.out (by decide) get).set (o := 1) (u := .int .i64 z) (blk_set (j := 0) Vt.out (.slice B2 m2 d2)) (by decide) get).set (o := 2) (u := .int .i64 1) (blk_set (j := 1) (blk_set (j := 0) Vt.out (.slice B2 m2 d2)) (.int .i64 z)) (by decide) get))
  have Vt2 := (blk_set (j := 2) (blk_set (j := 1) (blk_set (j := 0) Vt.out (.slice B2 m2 d2)) (.int .i64 z)) (.int .i64 1))
  replace Vt := Lib.hid (show w4.heap[st]? = some (.cells #[.slice B2 m2 d2, .int .i64 z, .int .i64 1] 24) from hw4 ▸ Vt2)
  clear Vt2
  have hbb : Below _ _ w4 := hw4 ▸ (Below.setCell (Below.setCell (Below.setCell HB.out.1 (p := ⟨st, 0, none⟩) (show _ ≤ st from get) (.slice B2 m2 d2)) (p := ⟨st, 1, none⟩) (show _ ≤ st from get) (.int .i64 z)) (p := ⟨st, 2, none⟩) (show _ ≤ st from get) (.int .i64 1))
  have hbs : w4.heap.size = w3.heap.size := by rw [← hw4]; simp [World.setCell]
  replace HB := Lib.hid (And.intro hbb (show _ ≤ w4.heap.size by rw [hbs]; exact HB.out.2))
  clear hbb hbs
  have ct0 : w4.cell? ⟨st, 0, none⟩ = some (.slice B2 m2 d2) := (blk_cell Vt.out 0).trans rfl
  have ct1 : w4.cell? ⟨st, 1, none⟩ = some (.int .i64 z) := (blk_cell Vt.out 1).trans rfl
  have ct2 : w4.cell? ⟨st, 2, none⟩ = some (.int .i64 1) := (blk_cell Vt.out 2).trans rfl
  go_wp2_with fail
  refine (c3.out _ _ _ _ Rb.out).mono ?_
  rintro e w5 ⟨B3, m3, d3, rfl, hrs, hb⟩
  clear pct0 pft0 pct1 pft1 pct2 pft2 ct0 ct1 ct2
  replace Vt := Lib.hid (blk_below Vt.out hb (blk_lt Vt.out))
  replace Rb := Lib.hid (Ro.below Rb.out hb)
  replace HB := Lib.hid (And.intro (HB.out.1.trans (hb.mono HB.out.2)) (Nat.le_trans HB.out.2 hb.size))
  have Ra := Lib.hid hrs
  clear hrs
  clear hb
  clear Rb
  have pct0 : w5.cell? ⟨st, 0, none⟩ = some (.slice B2 m2 d2) := (blk_cell Vt.out 0).trans rfl
  have pft0 : w5.frozen? ⟨st, 0, none⟩ = false := blk_frozen Vt.out 0
  have pct1 : w5.cell? ⟨st, 1, none⟩ = some (.int .i64 z) := (blk_cell Vt.out 1).trans rfl
  have pft1 : w5.frozen? ⟨st, 1, none⟩ = false := blk_frozen Vt.out 1
  have pct2 : w5.cell? ⟨st, 2, none⟩ = some (.int .i64 1) := (blk_cell Vt.out 2).trans rfl
  have pft2 : w5.frozen? ⟨st, 2, none⟩ = false := blk_frozen Vt.out 2
  obtain ⟨w6, hw6⟩ : ∃ W, (((w5.setCell ⟨st, 0, none⟩ (.slice B3 m3 d3)).setCell ⟨st, 1, none⟩ (.int .i64 1)).setCell ⟨st, 2, none⟩ (.int .i64 2)) = W := ⟨_, rfl⟩
  replace Ra := Lib.hid (hw6 ▸ (((Ra.out.set (o := 0) (u := .slice B3 m3 d3) Vt.out (by decide) get).set (o := 1) (u := .int .i64 1) (blk_set (j := 0) Vt.out (.slice B3 m3 d3)) (by decide) get).set (o := 2) (u := .int .i64 2) (blk_set (j := 1) (blk_set (j := 0) Vt.out (.slice B3 m3 d3)) (.int .i64 1)) (by decide) get))
  have Vt2 := (blk_set (j := 2) (blk_set (j := 1) (blk_set (j := 0) Vt.out (.slice B3 m3 d3)) (.int .i64 1)) (.int .i64 2))
  replace Vt := Lib.hid (show w6.heap[st]? = some (.cells #[.slice B3 m3 d3, .int .i64 1, .int .i64 2] 24) from hw6 ▸ Vt2)
  clear Vt2
  have hbb : Below _ _ w6 := hw6 ▸ (Below.setCell (Below.setCell (Below.setCell HB.out.1 (p := ⟨st, 0, none⟩) (show _ ≤ st from get) (.slice B3 m3 d3)) (p := ⟨st, 1, none⟩) (show _ ≤ st from get) (.int .i64 1)) (p := ⟨st, 2, none⟩) (show _ ≤ st from get) (.int .i64 2))
  have hbs : w6.heap.size = w5.heap.size := by rw [← hw6]; simp [World.setCell]
  replace HB := Lib.hid (And.intro hbb (show _ ≤ w6.heap.size by rw [hbs]; exact HB.out.2))
  clear hbb hbs
  have ct0 : w6.cell? ⟨st, 0, none⟩ = some (.slice B3 m3 d3) := (blk_cell Vt.out 0).trans rfl
  have ct1 : w6.cell? ⟨st, 1, none⟩ = some (.int .i64 1) := (blk_cell Vt.out 1).trans rfl
  have ct2 : w6.cell? ⟨st, 2, none⟩ = some (.int .i64 2) := (blk_cell Vt.out 2).trans rfl
  go_wp2_with fail
  refine (c4.out _ _ _ _ Ra.out).mono ?_
  rintro e w7 ⟨B4, m4, d4, rfl, hrs, hb⟩
  clear pct0 pft0 pct1 pft1 pct2 pft2 ct0 ct1 ct2
  replace Vt := Lib.hid (blk_below Vt.out hb (blk_lt Vt.out))
  replace Ra := Lib.hid (Ro.below Ra.out hb)
  replace HB := Lib.hid (And.intro (HB.out.1.trans (hb.mono HB.out.2)) (Nat.le_trans HB.out.2 hb.size))
  have Rb := Lib.hid hrs
  clear hrs
  clear hb
  clear Ra
  have pct0 : w7.cell? ⟨st, 0, none⟩ = some (.slice B3 m3 d3) := (blk_cell Vt.out 0).trans rfl
  have pft0 : w7.frozen? ⟨st, 0, none⟩ = false := blk_frozen Vt.out 0
  have pct1 : w7.cell? ⟨st, 1, none⟩ = some (.int .i64 1) := (blk_cell Vt.out 1).trans rfl
  have pft1 : w7.frozen? ⟨st, 1, none⟩ = false := blk_frozen Vt.out 1
  have pct2 : w7.cell? ⟨st, 2, none⟩ = some (.int .i64 2) := (blk_cell Vt.out 2).trans rfl
  have pft2 : w7.frozen? ⟨st, 2, none⟩ = false := blk_frozen Vt.out 2
  obtain ⟨w8, hw8⟩ : ∃ W, (((w7.setCell ⟨st, 0, none⟩ (.slice B4 m4 d4)).setCell ⟨st, 1, none⟩ (.int .i64 1)).setCell ⟨st, 2, none⟩ (.int .i64 (-1))) = W := ⟨_, rfl⟩
  replace Rb := Lib.hid (hw8 ▸ (((Rb.out.set (o := 0) (u := .slice B4 m4 d4) Vt.out (by decide) get).set (o := 1) (u := .int .i64 1) (blk_set (j := 0) Vt.out (.slice B4 m4 d4)) (by decide) get).set (o := 2) (u := .int .i64 (-1)) (blk_set (j := 1) (blk_set (j := 0) Vt.out (.slice B4 m4 d4)) (.int .i64 1)) (by decide) get))
  have Vt2 := (blk_set (j := 2) (blk_set (j := 1) (blk_set (j := 0) Vt.out (.slice B4 m4 d4)) (.int .i64 1)) (.int .i64 (-1)))
  replace Vt := Lib.hid (show w8.heap[st]? = some (.cells #[.slice B4 m4 d4, .int .i64 1, .int .i64 (-1)] 24) from hw8 ▸ Vt2)
  clear Vt2
  have hbb : Below _ _ w8 := hw8 ▸ (Below.setCell (Below.setCell (Below.setCell HB.out.1 (p := ⟨st, 0, none⟩) (show _ ≤ st from get) (.slice B4 m4 d4)) (p := ⟨st, 1, none⟩) (show _ ≤ st from get) (.int .i64 1)) (p := ⟨st, 2, none⟩) (show _ ≤ st from get) (.int .i64 (-1)))
  have hbs : w8.heap.size = w7.heap.size := by rw [← hw8]; simp [World.setCell]
  replace HB := Lib.hid (And.intro hbb (show _ ≤ w8.heap.size by rw [hbs]; exact HB.out.2))
  clear hbb hbs
  have ct0 : w8.cell? ⟨st, 0, none⟩ = some (.slice B4 m4 d4) := (blk_cell Vt.out 0).trans rfl
  have ct1 : w8.cell? ⟨st, 1, none⟩ = some (.int .i64 1) := (blk_cell Vt.out 1).trans rfl
  have ct2 : w8.cell? ⟨st, 2, none⟩ = some (.int .i64 (-1)) := (blk_cell Vt.out 2).trans rfl
  go_wp2_with fail
  refine (c5.out _ _ _ _ Rb.out).mono ?_
  rintro e w9 ⟨B5, m5, d5, rfl, hrs, hb⟩
  clear pct0 pft0 pct1 pft1 pct2 pft2 ct0 ct1 ct2
  replace Vt := Lib.hid (blk_below Vt.out hb (blk_lt Vt.out))
  replace Rb := Lib.hid (Ro.below Rb.out hb)
  replace HB := Lib.hid (And.intro (HB.out.1.trans (hb.mono HB.out.2)) (Nat.le_trans HB.out.2 hb.size))
  have Rx := Lib.hid hrs
  clear hrs
  clear hb
  have ltt := blk_lt Vt.out
  have gq := HB.out.2
  obtain ⟨w10, hw10⟩ : ∃ W, (w9.alloc (.cells #[.slice B5 m5 d5, .int .i64 1, .int .i64 (-1)] 24)) = W := ⟨_, rfl⟩
  have hb : Below w9.heap.size w9 w10 := hw10 ▸ ((Below.refl _ _).alloc (Nat.le_refl _) _)
  have hv0 : w10.heap[w9.heap.size]? = some (.cells #[.slice B5 m5 d5, .int .i64 1, .int .i64 (-1)] 24) := by
    have h0 := heap_alloc_new w9 (.cells #[.slice B5 m5 d5, .int .i64 1, .int .i64 (-1)] 24)
    rw [show w9.heap.size = w9.heap.size by simp [Nat.add_assoc]] at h0
    rw [← hw10]
    exact h0
  replace Vt := Lib.hid (blk_below Vt.out hb (blk_lt Vt.out))
  replace Rb := Lib.hid (Ro.below Rb.out hb)
  replace Rx := Lib.hid (Ro.below Rx.out hb)
  replace HB := Lib.hid (And.intro (HB.out.1.trans (hb.mono HB.out.2)) (Nat.le_trans HB.out.2 hb.size))
  have Vx5 := Lib.hid hv0
  have net_x5 := Nat.ne_of_lt ltt
  have gex5 := gq
  generalize hsx5 : w9.heap.size = sx5 at *
  clear hb gq hv0 ltt
  clear Rx
  clear Vx5
  have ct0 : w10.cell? ⟨st, 0, none⟩ = some (.slice B4 m4 d4) := (blk_cell Vt.out 0).trans rfl
  have ct1 : w10.cell? ⟨st, 1, none⟩ = some (.int .i64 1) := (blk_cell Vt.out 1).trans rfl
  have ct2 : w10.cell? ⟨st, 2, none⟩ = some (.int .i64 (-1)) := (blk_cell Vt.out 2).trans rfl
  go_wp2_with fail
  refine (c6.out _ _ _ _ Rb.out).mono ?_
  rintro e w11 ⟨B6, m6, d6, rfl, hrs, hb⟩
  clear ct0 ct1 ct2
  replace Vt := Lib.hid (blk_below Vt.out hb (blk_lt Vt.out))
  replace Rb := Lib.hid (Ro.below Rb.out hb)
  replace HB := Lib.hid (And.intro (HB.out.1.trans (hb.mono HB.out.2)) (Nat.le_trans HB.out.2 hb.size))
  have Rx := Lib.hid hrs
  clear hrs
  clear hb
  have ltt := blk_lt Vt.out
  have gq := HB.out.2
  obtain ⟨w12, hw12⟩ : ∃ W, (w11.alloc (.cells #[.slice B6 m6 d6, .int .i64 1, .int .i64 (-1)] 24)) = W := ⟨_, rfl⟩
  have hb : Below w11.heap.size w11 w12 := hw12 ▸ ((Below.refl _ _).alloc (Nat.le_refl _) _)
  have hv0 : w12.heap[w11.heap.size]? = some (.cells #[.slice B6 m6 d6, .int .i64 1, .int .i64 (-1)] 24) := by
    have h0 := heap_alloc_new w11 (.cells #[.slice B6 m6 d6, .int .i64 1, .int .i64 (-1)] 24)
    rw [show w11.heap.size = w11.heap.size by simp [Nat.add_assoc]] at h0
    rw [← hw12]
    exact h0
  replace Vt := Lib.hid (blk_below Vt.out hb (blk_lt Vt.out))
  replace Rb := Lib.hid (Ro.below Rb.out hb)
  replace Rx := Lib.hid (Ro.below Rx.out hb)
  replace HB := Lib.hid (And.intro (HB.out.1.trans (hb.mono HB.out.2)) (Nat.le_trans HB.out.2 hb.size))
  have Vx6 := Lib.hid hv0
  have net_x6 := Nat.ne_of_lt ltt
  have gex6 := gq
  generalize hsx6 : w11.heap.size = sx6 at *
  clear hb gq hv0 ltt
  clear Rx
  clear Vx6
  have ct0 : w12.cell? ⟨st, 0, none⟩ = some (.slice B4 m4 d4) := (blk_cell Vt.out 0).trans rfl
  have ct1 : w12.cell? ⟨st, 1, none⟩ = some (.int .i64 1) := (blk_cell Vt.out 1).trans rfl
  have ct2 : w12.cell? ⟨st, 2, none⟩ = some (.int .i64 (-1)) := (blk_cell Vt.out 2).trans rfl
  go_wp2_with fail
  refine (c7.out _ _ _ _ Rb.out).mono ?_
  rintro e w13 ⟨rfl, hb⟩
  clear ct0 ct1 ct2
  replace Vt := Lib.hid (blk_below Vt.out hb (blk_lt Vt.out))
  replace Rb := Lib.hid (Ro.below Rb.out hb)
  replace HB := Lib.hid (And.intro (HB.out.1.trans (hb.mono HB.out.2)) (Nat.le_trans HB.out.2 hb.size))
  clear hb
  have ct0 : w13.cell? ⟨st, 0, none⟩ = some (.slice B4 m4 d4) := (blk_cell Vt.out 0).trans rfl
  have ct1 : w13.cell? ⟨st, 1, none⟩ = some (.int .i64 1) := (blk_cell Vt.out 1).trans rfl
  have ct2 : w13.cell? ⟨st, 2, none⟩ = some (.int .i64 (-1)) := (blk_cell Vt.out 2).trans rfl
  go_wp2_with fail
  refine (c8.out _ _ _ _ Rb.out).mono ?_
  rintro e w14 ⟨rfl, hb⟩
  clear ct0 ct1 ct2
  replace Vt := Lib.hid (blk_below Vt.out hb (blk_lt Vt.out))
  replace Rb := Lib.hid (Ro.below Rb.out hb)
  replace HB := Lib.hid (And.intro (HB.out.1.trans (hb.mono HB.out.2)) (Nat.le_trans HB.out.2 hb.size))
  clear hb
  have ct0 : w14.cell? ⟨st, 0, none⟩ = some (.slice B4 m4 d4) := (blk_cell Vt.out 0).trans rfl
  have ct1 : w14.cell? ⟨st, 1, none⟩ = some (.int .i64 1) := (blk_cell Vt.out 1).trans rfl
  have ct2 : w14.cell? ⟨st, 2, none⟩ = some (.int .i64 (-1)) := (blk_cell Vt.out 2).trans rfl
  go_wp2_with fail
  refine (c9.out _ _ _ _ Rb.out).mono ?_
  rintro e w15 ⟨B7, m7, d7, rfl, hrs, hb⟩
  clear ct0 ct1 ct2
  replace Vt := Lib.hid (blk_below Vt.out hb (blk_lt Vt.out))
  replace Rb := Lib.hid (Ro.below Rb.out hb)
  replace HB := Lib.hid (And.intro (HB.out.1.trans (hb.mono HB.out.2)) (Nat.le_trans HB.out.2 hb.size))
  have Ru := Lib.hid hrs
  clear hrs
  clear hb
  have ltt := blk_lt Vt.out
  have gq := HB.out.2
  obtain ⟨w16, hw16⟩ : ∃ W, (w15.alloc (.cells #[.slice B7 m7 d7, .int .i64 z, .int .i64 1] 24)) = W := ⟨_, rfl⟩
  have hb : Below w15.heap.size w15 w16 := hw16 ▸ ((Below.refl _ _).alloc (Nat.le_refl _) _)
  have hv0 : w16.heap[w15.heap.size]? = some (.cells #[.slice B7 m7 d7, .int .i64 z, .int .i64 1] 24) := by
    have h0 := heap_alloc_new w15 (.cells #[.slice B7 m7 d7, .int .i64 z, .int .i64 1] 24)
    rw [show w15.heap.size = w15.heap.size by simp [Nat.add_assoc]] at h0
    rw [← hw16]
    exact h0
  replace Vt := Lib.hid (blk_below Vt.out hb (blk_lt Vt.out))
  replace Rb := Lib.hid (Ro.below Rb.out hb)
  replace Ru := Lib.hid (Ro.below Ru.out hb)
  replace HB := Lib.hid (And.intro (HB.out.1.trans (hb.mono HB.out.2)) (Nat.le_trans HB.out.2 hb.size))
  have Vu := Lib.hid hv0
  have net_u := Nat.ne_of_lt ltt
  have geu := gq
  generalize hsu : w15.heap.size = su at *
  clear hb gq hv0 ltt
  have cu0 : w16.cell? ⟨su, 0, none⟩ = some (.slice B7 m7 d7) := (blk_cell Vu.out 0).trans rfl
  have cu1 : w16.cell? ⟨su, 1, none⟩ = some (.int .i64 z) := (blk_cell Vu.out 1).trans rfl
  have cu2 : w16.cell? ⟨su, 2, none⟩ = some (.int .i64 1) := (blk_cell Vu.out 2).trans rfl
  go_wp2_with fail
  refine (c10.out _ _ _ _ Ru.out).mono ?_
  rintro e w17 ⟨B8, m8, d8, rfl, hrs, hb⟩
  clear cu0 cu1 cu2
  replace Vt := Lib.hid (blk_below Vt.out hb (blk_lt Vt.out))
  replace Vu := Lib.hid (blk_below Vu.out hb (blk_lt Vu.out))
  replace Rb := Lib.hid (Ro.below Rb.out hb)
  replace Ru := Lib.hid (Ro.below Ru.out hb)
  replace HB := Lib.hid (And.intro (HB.out.1.trans (hb.mono HB.out.2)) (Nat.le_trans HB.out.2 hb.size))
  have Rv := Lib.hid hrs
  clear hrs
  clear hb
  have ltt := blk_lt Vt.out
  have ltu := blk_lt Vu.out
  have gq := HB.out.2
  obtain ⟨w18, hw18⟩ : ∃ W, (w17.alloc (.cells #[.slice B8 m8 d8, .int .i64 z, .int .i64 1] 24)) = W := ⟨_, rfl⟩
  have hb : Below w17.heap.size w17 w18 := hw18 ▸ ((Below.refl _ _).alloc (Nat.le_refl _) _)
  have hv0 : w18.heap[w17.heap.size]? = some (.cells #[.slice B8 m8 d8, .int .i64 z, .int .i64 1] 24) := by
    have h0 := heap_alloc_new w17 (.cells #[.slice B8 m8 d8, .int .i64 z, .int .i64 1] 24)
    rw [show w17.heap.size = w17.heap.size by simp [Nat.add_assoc]] at h0
    rw [← hw18]
    exact h0
  replace Vt := Lib.hid (blk_below Vt.out hb (blk_lt Vt.out))
  replace Vu := Lib.hid (blk_below Vu.out hb (blk_lt Vu.out))
  replace Rb := Lib.hid (Ro.below Rb.out hb)
  replace Ru := Lib.hid (Ro.below Ru.out hb)
  replace Rv := Lib.hid (Ro.below Rv.out hb)
  replace HB := Lib.hid (And.intro (HB.out.1.trans (hb.mono HB.out.2)) (Nat.le_trans HB.out.2 hb.size))
  have Vv := Lib.hid hv0
  have net_v := Nat.ne_of_lt ltt
  have neu_v := Nat.ne_of_lt ltu
  have gev := gq
  generalize hsv : w17.heap.size = sv at *
  clear hb gq hv0 ltt ltu
  have cv0 : w18.cell? ⟨sv, 0, none⟩ = some (.slice B8 m8 d8) := (blk_cell Vv.out 0).trans rfl
  have cv1 : w18.cell? ⟨sv, 1, none⟩ = some (.int .i64 z) := (blk_cell Vv.out 1).trans rfl
  have cv2 : w18.cell? ⟨sv, 2, none⟩ = some (.int .i64 1) := (blk_cell Vv.out 2).trans rfl
  go_wp2_with fail
  refine (c11.out _ _ _ _ Rv.out).mono ?_
  rintro e w19 ⟨B9, m9, d9, rfl, hrs, hb⟩
  clear cv0 cv1 cv2
  replace Vt := Lib.hid (blk_below Vt.out hb (blk_lt Vt.out))
  replace Vu := Lib.hid (blk_below Vu.out hb (blk_lt Vu.out))
  replace Vv := Lib.hid (blk_below Vv.out hb (blk_lt Vv.out))
  replace Rb := Lib.hid (Ro.below Rb.out hb)
  replace Ru := Lib.hid (Ro.below Ru.out hb)
  replace Rv := Lib.hid (Ro.below Rv.out hb)
  replace HB := Lib.hid (And.intro (HB.out.1.trans (hb.mono HB.out.2)) (Nat.le_trans HB.out.2 hb.size))
  have Ry := Lib.hid hrs
  clear hrs
  clear hb
  have ltt := blk_lt Vt.out
  have ltu := blk_lt Vu.out
  have ltv := blk_lt Vv.out
  have gq := HB.out.2
  obtain ⟨w20, hw20⟩ : ∃ W, (w19.alloc (.cells #[.slice B9 m9 d9, .int .i64 z, .int .i64 1] 24)) = W := ⟨_, rfl⟩
  have hb : Below w19.heap.size w19 w20 := hw20 ▸ ((Below.refl _ _).alloc (Nat.le_refl _) _)
  have hv0 : w20.heap[w19.heap.size]? = some (.cells #[.slice B9 m9 d9, .int .i64 z, .int .i64 1] 24) := by
    have h0 := heap_alloc_new w19 (.cells #[.slice B9 m9 d9, .int .i64 z, .int .i64 1] 24)
    rw [show w19.heap.size = w19.heap.size by simp [Nat.add_assoc]] at h0
    rw [← hw20]
    exact h0
  replace Vt := Lib.hid (blk_below Vt.out hb (blk_lt Vt.out))
  replace Vu := Lib.hid (blk_below Vu.out hb (blk_lt Vu.out))
  replace Vv := Lib.hid (blk_below Vv.out hb (blk_lt Vv.out))
  replace Rb := Lib.hid (Ro.below Rb.out hb)
  replace Ru := Lib.hid (Ro.below Ru.out hb)
  replace Rv := Lib.hid (Ro.below Rv.out hb)
  replace Ry := Lib.hid (Ro.below Ry.out hb)
  replace HB := Lib.hid (And.intro (HB.out.1.trans (hb.mono HB.out.2)) (Nat.le_trans HB.out.2 hb.size))
  have Vy := Lib.hid hv0
  have net_y := Nat.ne_of_lt ltt
  have neu_y := Nat.ne_of_lt ltu
  have nev_y := Nat.ne_of_lt ltv
  have gey := gq
  generalize hsy : w19.heap.size = sy at *
  clear hb gq hv0 ltt ltu ltv
  clear Ry
  clear Vy
  have hml : m4 = 3 := by have := Rb.out.es.len; rw [ndC_len] at this; simp at this; omega
  subst hml
  obtain ⟨b, off, rfl, hb0, _, _, k2, k3, _, _⟩ := Ns.look Rb.out.es 1 (by decide)
  have k8 : w20.cell? ⟨b, off + 8, none⟩ = some (.int .i64 0) := k2
  have k9 : w20.cell? ⟨b, off + 9, none⟩ = some (.int .i64 2) := k3
  have k62 : w20.cell? ⟨b, off + 6 + 2, none⟩ = some (.int .i64 0) := k2
  have k63 : w20.cell? ⟨b, off + 6 + 3, none⟩ = some (.int .i64 2) := k3
  clear k2 k3 hb0
  have ct0 : w20.cell? ⟨st, 0, none⟩ = some (.slice (some ⟨b, off, none⟩) 3 d4) := (blk_cell Vt.out 0).trans rfl
  have ct1 : w20.cell? ⟨st, 1, none⟩ = some (.int .i64 1) := (blk_cell Vt.out 1).trans rfl
  have ct2 : w20.cell? ⟨st, 2, none⟩ = some (.int .i64 (-1)) := (blk_cell Vt.out 2).trans rfl
  have cu0 : w20.cell? ⟨su, 0, none⟩ = some (.slice B7 m7 d7) := (blk_cell Vu.out 0).trans rfl
  have cu1 : w20.cell? ⟨su, 1, none⟩ = some (.int .i64 z) := (blk_cell Vu.out 1).trans rfl
  have cu2 : w20.cell? ⟨su, 2, none⟩ = some (.int .i64 1) := (blk_cell Vu.out 2).trans rfl
  go_wp2_with fail
  refine (c12.out _ _ _ _ Ru.out).mono ?_
  rintro e w21 ⟨A1, n1, e1, rfl, his, hb⟩
  clear ct0 ct1 ct2 cu0 cu1 cu2
  replace Vt := Lib.hid (blk_below Vt.out hb (blk_lt Vt.out))
  replace Vu := Lib.hid (blk_below Vu.out hb (blk_lt Vu.out))
  replace Vv := Lib.hid (blk_below Vv.out hb (blk_lt Vv.out))
  replace Rb := Lib.hid (Ro.below Rb.out hb)
  replace Ru := Lib.hid (Ro.below Ru.out hb)
  replace Rv := Lib.hid (Ro.below Rv.out hb)
  replace HB := Lib.hid (And.intro (HB.out.1.trans (hb.mono HB.out.2)) (Nat.le_trans HB.out.2 hb.size))
  clear hb
  have hz : Below _ _ _ := (Below.refl w21.heap.size w21).alloc (Nat.le_refl _) (.cells (intC [1, 3]).toArray 3)
  have I1 := Lib.hid (Es.below his hz)
  have I2 := Lib.hid (is_lit9 w21 [1, 3] rfl)
  clear his
  replace Vt := Lib.hid (blk_below Vt.out hz (blk_lt Vt.out))
  replace Vu := Lib.hid (blk_below Vu.out hz (blk_lt Vu.out))
  replace Vv := Lib.hid (blk_below Vv.out hz (blk_lt Vv.out))
  replace Rb := Lib.hid (Ro.below Rb.out hz)
  replace Ru := Lib.hid (Ro.below Ru.out hz)
  replace Rv := Lib.hid (Ro.below Rv.out hz)
  replace HB := Lib.hid (And.intro (HB.out.1.trans (hz.mono HB.out.2)) (Nat.le_trans HB.out.2 hz.size))
  clear hz
  go_wp2_with fail
  refine (c16.out _ _ _ _ _ _ _ _ I1.out I2.out (by simp)).mono ?_
  rintro e w22 ⟨rfl, hb⟩
  replace Vt := Lib.hid (blk_below Vt.out hb (blk_lt Vt.out))
  replace Vu := Lib.hid (blk_below Vu.out hb (blk_lt Vu.out))
  replace Vv := Lib.hid (blk_below Vv.out hb (blk_lt Vv.out))
  replace Rb := Lib.hid (Ro.below Rb.out hb)
  replace Ru := Lib.hid (Ro.below Ru.out hb)
  replace Rv := Lib.hid (Ro.below Rv.out hb)
  replace HB := Lib.hid (And.intro (HB.out.1.trans (hb.mono HB.out.2)) (Nat.le_trans HB.out.2 hb.size))
  clear hb
  clear I1 I2
  have cv0 : w22.cell? ⟨sv, 0, none⟩ = some (.slice B8 m8 d8) := (blk_cell Vv.out 0).trans rfl
  have cv1 : w22.cell? ⟨sv, 1, none⟩ = some (.int .i64 z) := (blk_cell Vv.out 1).trans rfl
  have cv2 : w22.cell? ⟨sv, 2, none⟩ = some (.int .i64 1) := (blk_cell Vv.out 2).trans rfl
  go_wp2_with fail
  refine (c13.out _ _ _ _ Rv.out).mono ?_
  rintro e w23 ⟨rfl, hb⟩
  clear cv0 cv1 cv2
  replace Vt := Lib.hid (blk_below Vt.out hb (blk_lt Vt.out))
  replace Vu := Lib.hid (blk_below Vu.out hb (blk_lt Vu.out))
  replace Vv := Lib.hid (blk_below Vv.out hb (blk_lt Vv.out))
  replace Rb := Lib.hid (Ro.below Rb.out hb)
  replace Ru := Lib.hid (Ro.below Ru.out hb)
  replace Rv := Lib.hid (Ro.below Rv.out hb)
  replace HB := Lib.hid (And.intro (HB.out.1.trans (hb.mono HB.out.2)) (Nat.le_trans HB.out.2 hb.size))
  clear hb
  go_wp2_with fail
  refine (c14.out _).mono ?_
  rintro e w24 ⟨rfl, hb⟩
  replace Vt := Lib.hid (blk_below Vt.out hb (blk_lt Vt.out))
  replace Vu := Lib.hid (blk_below Vu.out hb (blk_lt Vu.out))
  replace Vv := Lib.hid (blk_below Vv.out hb (blk_lt Vv.out))
  replace Rb := Lib.hid (Ro.below Rb.out hb)
  replace Ru := Lib.hid (Ro.below Ru.out hb)
  replace Rv := Lib.hid (Ro.below Rv.out hb)
  replace HB := Lib.hid (And.intro (HB.out.1.trans (hb.mono HB.out.2)) (Nat.le_trans HB.out.2 hb.size))
  clear hb
  go_wp2
  go_ret
  exact ⟨rfl, HB.out.1⟩
end Go.Proofs.Ytfgfohomgomidaa
