/- The fixed fact 'alive' of layer 12 is true, and writes nothing that was there; no condition. -/
import Derived.Test.YtehpfpphpffniaaTimP
import Derived.Test.YtehpfpphpffniaaRo
namespace Go.Proofs.Ytehpfpphpffniaa
set_option linter.unusedVariables false
set_option linter.unusedSimpArgs false
open Go.RowKit
theorem is_lit12 (W : World) (xs : List Int) {m : Nat} (hm : m = xs.length) : Is (W.alloc (.cells (intC xs).toArray 3)) (some ⟨W.heap.size, 0, none⟩) m m xs := Es.new_ W _ (intC xs) (intC_one _) (by rw [intC_len, hm, Nat.mul_one])
theorem tm_lit12 (W : World) (xs : List Tm) {m : Nat} (hm : m = xs.length) : Tms (W.alloc (.cells (tmC xs).toArray 24)) (some ⟨W.heap.size, 0, none⟩) m m xs := Es.new_ W _ (tmC xs) (tmC_one _) (by rw [tmC_len, hm])
set_option maxRecDepth 100000 in
set_option maxHeartbeats 8000000 in
theorem alive12 (w : World) : Calls Try.prog 7 #[] w fun e w' => e = .returned (.bool true) ∧ Below w.heap.size w w' := by
  obtain ⟨z0, hz0⟩ : ∃ x : Int, x = 0 := ⟨_, rfl⟩
  obtain ⟨z1, hz1⟩ : ∃ x : Int, x = 0 := ⟨_, rfl⟩
  have c1 : ∀ B m d W, Tms W B m d [] → Calls Try.prog 9 #[.slice B m d, .agg #[.int .i64 5, .int .i64 1]] W (HW W [(5, 1)] 0) := fun B m d W hx => pushAs12 5 1 hx (by have := hx.len; simp at this; omega) (by kernel_rfl)
  have c2 : ∀ B m d W, Tms W B m d [(5, 1)] → Calls Try.prog 9 #[.slice B m d, .agg #[.int .i64 3, .int .i64 2]] W (HW W [(3, 2), (5, 1)] 0) := fun B m d W hx => pushAs12 3 2 hx (by have := hx.len; simp at this; omega) (by kernel_rfl)
  have c3 : ∀ B m d W, Tms W B m d [(3, 2), (5, 1)] → Calls Try.prog 9 #[.slice B m d, .agg #[.int .i64 5, .int .i64 0]] W (HW W [(3, 2), (5, 1), (5, 0)] 0) := fun B m d W hx => pushAs12 5 0 hx (by have := hx.len; simp at this; omega) (by kernel_rfl)
  have c4 : ∀ B m d W, Tms W B m d [(3, 2), (5, 1), (5, 0)] → Calls Try.prog 9 #[.slice B m d, .agg #[.int .i64 1, .int .i64 2]] W (HW W [(3, 2), (5, 1), (5, 0)] 8) := fun B m d W hx => pushAs12 1 2 hx (by have := hx.len; simp at this; omega) (by kernel_rfl)
  have c5 : ∀ B m d W, Tms W B m d [(3, 2), (5, 1), (5, 0)] → Calls Try.prog 11 #[.slice B m d] W (PW W [(5, 0), (5, 1)] 3 2 0) := fun B m d W hx => popAs12 hx (by have := hx.len; simp at this; omega) (by kernel_rfl)
  have c6 : ∀ B m d W, Tms W B m d [(3, 2), (5, 1), (5, 0)] → Calls Try.prog 13 #[.slice B m d, .int .i64 1] W (HW W [(3, 2), (5, 0)] 0) := fun B m d W hx => dropAs12 1 hx (by have := hx.len; simp at this; omega) (by kernel_rfl)
  have c7 : ∀ B m d W, Tms W B m d [(3, 2), (5, 1), (5, 0)] → Calls Try.prog 18 #[.slice B m d, .int .i64 5] W (DW W [] [2, 0, 1] 0) := fun B m d W hx => dueAs12 5 hx (by have := hx.len; simp at this; omega) (by kernel_rfl)
  have c8 : ∀ B m d W, Tms W B m d [] → Calls Try.prog 11 #[.slice B m d] W (PW W [] z0 z1 7) := fun B m d W hx => popAs12 hx (by have := hx.len; simp at this; omega) (by rw [hz0, hz1]; kernel_rfl)
  have c10 : ∀ B m d W, Tms W B m d [(3, 2), (5, 1), (5, 0)] → Calls Try.prog 16 #[.slice B m d] W (YesT W true) := fun B m d W hx => rightAs12 hx (by have := hx.len; simp at this; omega) (by kernel_rfl)
  have c11 : ∀ B m d W, Tms W B m d [(3, 2), (5, 1), (5, 0)] → Calls Try.prog 21 #[.slice B m d] W (SW W [(3, 2), (5, 0), (5, 1)]) := fun B m d W hx => sortAs12 hx (by have := hx.len; simp at this; omega) (by kernel_rfl)
  have c9 : ∀ (xs : List Tm) (A B : Option Addr) (n c m d : Nat) W, Tms W A n c xs → Tms W B m d xs → xs.length ≤ 70 → Calls Try.prog 15 #[.slice A n c, .slice B m d] W (YesT W true) := fun xs A B n c m d W h1 h2 h3 => sameAs12 h1 h2 (by have := h1.len; omega) rfl
  have c13 : ∀ (xs : List Int) (A B : Option Addr) (n c m d : Nat) W, Is W A n c xs → Is W B m d xs → xs.length ≤ 70 → Calls Try.prog 20 #[.slice A n c, .slice B m d] W (fun e w' => e = .returned (.bool true) ∧ Below W.heap.size W w') := fun xs A B n c m d W h1 h2 h3 => by have h := refInts_any A n c xs B m d xs W h1 h2 (by have := Is.len h1; omega); rwa [decide_eq_true rfl] at h
  have HB := Lib.hid (And.intro (Below.refl w.heap.size w) (Nat.le_refl w.heap.size))
  replace c1 := Lib.hid c1
  replace c2 := Lib.hid c2
  replace c3 := Lib.hid c3
  replace c4 := Lib.hid c4
  replace c5 := Lib.hid c5
  replace c6 := Lib.hid c6
  replace c7 := Lib.hid c7
  replace c8 := Lib.hid c8
  replace c10 := Lib.hid c10
  replace c11 := Lib.hid c11
  replace c9 := Lib.hid c9
  replace c13 := Lib.hid c13
  clear hz0 hz1
  go_enter Try.func7, Try.ntmps7
  go_wp2_with fail
  refine (c1.out none 0 0 _ (nil12 _ _ _)).mono ?_
  rintro e w1 ⟨B1, m1, d1, rfl, hrs, hb⟩
  replace HB := Lib.hid (And.intro (HB.out.1.trans (hb.mono HB.out.2)) (Nat.le_trans HB.out.2 hb.size))
  clear hb
  have H1 := Lib.hid hrs
  clear hrs
  go_wp2_with fail
  refine (c2.out _ _ _ _ H1.out).mono ?_
  rintro e w2 ⟨B2, m2, d2, rfl, hrs, hb⟩
  replace H1 := Lib.hid (Es.below H1.out hb)
  replace HB := Lib.hid (And.intro (HB.out.1.trans (hb.mono HB.out.2)) (Nat.le_trans HB.out.2 hb.size))
  clear hb
  have H2 := Lib.hid hrs
  clear hrs
  go_wp2_with fail
  refine (c3.out _ _ _ _ H2.out).mono ?_
  rintro e w3 ⟨B3, m3, d3, rfl, hrs, hb⟩
  replace H1 := Lib.hid (Es.below H1.out hb)
  replace H2 := Lib.hid (Es.below H2.out hb)
  replace HB := Lib.hid (And.intro (HB.out.1.trans (hb.mono HB.out.2)) (Nat.le_trans HB.out.2 hb.size))
  clear hb
  have H3 := Lib.hid hrs
  clear hrs
  go_wp2_with fail
  refine (c4.out _ _ _ _ H3.out).mono ?_
  rintro e w4 ⟨B4, m4, d4, rfl, hrs, hb⟩
  replace H1 := Lib.hid (Es.below H1.out hb)
  replace H2 := Lib.hid (Es.below H2.out hb)
  replace H3 := Lib.hid (Es.below H3.out hb)
  replace HB := Lib.hid (And.intro (HB.out.1.trans (hb.mono HB.out.2)) (Nat.le_trans HB.out.2 hb.size))
  clear hb
  have H4 := Lib.hid hrs
  clear hrs
  go_wp2_with fail
  refine (c5.out _ _ _ _ H3.out).mono ?_
  rintro e w5 ⟨B5, m5, d5, rfl, hrs, hb⟩
  replace H1 := Lib.hid (Es.below H1.out hb)
  replace H2 := Lib.hid (Es.below H2.out hb)
  replace H3 := Lib.hid (Es.below H3.out hb)
  replace H4 := Lib.hid (Es.below H4.out hb)
  replace HB := Lib.hid (And.intro (HB.out.1.trans (hb.mono HB.out.2)) (Nat.le_trans HB.out.2 hb.size))
  clear hb
  have H5 := Lib.hid hrs
  clear hrs
  have gq := HB.out.2
  obtain ⟨w6, hw6⟩ : ∃ W, (w5.alloc (.cells #[.int .i64 3, .int .i64 2] 24)) = W := ⟨_, rfl⟩
  have hb : Below w5.heap.size w5 w6 := hw6 ▸ ((Below.refl _ _).alloc (Nat.le_refl _) _)
  have hv0 : w6.heap[w5.heap.size]? = some (.cells #[.int .i64 3, .int .i64 2] 24) := by
    have h0 := heap_alloc_new w5 (.cells #[.int .i64 3, .int .i64 2] 24)
    rw [show w5.heap.size = w5.heap.size by simp [Nat.add_assoc]] at h0
    rw [← hw6]
    exact h0
  replace H1 := Lib.hid (Es.below H1.out hb)
  replace H2 := Lib.hid (Es.below H2.out hb)
  replace H3 := Lib.hid (Es.below H3.out hb)
  replace H4 := Lib.hid (Es.below H4.out hb)
  replace H5 := Lib.hid (Es.below H5.out hb)
  replace HB := Lib.hid (And.intro (HB.out.1.trans (hb.mono HB.out.2)) (Nat.le_trans HB.out.2 hb.size))
  have Vt := Lib.hid hv0
  have get := gq
  generalize hst : w5.heap.size = st at *
  clear hb gq hv0
  go_wp2_with fail
  refine (c6.out _ _ _ _ H3.out).mono ?_
  rintro e w7 ⟨B6, m6, d6, rfl, hrs, hb⟩
  replace Vt := Lib.hid (blk_below Vt.out hb (blk_lt Vt.out))
  replace H1 := Lib.hid (Es.below H1.out hb)
  replace H2 := Lib.hid (Es.below H2.out hb)
  replace H3 := Lib.hid (Es.below H3.out hb)
  replace H4 := Lib.hid (Es.below H4.out hb)
  replace H5 := Lib.hid (Es.below H5.out hb)
  replace HB := Lib.hid (And.intro (HB.out.1.trans (hb.mono HB.out.2)) (Nat.le_trans HB.out.2 hb.size))
  clear hb
  have H6 := Lib.hid hrs
  clear hrs
  go_wp2_with fail
  refine (c7.out _ _ _ _ H3.out).mono ?_
  rintro e w8 ⟨B7, m7, d7, C7, k7, f7, rfl, hrs, his, hb⟩
  replace Vt := Lib.hid (blk_below Vt.out hb (blk_lt Vt.out))
  replace H1 := Lib.hid (Es.below H1.out hb)
  replace H2 := Lib.hid (Es.below H2.out hb)
  replace H3 := Lib.hid (Es.below H3.out hb)
  replace H4 := Lib.hid (Es.below H4.out hb)
  replace H5 := Lib.hid (Es.below H5.out hb)
  replace H6 := Lib.hid (Es.below H6.out hb)
  replace HB := Lib.hid (And.intro (HB.out.1.trans (hb.mono HB.out.2)) (Nat.le_trans HB.out.2 hb.size))
  clear hb
  have H7 := Lib.hid hrs
  clear hrs
  have J7 := Lib.hid his
  clear his
  have hm7 : m7 = 0 := by have := Tms.len H7.out; simp at this; omega
  subst hm7
  go_wp2_with fail
  refine (c8.out none 0 0 _ (nil12 _ _ _)).mono ?_
  rintro e w9 ⟨B8, m8, d8, rfl, hrs, hb⟩
  replace Vt := Lib.hid (blk_below Vt.out hb (blk_lt Vt.out))
  replace H1 := Lib.hid (Es.below H1.out hb)
  replace H2 := Lib.hid (Es.below H2.out hb)
  replace H3 := Lib.hid (Es.below H3.out hb)
  replace H4 := Lib.hid (Es.below H4.out hb)
  replace H5 := Lib.hid (Es.below H5.out hb)
  replace H6 := Lib.hid (Es.below H6.out hb)
  replace H7 := Lib.hid (Es.below H7.out hb)
  replace J7 := Lib.hid (Es.below J7.out hb)
  replace HB := Lib.hid (And.intro (HB.out.1.trans (hb.mono HB.out.2)) (Nat.le_trans HB.out.2 hb.size))
  clear hb
  have H8 := Lib.hid hrs
  clear hrs
  have ltt := blk_lt Vt.out
  have gq := HB.out.2
  obtain ⟨w10, hw10⟩ : ∃ W, (w9.alloc (.cells #[.int .i64 z0, .int .i64 z1] 24)) = W := ⟨_, rfl⟩
  have hb : Below w9.heap.size w9 w10 := hw10 ▸ ((Below.refl _ _).alloc (Nat.le_refl _) _)
  have hv0 : w10.heap[w9.heap.size]? = some (.cells #[.int .i64 z0, .int .i64 z1] 24) := by
    have h0 := heap_alloc_new w9 (.cells #[.int .i64 z0, .int .i64 z1] 24)
    rw [show w9.heap.size = w9.heap.size by simp [Nat.add_assoc]] at h0
    rw [← hw10]
    exact h0
  replace Vt := Lib.hid (blk_below Vt.out hb (blk_lt Vt.out))
  replace H1 := Lib.hid (Es.below H1.out hb)
  replace H2 := Lib.hid (Es.below H2.out hb)
  replace H3 := Lib.hid (Es.below H3.out hb)
  replace H4 := Lib.hid (Es.below H4.out hb)
  replace H5 := Lib.hid (Es.below H5.out hb)
  replace H6 := Lib.hid (Es.below H6.out hb)
  replace H7 := Lib.hid (Es.below H7.out hb)
  replace J7 := Lib.hid (Es.below J7.out hb)
  replace H8 := Lib.hid (Es.below H8.out hb)
  replace HB := Lib.hid (And.intro (HB.out.1.trans (hb.mono HB.out.2)) (Nat.le_trans HB.out.2 hb.size))
  have Vy := Lib.hid hv0
  have net_y := Nat.ne_of_lt ltt
  have gey := gq
  generalize hsy : w9.heap.size = sy at *
  clear hb gq hv0 ltt
  have ct0 : w10.cell? ⟨st, 0, none⟩ = some (.int .i64 3) := (blk_cell Vt.out 0).trans rfl
  have ct1 : w10.cell? ⟨st, 1, none⟩ = some (.int .i64 2) := (blk_cell Vt.out 1).trans rfl
  go_wp2_with fail
  clear ct0 ct1
  have hz : Below _ _ _ := (Below.refl w10.heap.size w10).alloc (Nat.le_refl _) (.cells (tmC [(5, 0), (5, 1)]).toArray 24)
  have L1 := Lib.hid (tm_lit12 w10 [(5, 0), (5, 1)] rfl)
  replace Vt := Lib.hid (blk_below Vt.out hz (blk_lt Vt.out))
  replace Vy := Lib.hid (blk_below Vy.out hz (blk_lt Vy.out))
  replace H1 := Lib.hid (Es.below H1.out hz)
  replace H2 := Lib.hid (Es.below H2.out hz)
  replace H3 := Lib.hid (Es.below H3.out hz)
  replace H4 := Lib.hid (Es.below H4.out hz)
  replace H5 := Lib.hid (Es.below H5.out hz)
  replace H6 := Lib.hid (Es.below H6.out hz)
  replace H7 := Lib.hid (Es.below H7.out hz)
  replace J7 := Lib.hid (Es.below J7.out hz)
  replace H8 := Lib.hid (Es.below H8.out hz)
  replace HB := Lib.hid (And.intro (HB.out.1.trans (hz.mono HB.out.2)) (Nat.le_trans HB.out.2 hz.size))
  clear hz
  skip
  refine (c9.out _ _ _ _ _ _ _ _ H5.out L1.out (by simp)).mono ?_
  rintro e w11 ⟨rfl, hb⟩
  replace Vt := Lib.hid (blk_below Vt.out hb (blk_lt Vt.out))
  replace Vy := Lib.hid (blk_below Vy.out hb (blk_lt Vy.out))
  replace H1 := Lib.hid (Es.below H1.out hb)
  replace H2 := Lib.hid (Es.below H2.out hb)
  replace H3 := Lib.hid (Es.below H3.out hb)
  replace H4 := Lib.hid (Es.below H4.out hb)
  replace H5 := Lib.hid (Es.below H5.out hb)
  replace H6 := Lib.hid (Es.below H6.out hb)
  replace H7 := Lib.hid (Es.below H7.out hb)
  replace J7 := Lib.hid (Es.below J7.out hb)
  replace H8 := Lib.hid (Es.below H8.out hb)
  replace L1 := Lib.hid (Es.below L1.out hb)
  replace HB := Lib.hid (And.intro (HB.out.1.trans (hb.mono HB.out.2)) (Nat.le_trans HB.out.2 hb.size))
  clear hb
  have ct0 : w11.cell? ⟨st, 0, none⟩ = some (.int .i64 3) := (blk_cell Vt.out 0).trans rfl
  have ct1 : w11.cell? ⟨st, 1, none⟩ = some (.int .i64 2) := (blk_cell Vt.out 1).trans rfl
  go_wp2_with fail
  clear ct0 ct1
  have hz : Below _ _ _ := (Below.refl w11.heap.size w11).alloc (Nat.le_refl _) (.cells (tmC [(3, 2), (5, 0)]).toArray 24)
  have L2 := Lib.hid (tm_lit12 w11 [(3, 2), (5, 0)] rfl)
  replace Vt := Lib.hid (blk_below Vt.out hz (blk_lt Vt.out))
  replace Vy := Lib.hid (blk_below Vy.out hz (blk_lt Vy.out))
  replace H1 := Lib.hid (Es.below H1.out hz)
  replace H2 := Lib.hid (Es.below H2.out hz)
  replace H3 := Lib.hid (Es.below H3.out hz)
  replace H4 := Lib.hid (Es.below H4.out hz)
  replace H5 := Lib.hid (Es.below H5.out hz)
  replace H6 := Lib.hid (Es.below H6.out hz)
  replace H7 := Lib.hid (Es.below H7.out hz)
  replace J7 := Lib.hid (Es.below J7.out hz)
  replace H8 := Lib.hid (Es.below H8.out hz)
  replace L1 := Lib.hid (Es.below L1.out hz)
  replace HB := Lib.hid (And.intro (HB.out.1.trans (hz.mono HB.out.2)) (Nat.le_trans HB.out.2 hz.size))
  clear hz
  skip
  refine (c9.out _ _ _ _ _ _ _ _ H6.out L2.out (by simp)).mono ?_
  rintro e w12 ⟨rfl, hb⟩
  replace Vt := Lib.hid (blk_below Vt.out hb (blk_lt Vt.out))
  replace Vy := Lib.hid (blk_below Vy.out hb (blk_lt Vy.out))
  replace H1 := Lib.hid (Es.below H1.out hb)
  replace H2 := Lib.hid (Es.below H2.out hb)
  replace H3 := Lib.hid (Es.below H3.out hb)
  replace H4 := Lib.hid (Es.below H4.out hb)
  replace H5 := Lib.hid (Es.below H5.out hb)
  replace H6 := Lib.hid (Es.below H6.out hb)
  replace H7 := Lib.hid (Es.below H7.out hb)
  replace J7 := Lib.hid (Es.below J7.out hb)
  replace H8 := Lib.hid (Es.below H8.out hb)
  replace L1 := Lib.hid (Es.below L1.out hb)
  replace L2 := Lib.hid (Es.below L2.out hb)
  replace HB := Lib.hid (And.intro (HB.out.1.trans (hb.mono HB.out.2)) (Nat.le_trans HB.out.2 hb.size))
  clear hb
  have ct0 : w12.cell? ⟨st, 0, none⟩ = some (.int .i64 3) := (blk_cell Vt.out 0).trans rfl
  have ct1 : w12.cell? ⟨st, 1, none⟩ = some (.int .i64 2) := (blk_cell Vt.out 1).trans rfl
  go_wp2_with fail
  clear ct0 ct1
  have hz : Below _ _ _ := (Below.refl w12.heap.size w12).alloc (Nat.le_refl _) (.cells (intC [2, 0, 1]).toArray 3)
  have L3 := Lib.hid (is_lit12 w12 [2, 0, 1] rfl)
  replace Vt := Lib.hid (blk_below Vt.out hz (blk_lt Vt.out))
  replace Vy := Lib.hid (blk_below Vy.out hz (blk_lt Vy.out))
  replace H1 := Lib.hid (Es.below H1.out hz)
  replace H2 := Lib.hid (Es.below H2.out hz)
  replace H3 := Lib.hid (Es.below H3.out hz)
  replace H4 := Lib.hid (Es.below H4.out hz)
  replace H5 := Lib.hid (Es.below H5.out hz)
  replace H6 := Lib.hid (Es.below H6.out hz)
  replace H7 := Lib.hid (Es.below H7.out hz)
  replace J7 := Lib.hid (Es.below J7.out hz)
  replace H8 := Lib.hid (Es.below H8.out hz)
  replace L1 := Lib.hid (Es.below L1.out hz)
  replace L2 := Lib.hid (Es.below L2.out hz)
  replace HB := Lib.hid (And.intro (HB.out.1.trans (hz.mono HB.out.2)) (Nat.le_trans HB.out.2 hz.size))
  clear hz
  skip
  refine (c13.out _ _ _ _ _ _ _ _ J7.out L3.out (by simp)).mono ?_
  rintro e w13 ⟨rfl, hb⟩
  replace Vt := Lib.hid (blk_below Vt.out hb (blk_lt Vt.out))
  replace Vy := Lib.hid (blk_below Vy.out hb (blk_lt Vy.out))
  replace H1 := Lib.hid (Es.below H1.out hb)
  replace H2 := Lib.hid (Es.below H2.out hb)
  replace H3 := Lib.hid (Es.below H3.out hb)
  replace H4 := Lib.hid (Es.below H4.out hb)
  replace H5 := Lib.hid (Es.below H5.out hb)
  replace H6 := Lib.hid (Es.below H6.out hb)
  replace H7 := Lib.hid (Es.below H7.out hb)
  replace J7 := Lib.hid (Es.below J7.out hb)
  replace H8 := Lib.hid (Es.below H8.out hb)
  replace L1 := Lib.hid (Es.below L1.out hb)
  replace L2 := Lib.hid (Es.below L2.out hb)
  replace L3 := Lib.hid (Es.below L3.out hb)
  replace HB := Lib.hid (And.intro (HB.out.1.trans (hb.mono HB.out.2)) (Nat.le_trans HB.out.2 hb.size))
  clear hb
  go_wp2_with fail
  refine (c10.out _ _ _ _ H3.out).mono ?_
  rintro e w14 ⟨rfl, hb⟩
  replace Vt := Lib.hid (blk_below Vt.out hb (blk_lt Vt.out))
  replace Vy := Lib.hid (blk_below Vy.out hb (blk_lt Vy.out))
  replace H1 := Lib.hid (Es.below H1.out hb)
  replace H2 := Lib.hid (Es.below H2.out hb)
  replace H3 := Lib.hid (Es.below H3.out hb)
  replace H4 := Lib.hid (Es.below H4.out hb)
  replace H5 := Lib.hid (Es.below H5.out hb)
  replace H6 := Lib.hid (Es.below H6.out hb)
  replace H7 := Lib.hid (Es.below H7.out hb)
  replace J7 := Lib.hid (Es.below J7.out hb)
  replace H8 := Lib.hid (Es.below H8.out hb)
  replace L1 := Lib.hid (Es.below L1.out hb)
  replace L2 := Lib.hid (Es.below L2.out hb)
  replace L3 := Lib.hid (Es.below L3.out hb)
  replace HB := Lib.hid (And.intro (HB.out.1.trans (hb.mono HB.out.2)) (Nat.le_trans HB.out.2 hb.size))
  clear hb
  go_wp2_with fail
  refine (c11.out _ _ _ _ H3.out).mono ?_
  rintro e w15 ⟨B9, m9, d9, rfl, hrs, hb⟩
  replace Vt := Lib.hid (blk_below Vt.out hb (blk_lt Vt.out))
  replace Vy := Lib.hid (blk_below Vy.out hb (blk_lt Vy.out))
  replace H1 := Lib.hid (Es.below H1.out hb)
  replace H2 := Lib.hid (Es.below H2.out hb)
  replace H3 := Lib.hid (Es.below H3.out hb)
  replace H4 := Lib.hid (Es.below H4.out hb)
  replace H5 := Lib.hid (Es.below H5.out hb)
  replace H6 := Lib.hid (Es.below H6.out hb)
  replace H7 := Lib.hid (Es.below H7.out hb)
  replace J7 := Lib.hid (Es.below J7.out hb)
  replace H8 := Lib.hid (Es.below H8.out hb)
  replace L1 := Lib.hid (Es.below L1.out hb)
  replace L2 := Lib.hid (Es.below L2.out hb)
  replace L3 := Lib.hid (Es.below L3.out hb)
  replace HB := Lib.hid (And.intro (HB.out.1.trans (hb.mono HB.out.2)) (Nat.le_trans HB.out.2 hb.size))
  clear hb
  have H9 := Lib.hid hrs
  clear hrs
  have ct0 : w15.cell? ⟨st, 0, none⟩ = some (.int .i64 3) := (blk_cell Vt.out 0).trans rfl
  have ct1 : w15.cell? ⟨st, 1, none⟩ = some (.int .i64 2) := (blk_cell Vt.out 1).trans rfl
  go_wp2_with fail
  clear ct0 ct1
  have hz : Below _ _ _ := (Below.refl w15.heap.size w15).alloc (Nat.le_refl _) (.cells (tmC [(3, 2), (5, 0), (5, 1)]).toArray 24)
  have L4 := Lib.hid (tm_lit12 w15 [(3, 2), (5, 0), (5, 1)] rfl)
  replace Vt := Lib.hid (blk_below Vt.out hz (blk_lt Vt.out))
  replace Vy := Lib.hid (blk_below Vy.out hz (blk_lt Vy.out))
  replace H1 := Lib.hid (Es.below H1.out hz)
  replace H2 := Lib.hid (Es.below H2.out hz)
  replace H3 := Lib.hid (Es.below H3.out hz)
  replace H4 := Lib.hid (Es.below H4.out hz)
  replace H5 := Lib.hid (Es.below H5.out hz)
  replace H6 := Lib.hid (Es.below H6.out hz)
  replace H7 := Lib.hid (Es.below H7.out hz)
  replace J7 := Lib.hid (Es.below J7.out hz)
  replace H8 := Lib.hid (Es.below H8.out hz)
  replace L1 := Lib.hid (Es.below L1.out hz)
  replace L2 := Lib.hid (Es.below L2.out hz)
  replace L3 := Lib.hid (Es.below L3.out hz)
  replace H9 := Lib.hid (Es.below H9.out hz)
  replace HB := Lib.hid (And.intro (HB.out.1.trans (hz.mono HB.out.2)) (Nat.le_trans HB.out.2 hz.size))
  clear hz
  skip
  refine (c9.out _ _ _ _ _ _ _ _ H9.out L4.out (by simp)).mono ?_
  rintro e w16 ⟨rfl, hb⟩
  replace Vt := Lib.hid (blk_below Vt.out hb (blk_lt Vt.out))
  replace Vy := Lib.hid (blk_below Vy.out hb (blk_lt Vy.out))
  replace H1 := Lib.hid (Es.below H1.out hb)
  replace H2 := Lib.hid (Es.below H2.out hb)
  replace H3 := Lib.hid (Es.below H3.out hb)
  replace H4 := Lib.hid (Es.below H4.out hb)
  replace H5 := Lib.hid (Es.below H5.out hb)
  replace H6 := Lib.hid (Es.below H6.out hb)
  replace H7 := Lib.hid (Es.below H7.out hb)
  replace J7 := Lib.hid (Es.below J7.out hb)
  replace H8 := Lib.hid (Es.below H8.out hb)
  replace L1 := Lib.hid (Es.below L1.out hb)
  replace L2 := Lib.hid (Es.below L2.out hb)
  replace L3 := Lib.hid (Es.below L3.out hb)
  replace H9 := Lib.hid (Es.below H9.out hb)
  replace L4 := Lib.hid (Es.below L4.out hb)
  replace HB := Lib.hid (And.intro (HB.out.1.trans (hb.mono HB.out.2)) (Nat.le_trans HB.out.2 hb.size))
  clear hb
  go_wp2
  go_ret
  exact ⟨rfl, HB.out.1⟩
end Go.Proofs.Ytehpfpphpffniaa
