/- The walk of CodeReads: it answers true, over any world; no condition. -/
import Derived.Test.YtkoodhnfphmbnaaCodS
namespace Go.Proofs.Ytkoodhnfphmbnaa
set_option linter.unusedVariables false
set_option linter.unusedSimpArgs false
open Go.RowKit
set_option maxRecDepth 100000 in
set_option maxHeartbeats 8000000 in
theorem reads13_walk (E : Option Addr) (u v : Nat) (bs : List Int) (at0 : Int) (w : World) (hx : Bs w E u v bs) :
    Calls Try.prog 4 #[.slice E u v, .int .i64 at0] w fun e w' => e = .returned (.bool true) ∧ Below w.heap.size w w' := by
  have RB := Lib.hid hx
  clear hx
  have HB := Lib.hid (And.intro (Below.refl w.heap.size w) (Nat.le_refl w.heap.size))
  by_cases hn : (1000 : Int) < (u : Int)
  · have b0 : decide ((1000 : Int) < (u : Int)) = true := decide_eq_true hn
    have b0n : decide (1000 < u) = true := by simp; omega
    clear hn
    go_enter Try.func4, Try.ntmps4
    go_wp2_with fail
    refine (alive13 _).mono ?_
    rintro e w1 ⟨rfl, hb⟩
    replace HB := Lib.hid (And.intro (HB.out.1.trans (hb.mono HB.out.2)) (Nat.le_trans HB.out.2 hb.size))
    clear hb
    go_wp2
    go_ret
    exact ⟨rfl, HB.out.1⟩
  · have b0 : decide ((1000 : Int) < (u : Int)) = false := decide_eq_false hn
    have b0n : decide (1000 < u) = false := by simp; omega
    have hu : u ≤ 16384 := by omega
    clear hn
    obtain ⟨⟨⟨co, ki, si, ce, re, pa⟩, nx, er⟩, hr⟩ : ∃ r, readPg bs at0 = r := ⟨_, rfl⟩
    have hsm := read_small hr
    simp only at hsm
    have c1 := fun (W : World) (h : Bs W E u v bs) => cdRead_any E u v bs at0 W h hu
    have c2 := fun (W : World) (h : Bs W E u v bs) => refRead13_any E u v bs at0 W h hu
    rw [hr] at c1 c2
    have HSM := Lib.hid hsm
    replace c1 := Lib.hid c1; replace c2 := Lib.hid c2
    have e1 : (nx == nx) = true := by simp
    have e2 : (er == er) = true := by simp
    clear hr hsm
    go_enter Try.func4, Try.ntmps4
    go_wp2_with fail
    refine (alive13 _).mono ?_
    rintro e w1 ⟨rfl, hb⟩
    replace HB := Lib.hid (And.intro (HB.out.1.trans (hb.mono HB.out.2)) (Nat.le_trans HB.out.2 hb.size))
    clear hb
    go_wp2_with fail
    refine (c1.out _ (Bs.below RB.out HB.out.1)).mono ?_
    rintro e w2 ⟨A1, n1, c1x, B1, m1, d1, C1, k1, f1, rfl, oc, ok, os, hb⟩
    replace HB := Lib.hid (And.intro (HB.out.1.trans (hb.mono HB.out.2)) (Nat.le_trans HB.out.2 hb.size))
    clear hb
    have X1 := Lib.hid (i4s_own oc); have Y1 := Lib.hid (is_own ok); have Z1 := Lib.hid (is_own os)
    clear oc ok os
    have gq := HB.out.2
    obtain ⟨w3, hw3⟩ : ∃ W, (w2.alloc (.cells #[.slice A1 n1 c1x, .slice B1 m1 d1, .slice C1 k1 f1, .int .i64 ce, .int .i64 re, .int .i64 pa] 25)) = W := ⟨_, rfl⟩
    have hb : Below w2.heap.size w2 w3 := hw3 ▸ ((Below.refl _ _).alloc (Nat.le_refl _) _)
    have hv0 : w3.heap[w2.heap.size]? = some (.cells #[.slice A1 n1 c1x, .slice B1 m1 d1, .slice C1 k1 f1, .int .i64 ce, .int .i64 re, .int .i64 pa] 25) := by
      have h0 := heap_alloc_new w2 (.cells #[.slice A1 n1 c1x, .slice B1 m1 d1, .slice C1 k1 f1, .int .i64 ce, .int .i64 re, .int .i64 pa] 25)
      rw [show w2.heap.size = w2.heap.size by simp [Nat.add_assoc]] at h0
      rw [← hw3]
      exact h0
    replace X1 := Lib.hid (Es.below X1.out hb)
    replace Y1 := Lib.hid (Es.below Y1.out hb)
    replace Z1 := Lib.hid (Es.below Z1.out hb)
    replace HB := Lib.hid (And.intro (HB.out.1.trans (hb.mono HB.out.2)) (Nat.le_trans HB.out.2 hb.size))
    have Vp := Lib.hid hv0
    have gep := gq
    generalize hsp : w2.heap.size = sp at *
    clear hb gq hv0
    go_wp2_with fail
    refine (c2.out _ (Bs.below RB.out HB.out.1)).mono ?_
    rintro e w4 ⟨A2, n2, c2x, B2, m2, d2, C2, k2, f2, rfl, oc, ok, os, hb⟩
    replace Vp := Lib.hid (blk_below Vp.out hb (blk_lt Vp.out))
    replace X1 := Lib.hid (Es.below X1.out hb)
    replace Y1 := Lib.hid (Es.below Y1.out hb)
    replace Z1 := Lib.hid (Es.below Z1.out hb)
    replace HB := Lib.hid (And.intro (HB.out.1.trans (hb.mono HB.out.2)) (Nat.le_trans HB.out.2 hb.size))
    clear hb
    have X2 := Lib.hid (i4s_own oc); have Y2 := Lib.hid (is_own ok); have Z2 := Lib.hid (is_own os)
    clear oc ok os
    have ltp := blk_lt Vp.out
    have gq := HB.out.2
    obtain ⟨w5, hw5⟩ : ∃ W, (w4.alloc (.cells #[.slice A2 n2 c2x, .slice B2 m2 d2, .slice C2 k2 f2, .int .i64 ce, .int .i64 re, .int .i64 pa] 25)) = W := ⟨_, rfl⟩
    have hb : Below w4.heap.size w4 w5 := hw5 ▸ ((Below.refl _ _).alloc (Nat.le_refl _) _)
    have hv0 : w5.heap[w4.heap.size]? = some (.cells #[.slice A2 n2 c2x, .slice B2 m2 d2, .slice C2 k2 f2, .int .i64 ce, .int .i64 re, .int .i64 pa] 25) := by
      have h0 := heap_alloc_new w4 (.cells #[.slice A2 n2 c2x, .slice B2 m2 d2, .slice C2 k2 f2, .int .i64 ce, .int .i64 re, .int .i64 pa] 25)
      rw [show w4.heap.size = w4.heap.size by simp [Nat.add_assoc]] at h0
      rw [← hw5]
      exact h0
    replace Vp := Lib.hid (blk_below Vp.out hb (blk_lt Vp.out))
    replace X1 := Lib.hid (Es.below X1.out hb)
    replace Y1 := Lib.hid (Es.below Y1.out hb)
    replace Z1 := Lib.hid (Es.below Z1.out hb)
    replace X2 := Lib.hid (Es.below X2.out hb)
    replace Y2 := Lib.hid (Es.below Y2.out hb)
    replace Z2 := Lib.hid (Es.below Z2.out hb)
    replace HB := Lib.hid (And.intro (HB.out.1.trans (hb.mono HB.out.2)) (Nat.le_trans HB.out.2 hb.size))
    have Vq := Lib.hid hv0
    have nep_q := Nat.ne_of_lt ltp
    have geq := gq
    generalize hsq : w4.heap.size = sq at *
    clear hb gq hv0 ltp
    have c3 : ∀ W, I4s W A1 n1 c1x co → Is W B1 m1 d1 ki → Is W C1 k1 f1 si → I4s W A2 n2 c2x co → Is W B2 m2 d2 ki → Is W C2 k2 f2 si → Calls Try.prog 16 #[.agg #[.slice A1 n1 c1x, .slice B1 m1 d1, .slice C1 k1 f1, .int .i64 ce, .int .i64 re, .int .i64 pa], .agg #[.slice A2 n2 c2x, .slice B2 m2 d2, .slice C2 k2 f2, .int .i64 ce, .int .i64 re, .int .i64 pa]] W (YesC W true) := fun W h1 h2 h3 h4 h5 h6 => by
      have h7 := refSame13_any A1 n1 c1x B1 m1 d1 C1 k1 f1 co ki si ce re pa A2 n2 c2x B2 m2 d2 C2 k2 f2 co ki si ce re pa W h1 h2 h3 (by have h8 := I4s.len h1; have := HSM.out; omega) (by have h8 : ki.length = m1 := Is.len h2; have := HSM.out; omega) (by have h8 : si.length = k1 := Is.len h3; have := HSM.out; omega) h4 h5 h6
      rw [sameB_self] at h7; exact h7
    replace c3 := Lib.hid c3
    have cp0 : w5.cell? ⟨sp, 0, none⟩ = some (.slice A1 n1 c1x) := (blk_cell Vp.out 0).trans rfl
    have cp1 : w5.cell? ⟨sp, 1, none⟩ = some (.slice B1 m1 d1) := (blk_cell Vp.out 1).trans rfl
    have cp2 : w5.cell? ⟨sp, 2, none⟩ = some (.slice C1 k1 f1) := (blk_cell Vp.out 2).trans rfl
    have cp3 : w5.cell? ⟨sp, 3, none⟩ = some (.int .i64 ce) := (blk_cell Vp.out 3).trans rfl
    have cp4 : w5.cell? ⟨sp, 4, none⟩ = some (.int .i64 re) := (blk_cell Vp.out 4).trans rfl
    have cp5 : w5.cell? ⟨sp, 5, none⟩ = some (.int .i64 pa) := (blk_cell Vp.out 5).trans rfl
    have cq0 : w5.cell? ⟨sq, 0, none⟩ = some (.slice A2 n2 c2x) := (blk_cell Vq.out 0).trans rfl
    have cq1 : w5.cell? ⟨sq, 1, none⟩ = some (.slice B2 m2 d2) := (blk_cell Vq.out 1).trans rfl
    have cq2 : w5.cell? ⟨sq, 2, none⟩ = some (.slice C2 k2 f2) := (blk_cell Vq.out 2).trans rfl
    have cq3 : w5.cell? ⟨sq, 3, none⟩ = some (.int .i64 ce) := (blk_cell Vq.out 3).trans rfl
    have cq4 : w5.cell? ⟨sq, 4, none⟩ = some (.int .i64 re) := (blk_cell Vq.out 4).trans rfl
    have cq5 : w5.cell? ⟨sq, 5, none⟩ = some (.int .i64 pa) := (blk_cell Vq.out 5).trans rfl
    go_wp2_with fail
    refine (c3.out _ X1.out Y1.out Z1.out X2.out Y2.out Z2.out).mono ?_
    rintro e w6 ⟨rfl, hb⟩
    clear cp0 cp1 cp2 cp3 cp4 cp5 cq0 cq1 cq2 cq3 cq4 cq5
    replace Vp := Lib.hid (blk_below Vp.out hb (blk_lt Vp.out))
    replace Vq := Lib.hid (blk_below Vq.out hb (blk_lt Vq.out))
    replace X1 := Lib.hid (Es.below X1.out hb)
    replace Y1 := Lib.hid (Es.below Y1.out hb)
    replace Z1 := Lib.hid (Es.below Z1.out hb)
    replace X2 := Lib.hid (Es.below X2.out hb)
    replace Y2 := Lib.hid (Es.below Y2.out hb)
    replace Z2 := Lib.hid (Es.below Z2.out hb)
    replace HB := Lib.hid (And.intro (HB.out.1.trans (hb.mono HB.out.2)) (Nat.le_trans HB.out.2 hb.size))
    clear hb
    go_wp2
    go_ret
    exact ⟨rfl, HB.out.1⟩
end Go.Proofs.Ytkoodhnfphmbnaa
