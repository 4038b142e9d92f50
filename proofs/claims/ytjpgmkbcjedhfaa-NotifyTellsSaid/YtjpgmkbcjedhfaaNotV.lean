/- The walk of NotifyOut: it answers true, over any world; no condition. -/
import Derived.Test.YtjpgmkbcjedhfaaNotS
namespace Go.Proofs.Ytjpgmkbcjedhfaa
set_option linter.unusedVariables false
set_option linter.unusedSimpArgs false
open Go.RowKit
theorem told_out {n : Nf} {k : Int} (hr : rightN n = true) (h : toldN n k = true) : outN n k = false := by
  have h1 := (rightN_iff.1 hr).1
  have h2 : 2147483648 ≤ far n.2.1 k := of_decide_eq_true h
  refine decide_eq_false fun h3 => ?_
  have h3 : far n.2.1 k < far n.2.1 n.1 := h3
  omega
theorem out_told {n : Nf} {k : Int} {l : List Wt} (hb : NB n) (hr : rightN n = true) (k0 : 0 ≤ k) (k1 : k < 4294967296) (h : outN n k = true) : toldN (n.1, n.1, l) k = true := by
  have h1 := (rightN_iff.1 hr).1
  have h2 : far n.2.1 k < far n.2.1 n.1 := of_decide_eq_true h
  refine decide_eq_true (show 2147483648 ≤ far n.1 k from ?_)
  have a := hb.w0; have b := hb.w1; have c := hb.t0; have d := hb.t1
  unfold far at *
  omega
theorem park_cases {n : Nf} {k ta : Int} (hr : rightN n = true) : ((parkN n k ta).2 ≠ 0 ∧ (parkN n k ta).1 = n) ∨ (outN n k = true ∧ parkN n k ta = ((n.1, n.2.1, n.2.2 ++ [(k, ta)]), 0) ∧ rightN (n.1, n.2.1, n.2.2 ++ [(k, ta)]) = true) := by
  unfold parkN
  by_cases h1 : rightN n = false ∨ ta < 0 ∨ outN n k = false
  · rw [if_pos h1]; exact Or.inl ⟨by simp, rfl⟩
  · rw [if_neg h1]
    by_cases h2 : anyW n.2.2 k ta n.2.2.length
    · rw [if_pos h2]; exact Or.inl ⟨by simp, rfl⟩
    · rw [if_neg h2]
      by_cases h3 : 12 ≤ n.2.2.length
      · rw [if_pos h3]; exact Or.inl ⟨by simp, rfl⟩
      · rw [if_neg h3]
        simp only [not_or, Bool.not_eq_false] at h1
        obtain ⟨_, h4, h5⟩ := h1
        obtain ⟨g1, g2, g3⟩ := rightN_iff.1 hr
        refine Or.inr ⟨h5, rfl, rightN_iff.2 ⟨g1, by simp; omega, fun i hi => ?_⟩⟩
        have hat : ∀ j : Nat, j < n.2.2.length → wtAt (n.2.2 ++ [(k, ta)]) j = wtAt n.2.2 j := fun j hj => by
          unfold wtAt; rw [List.getD_eq_getElem?_getD, List.getD_eq_getElem?_getD, List.getElem?_append_left hj]
        have hlast : wtAt (n.2.2 ++ [(k, ta)]) n.2.2.length = (k, ta) := by
          unfold wtAt; rw [List.getD_eq_getElem?_getD]; simp
        simp only [List.length_append, List.length_cons, List.length_nil] at hi
        rcases Nat.lt_or_ge i n.2.2.length with h6 | h6
        · obtain ⟨q1, q2, q3⟩ := g3 i h6
          refine ⟨by show 0 ≤ (wtAt (n.2.2 ++ [(k, ta)]) i).2; rw [hat i h6]; exact q1, by show outP n (wtAt (n.2.2 ++ [(k, ta)]) i).1; rw [hat i h6]; exact q2, fun j hj => ?_⟩
          show (wtAt (n.2.2 ++ [(k, ta)]) j).1 ≠ (wtAt (n.2.2 ++ [(k, ta)]) i).1 ∧ (wtAt (n.2.2 ++ [(k, ta)]) j).2 ≠ (wtAt (n.2.2 ++ [(k, ta)]) i).2
          rw [hat i h6, hat j (by omega)]; exact q3 j hj
        · have e : i = n.2.2.length := by omega
          subst e
          refine ⟨by show 0 ≤ (wtAt (n.2.2 ++ [(k, ta)]) n.2.2.length).2; rw [hlast]; exact Int.not_lt.1 h4, by show outP n (wtAt (n.2.2 ++ [(k, ta)]) n.2.2.length).1; rw [hlast]; exact of_decide_eq_true h5, fun j hj => ?_⟩
          show (wtAt (n.2.2 ++ [(k, ta)]) j).1 ≠ (wtAt (n.2.2 ++ [(k, ta)]) n.2.2.length).1 ∧ (wtAt (n.2.2 ++ [(k, ta)]) j).2 ≠ (wtAt (n.2.2 ++ [(k, ta)]) n.2.2.length).2
          rw [hlast, hat j hj]
          exact ⟨fun e => h2 ⟨j, hj, Or.inl e⟩, fun e => h2 ⟨j, hj, Or.inr e⟩⟩
set_option maxRecDepth 100000 in
set_option maxHeartbeats 8000000 in
theorem out11_walk (A : Option Addr) (n c : Nat) (ws : List Wt) (wa to k ta : Int) (w : World) (hx : Wts w A n c ws) (hb : NB (wa, to, ws)) (k0 : 0 ≤ k) (k1 : k < 4294967296) (t0 : 0 ≤ ta) (t1 : ta < 256) :
    Calls Try.prog 6 #[.agg #[.int .u32 wa, .int .u32 to, .slice A n c], .int .u32 k, .int .u8 ta] w fun e w' => e = .returned (.bool true) ∧ Below w.heap.size w w' := by
  have hlen := hx.len
  have RX := Lib.hid hx
  clear hx
  have HB := Lib.hid (And.intro (Below.refl w.heap.size w) (Nat.le_refl w.heap.size))
  have gq := HB.out.2
  obtain ⟨w1, hw1⟩ : ∃ W, (w.alloc (.cells #[.int .u32 wa, .int .u32 to, .slice A n c] 25)) = W := ⟨_, rfl⟩
  have hb : Below w.heap.size w w1 := hw1 ▸ ((Below.refl _ _).alloc (Nat.le_refl _) _)
  have hv0 : w1.heap[w.heap.size]? = some (.cells #[.int .u32 wa, .int .u32 to, .slice A n c] 25) := by
    have h0 := heap_alloc_new w (.cells #[.int .u32 wa, .int .u32 to, .slice A n c] 25)
    rw [show w.heap.size = w.heap.size by simp [Nat.add_assoc]] at h0
    rw [← hw1]
    exact h0
  replace RX := Lib.hid (Es.below RX.out hb)
  replace HB := Lib.hid (And.intro (HB.out.1.trans (hb.mono HB.out.2)) (Nat.le_trans HB.out.2 hb.size))
  have Vt := Lib.hid hv0
  have get := gq
  generalize hst : w.heap.size = st at *
  clear hb gq hv0
  subst hst
  by_cases hn : (30 : Int) < (n : Int)
  · have b0 : decide ((30 : Int) < (n : Int)) = true := decide_eq_true hn
    have b0n : decide (30 < n) = true := by simp; omega
    clear hn
    go_enter Try.func6, Try.ntmps6
    go_wp2_with fail
    refine (alive11 _).mono ?_
    rintro e w2 ⟨rfl, hb⟩
    replace Vt := Lib.hid (blk_below Vt.out hb (blk_lt Vt.out))
    replace RX := Lib.hid (Es.below RX.out hb)
    replace HB := Lib.hid (And.intro (HB.out.1.trans (hb.mono HB.out.2)) (Nat.le_trans HB.out.2 hb.size))
    clear hb
    have ct0 : w2.cell? ⟨w.heap.size, 0, none⟩ = some (.int .u32 wa) := (blk_cell Vt.out 0).trans rfl
    have ct1 : w2.cell? ⟨w.heap.size, 1, none⟩ = some (.int .u32 to) := (blk_cell Vt.out 1).trans rfl
    have ct2 : w2.cell? ⟨w.heap.size, 2, none⟩ = some (.slice A n c) := (blk_cell Vt.out 2).trans rfl
    go_wp2
    go_ret
    exact ⟨rfl, HB.out.1⟩
  · have b0 : decide ((30 : Int) < (n : Int)) = false := decide_eq_false hn
    have b0n : decide (30 < n) = false := by simp; omega
    have hn1 : n ≤ 30 := by omega
    clear hn
    have hll : ws.length ≤ 70 := by omega
    have c6 := fun B d W (h : Wts W B n d ws) => refRight11_any B n d ws wa to W h (by omega) hb
    have hwi : IntKind.i64.wrap ta = ta := by rw [IntKind.wrap_i64]; omega
    cases hr : rightN (wa, to, ws)
    · rw [hr] at c6
      replace c6 := Lib.hid c6
      clear hr hb k0 k1 t0 t1 hwi
      go_enter Try.func6, Try.ntmps6
      go_wp2_with fail
      refine (alive11 _).mono ?_
      rintro e w2 ⟨rfl, hb⟩
      replace Vt := Lib.hid (blk_below Vt.out hb (blk_lt Vt.out))
      replace RX := Lib.hid (Es.below RX.out hb)
      replace HB := Lib.hid (And.intro (HB.out.1.trans (hb.mono HB.out.2)) (Nat.le_trans HB.out.2 hb.size))
      clear hb
      have ct0 : w2.cell? ⟨w.heap.size, 0, none⟩ = some (.int .u32 wa) := (blk_cell Vt.out 0).trans rfl
      have ct1 : w2.cell? ⟨w.heap.size, 1, none⟩ = some (.int .u32 to) := (blk_cell Vt.out 1).trans rfl
      have ct2 : w2.cell? ⟨w.heap.size, 2, none⟩ = some (.slice A n c) := (blk_cell Vt.out 2).trans rfl
      go_wp2_with fail
      refine (c6.out _ _ _ RX.out).mono ?_
      rintro e w3 ⟨rfl, hb⟩
      clear ct0 ct1 ct2
      replace Vt := Lib.hid (blk_below Vt.out hb (blk_lt Vt.out))
      replace RX := Lib.hid (Es.below RX.out hb)
      replace HB := Lib.hid (And.intro (HB.out.1.trans (hb.mono HB.out.2)) (Nat.le_trans HB.out.2 hb.size))
      clear hb
      go_wp2
      go_ret
      exact ⟨rfl, HB.out.1⟩
    · rw [hr] at c6
      replace c6 := Lib.hid c6
      obtain ⟨⟨⟨pa, pt, ps⟩, pe⟩, hP⟩ : ∃ P, parkN (wa, to, ws) k ta = P := ⟨_, rfl⟩
      have hpl : ps.length ≤ 70 := by have := park_len (wa, to, ws) k ta; rw [hP] at this; simp only at this; omega
      have c3 := Lib.hid (show ∀ B d W, Wts W B n d ws → Calls Try.prog 11 #[.agg #[.int .u32 wa, .int .u32 to, .slice B n d], .int .u32 k, .int .i64 ta] W (fun e w' => ∃ B m d, e = .returned (.tuple #[.agg #[.int .u32 pa, .int .u32 pt, .slice B m d], .int .i64 pe]) ∧ Wts w' B m d ps ∧ Below W.heap.size W w') from fun B d W h => (ntPark_any B n d ws wa to W k ta h (by omega) hb k0 k1).mono (fun e w' ⟨B, m, d, h1, h2, h3, _⟩ => ⟨B, m, d, by rw [hP] at h1; exact h1, by rw [hP] at h2; exact h2, h3⟩))
      have c7 := fun B d W (h : Wts W B n d ws) => ntTold_any B n d ws wa to W k h (by omega) hb k0 k1
      have hpk := park_cases (k := k) (ta := ta) hr
      rw [hP] at hpk
      have hbp : NB (pa, pt, ps) := by have := hb.park (k := k) (ta := ta) k0 k1 (by omega) (by omega); rw [hP] at this; exact this
      have c12 := Lib.hid (show ∀ (xs : List Wt) (a b : Int) (A B : Option Addr) (m d m2 d2 : Nat) W, xs.length ≤ 70 → Wts W A m d xs → Wts W B m2 d2 xs → Calls Try.prog 13 #[.agg #[.int .u32 a, .int .u32 b, .slice A m d], .agg #[.int .u32 a, .int .u32 b, .slice B m2 d2]] W (YesN W true) from fun xs a b A B m d m2 d2 W hl h1 h2 => refSame11_eq A m d xs a b B m2 d2 W h1 h2 (by have := Wts.len h1; omega))
      cases htd : toldN (wa, to, ws) k
      · rw [htd] at c7
        replace c7 := Lib.hid c7
        rcases hpk with ⟨hpe, hpq⟩ | ⟨hout, hpq, hpr⟩
        · simp only at hpe hpq
          injection hpq with e1 e2; injection e2 with e2 e3; replace e1 := e1.symm; replace e2 := e2.symm; replace e3 := e3.symm; subst e1; subst e2; subst e3
          have hpr : rightN (wa, to, ws) = true := hr
          have c9 : (pe != 0) = true := by simp [hpe]
          have hall : allN (wa, to, ws) = ((wa, wa, []), ws.map (·.2), 0) := by unfold allN; exact if_neg (by rw [hpr]; simp)
          have c4 := Lib.hid (show ∀ B m d W, Wts W B m d ws → Calls Try.prog 20 #[.agg #[.int .u32 wa, .int .u32 to, .slice B m d]] W (fun e w' => ∃ B m d C kk f, e = .returned (.tuple #[.agg #[.int .u32 wa, .int .u32 wa, .slice B m d], .slice C kk f, .int .i64 0]) ∧ Wts w' B m d [] ∧ Is w' C kk f (ws.map (·.2)) ∧ Below W.heap.size W w') from fun B m d W h => (ntAll_any B m d ws wa to W h (by have := Wts.len h; (try simp only [List.length_append, List.length_cons, List.length_nil] at this); omega) hbp).mono (fun e w' ⟨B, m, d, C, kk, f, h1, h2, h5, h3, _⟩ => ⟨B, m, d, C, kk, f, by rw [hall] at h1; exact h1, by rw [hall] at h2; exact h2, by rw [hall] at h5; exact is_own11 h5, h3⟩))
          have HLM := Lib.hid (fun (W : World) (B : Option Addr) (m d : Nat) (h : Wts W B m d ws) => Wts.len h)
          clear hall hpr htd hP hr hb k0 k1 t0 t1 hbp hpe
          go_enter Try.func6, Try.ntmps6
          go_wp2_with fail
          refine (alive11 _).mono ?_
          rintro e w2 ⟨rfl, hb⟩
          replace Vt := Lib.hid (blk_below Vt.out hb (blk_lt Vt.out))
          replace RX := Lib.hid (Es.below RX.out hb)
          replace HB := Lib.hid (And.intro (HB.out.1.trans (hb.mono HB.out.2)) (Nat.le_trans HB.out.2 hb.size))
          clear hb
          have ct0 : w2.cell? ⟨w.heap.size, 0, none⟩ = some (.int .u32 wa) := (blk_cell Vt.out 0).trans rfl
          have ct1 : w2.cell? ⟨w.heap.size, 1, none⟩ = some (.int .u32 to) := (blk_cell Vt.out 1).trans rfl
          have ct2 : w2.cell? ⟨w.heap.size, 2, none⟩ = some (.slice A n c) := (blk_cell Vt.out 2).trans rfl
          go_wp2_with fail
          refine (c6.out _ _ _ RX.out).mono ?_
          rintro e w3 ⟨rfl, hb⟩
          clear ct0 ct1 ct2
          replace Vt := Lib.hid (blk_below Vt.out hb (blk_lt Vt.out))
          replace RX := Lib.hid (Es.below RX.out hb)
          replace HB := Lib.hid (And.intro (HB.out.1.trans (hb.mono HB.out.2)) (Nat.le_trans HB.out.2 hb.size))
          clear hb
          have ct0 : w3.cell? ⟨w.heap.size, 0, none⟩ = some (.int .u32 wa) := (blk_cell Vt.out 0).trans rfl
          have ct1 : w3.cell? ⟨w.heap.size, 1, none⟩ = some (.int .u32 to) := (blk_cell Vt.out 1).trans rfl
          have ct2 : w3.cell? ⟨w.heap.size, 2, none⟩ = some (.slice A n c) := (blk_cell Vt.out 2).trans rfl
          go_wp2_with fail
          refine (c3.out _ _ _ RX.out).mono ?_
          rintro e w4 ⟨B4, m4, d4, rfl, hrs, hb⟩
          clear ct0 ct1 ct2
          replace Vt := Lib.hid (blk_below Vt.out hb (blk_lt Vt.out))
          replace RX := Lib.hid (Es.below RX.out hb)
          replace HB := Lib.hid (And.intro (HB.out.1.trans (hb.mono HB.out.2)) (Nat.le_trans HB.out.2 hb.size))
          clear hb
          have R4 := Lib.hid hrs
          clear hrs
          have ltt := blk_lt Vt.out
          have gq := HB.out.2
          obtain ⟨w5, hw5⟩ : ∃ W, (w4.alloc (.cells #[.int .u32 wa, .int .u32 to, .slice B4 m4 d4] 25)) = W := ⟨_, rfl⟩
          have hb : Below w4.heap.size w4 w5 := hw5 ▸ ((Below.refl _ _).alloc (Nat.le_refl _) _)
          have hv0 : w5.heap[w4.heap.size]? = some (.cells #[.int .u32 wa, .int .u32 to, .slice B4 m4 d4] 25) := by
            have h0 := heap_alloc_new w4 (.cells #[.int .u32 wa, .int .u32 to, .slice B4 m4 d4] 25)
            rw [show w4.heap.size = w4.heap.size by simp [Nat.add_assoc]] at h0
            rw [← hw5]
            exact h0
          replace Vt := Lib.hid (blk_below Vt.out hb (blk_lt Vt.out))
          replace RX := Lib.hid (Es.below RX.out hb)
          replace R4 := Lib.hid (Es.below R4.out hb)
          replace HB := Lib.hid (And.intro (HB.out.1.trans (hb.mono HB.out.2)) (Nat.le_trans HB.out.2 hb.size))
          have Vu := Lib.hid hv0
          have net_u := Nat.ne_of_lt ltt
          have geu := gq
          generalize hsu : w4.heap.size = su at *
          clear hb gq hv0 ltt
          have ct0 : w5.cell? ⟨w.heap.size, 0, none⟩ = some (.int .u32 wa) := (blk_cell Vt.out 0).trans rfl
          have ct1 : w5.cell? ⟨w.heap.size, 1, none⟩ = some (.int .u32 to) := (blk_cell Vt.out 1).trans rfl
          have ct2 : w5.cell? ⟨w.heap.size, 2, none⟩ = some (.slice A n c) := (blk_cell Vt.out 2).trans rfl
          go_wp2_with fail
          refine (c7.out _ _ _ RX.out).mono ?_
          rintro e w6 ⟨rfl, hb⟩
          clear ct0 ct1 ct2
          replace Vt := Lib.hid (blk_below Vt.out hb (blk_lt Vt.out))
          replace Vu := Lib.hid (blk_below Vu.out hb (blk_lt Vu.out))
          replace RX := Lib.hid (Es.below RX.out hb)
          replace R4 := Lib.hid (Es.below R4.out hb)
          replace HB := Lib.hid (And.intro (HB.out.1.trans (hb.mono HB.out.2)) (Nat.le_trans HB.out.2 hb.size))
          clear hb
          have cu0 : w6.cell? ⟨su, 0, none⟩ = some (.int .u32 wa) := (blk_cell Vu.out 0).trans rfl
          have cu1 : w6.cell? ⟨su, 1, none⟩ = some (.int .u32 to) := (blk_cell Vu.out 1).trans rfl
          have cu2 : w6.cell? ⟨su, 2, none⟩ = some (.slice B4 m4 d4) := (blk_cell Vu.out 2).trans rfl
          go_wp2_with fail
          refine (c4.out _ _ _ _ R4.out).mono ?_
          rintro e w7 ⟨B5, m5, d5, C5, k5, f5, rfl, hrs, his, hb⟩
          clear cu0 cu1 cu2
          replace Vt := Lib.hid (blk_below Vt.out hb (blk_lt Vt.out))
          replace Vu := Lib.hid (blk_below Vu.out hb (blk_lt Vu.out))
          replace RX := Lib.hid (Es.below RX.out hb)
          replace R4 := Lib.hid (Es.below R4.out hb)
          replace HB := Lib.hid (And.intro (HB.out.1.trans (hb.mono HB.out.2)) (Nat.le_trans HB.out.2 hb.size))
          clear hb
          have R5 := Lib.hid hrs
          have J5 := Lib.hid his
          clear hrs his
          have ltt := blk_lt Vt.out
          have ltu := blk_lt Vu.out
          have gq := HB.out.2
          obtain ⟨w8, hw8⟩ : ∃ W, (w7.alloc (.cells #[.int .u32 wa, .int .u32 wa, .slice B5 m5 d5] 25)) = W := ⟨_, rfl⟩
          have hb : Below w7.heap.size w7 w8 := hw8 ▸ ((Below.refl _ _).alloc (Nat.le_refl _) _)
          have hv0 : w8.heap[w7.heap.size]? = some (.cells #[.int .u32 wa, .int .u32 wa, .slice B5 m5 d5] 25) := by
            have h0 := heap_alloc_new w7 (.cells #[.int .u32 wa, .int .u32 wa, .slice B5 m5 d5] 25)
            rw [show w7.heap.size = w7.heap.size by simp [Nat.add_assoc]] at h0
            rw [← hw8]
            exact h0
          replace Vt := Lib.hid (blk_below Vt.out hb (blk_lt Vt.out))
          replace Vu := Lib.hid (blk_below Vu.out hb (blk_lt Vu.out))
          replace RX := Lib.hid (Es.below RX.out hb)
          replace R4 := Lib.hid (Es.below R4.out hb)
          replace R5 := Lib.hid (Es.below R5.out hb)
          replace J5 := Lib.hid (Es.below J5.out hb)
          replace HB := Lib.hid (And.intro (HB.out.1.trans (hb.mono HB.out.2)) (Nat.le_trans HB.out.2 hb.size))
          have Vv := Lib.hid hv0
          have net_v := Nat.ne_of_lt ltt
          have neu_v := Nat.ne_of_lt ltu
          have gev := gq
          generalize hsv : w7.heap.size = sv at *
          clear hb gq hv0 ltt ltu
          have hk5 : m4 = k5 := by have h1 := Is.len J5.out; have h2 := Wts.len R4.out; simp at h1 h2; omega
          subst hk5
          have e1 : ((m4 : Int) == (m4 : Int)) = true := by simp
          have e1n : (m4 == m4) = true := by simp
          have ct0 : w8.cell? ⟨w.heap.size, 0, none⟩ = some (.int .u32 wa) := (blk_cell Vt.out 0).trans rfl
          have ct1 : w8.cell? ⟨w.heap.size, 1, none⟩ = some (.int .u32 to) := (blk_cell Vt.out 1).trans rfl
          have ct2 : w8.cell? ⟨w.heap.size, 2, none⟩ = some (.slice A n c) := (blk_cell Vt.out 2).trans rfl
          have cu0 : w8.cell? ⟨su, 0, none⟩ = some (.int .u32 wa) := (blk_cell Vu.out 0).trans rfl
          have cu1 : w8.cell? ⟨su, 1, none⟩ = some (.int .u32 to) := (blk_cell Vu.out 1).trans rfl
          have cu2 : w8.cell? ⟨su, 2, none⟩ = some (.slice B4 m4 d4) := (blk_cell Vu.out 2).trans rfl
          have cv0 : w8.cell? ⟨sv, 0, none⟩ = some (.int .u32 wa) := (blk_cell Vv.out 0).trans rfl
          have cv1 : w8.cell? ⟨sv, 1, none⟩ = some (.int .u32 wa) := (blk_cell Vv.out 1).trans rfl
          have cv2 : w8.cell? ⟨sv, 2, none⟩ = some (.slice B5 m5 d5) := (blk_cell Vv.out 2).trans rfl
          go_wp2
          go_ret
          exact ⟨rfl, HB.out.1⟩
        · injection hpq with e1 e2; injection e1 with e3 e4; injection e4 with e4 e5; replace e3 := e3.symm; replace e4 := e4.symm; subst e2; subst e3; subst e4; subst e5
          have hall : allN (wa, to, ws ++ [(k, ta)]) = ((wa, wa, []), (ws ++ [(k, ta)]).map (·.2), 0) := by unfold allN; exact if_neg (by rw [hpr]; simp)
          have c4 := Lib.hid (show ∀ B m d W, Wts W B m d (ws ++ [(k, ta)]) → Calls Try.prog 20 #[.agg #[.int .u32 wa, .int .u32 to, .slice B m d]] W (fun e w' => ∃ B m d C kk f, e = .returned (.tuple #[.agg #[.int .u32 wa, .int .u32 wa, .slice B m d], .slice C kk f, .int .i64 0]) ∧ Wts w' B m d [] ∧ Is w' C kk f ((ws ++ [(k, ta)]).map (·.2)) ∧ Below W.heap.size W w') from fun B m d W h => (ntAll_any B m d (ws ++ [(k, ta)]) wa to W h (by have := Wts.len h; (try simp only [List.length_append, List.length_cons, List.length_nil] at this); omega) hbp).mono (fun e w' ⟨B, m, d, C, kk, f, h1, h2, h5, h3, _⟩ => ⟨B, m, d, C, kk, f, by rw [hall] at h1; exact h1, by rw [hall] at h2; exact h2, by rw [hall] at h5; exact is_own11 h5, h3⟩))
          have hto := out_told (l := []) hb hr k0 k1 hout
          have c10 := Lib.hid (show ∀ B m d W, Wts W B m d [] → Calls Try.prog 16 #[.agg #[.int .u32 wa, .int .u32 wa, .slice B m d], .int .u32 k] W (YesN W true) from fun B m d W h => by have h2 := ntTold_any B m d [] wa wa W k h (by have := Wts.len h; simp at this; omega) ⟨hb.w0, hb.w1, hb.w0, hb.w1, by simp, by simp⟩ k0 k1; rwa [hto] at h2)
          have HLM := Lib.hid (fun (W : World) (B : Option Addr) (m d : Nat) (h : Wts W B m d (ws ++ [(k, ta)])) => Wts.len h)
          clear hall hpr htd hP hr hb k0 k1 t0 t1 hbp hout hto
          go_enter Try.func6, Try.ntmps6
          go_wp2_with fail
          refine (alive11 _).mono ?_
          rintro e w2 ⟨rfl, hb⟩
          replace Vt := Lib.hid (blk_below Vt.out hb (blk_lt Vt.out))
          replace RX := Lib.hid (Es.below RX.out hb)
          replace HB := Lib.hid (And.intro (HB.out.1.trans (hb.mono HB.out.2)) (Nat.le_trans HB.out.2 hb.size))
          clear hb
          have ct0 : w2.cell? ⟨w.heap.size, 0, none⟩ = some (.int .u32 wa) := (blk_cell Vt.out 0).trans rfl
          have ct1 : w2.cell? ⟨w.heap.size, 1, none⟩ = some (.int .u32 to) := (blk_cell Vt.out 1).trans rfl
          have ct2 : w2.cell? ⟨w.heap.size, 2, none⟩ = some (.slice A n c) := (blk_cell Vt.out 2).trans rfl
          go_wp2_with fail
          refine (c6.out _ _ _ RX.out).mono ?_
          rintro e w3 ⟨rfl, hb⟩
          clear ct0 ct1 ct2
          replace Vt := Lib.hid (blk_below Vt.out hb (blk_lt Vt.out))
          replace RX := Lib.hid (Es.below RX.out hb)
          replace HB := Lib.hid (And.intro (HB.out.1.trans (hb.mono HB.out.2)) (Nat.le_trans HB.out.2 hb.size))
          clear hb
          have ct0 : w3.cell? ⟨w.heap.size, 0, none⟩ = some (.int .u32 wa) := (blk_cell Vt.out 0).trans rfl
          have ct1 : w3.cell? ⟨w.heap.size, 1, none⟩ = some (.int .u32 to) := (blk_cell Vt.out 1).trans rfl
          have ct2 : w3.cell? ⟨w.heap.size, 2, none⟩ = some (.slice A n c) := (blk_cell Vt.out 2).trans rfl
          go_wp2_with fail
          refine (c3.out _ _ _ RX.out).mono ?_
          rintro e w4 ⟨B4, m4, d4, rfl, hrs, hb⟩
          clear ct0 ct1 ct2
          replace Vt := Lib.hid (blk_below Vt.out hb (blk_lt Vt.out))
          replace RX := Lib.hid (Es.below RX.out hb)
          replace HB := Lib.hid (And.intro (HB.out.1.trans (hb.mono HB.out.2)) (Nat.le_trans HB.out.2 hb.size))
          clear hb
          have R4 := Lib.hid hrs
          clear hrs
          have ltt := blk_lt Vt.out
          have gq := HB.out.2
          obtain ⟨w5, hw5⟩ : ∃ W, (w4.alloc (.cells #[.int .u32 wa, .int .u32 to, .slice B4 m4 d4] 25)) = W := ⟨_, rfl⟩
          have hb : Below w4.heap.size w4 w5 := hw5 ▸ ((Below.refl _ _).alloc (Nat.le_refl _) _)
          have hv0 : w5.heap[w4.heap.size]? = some (.cells #[.int .u32 wa, .int .u32 to, .slice B4 m4 d4] 25) := by
            have h0 := heap_alloc_new w4 (.cells #[.int .u32 wa, .int .u32 to, .slice B4 m4 d4] 25)
            rw [show w4.heap.size = w4.heap.size by simp [Nat.add_assoc]] at h0
            rw [← hw5]
            exact h0
          replace Vt := Lib.hid (blk_below Vt.out hb (blk_lt Vt.out))
          replace RX := Lib.hid (Es.below RX.out hb)
          replace R4 := Lib.hid (Es.below R4.out hb)
          replace HB := Lib.hid (And.intro (HB.out.1.trans (hb.mono HB.out.2)) (Nat.le_trans HB.out.2 hb.size))
          have Vu := Lib.hid hv0
          have net_u := Nat.ne_of_lt ltt
          have geu := gq
          generalize hsu : w4.heap.size = su at *
          clear hb gq hv0 ltt
          have ct0 : w5.cell? ⟨w.heap.size, 0, none⟩ = some (.int .u32 wa) := (blk_cell Vt.out 0).trans rfl
          have ct1 : w5.cell? ⟨w.heap.size, 1, none⟩ = some (.int .u32 to) := (blk_cell Vt.out 1).trans rfl
          have ct2 : w5.cell? ⟨w.heap.size, 2, none⟩ = some (.slice A n c) := (blk_cell Vt.out 2).trans rfl
          go_wp2_with fail
          refine (c7.out _ _ _ RX.out).mono ?_
          rintro e w6 ⟨rfl, hb⟩
          clear ct0 ct1 ct2
          replace Vt := Lib.hid (blk_below Vt.out hb (blk_lt Vt.out))
          replace Vu := Lib.hid (blk_below Vu.out hb (blk_lt Vu.out))
          replace RX := Lib.hid (Es.below RX.out hb)
          replace R4 := Lib.hid (Es.below R4.out hb)
          replace HB := Lib.hid (And.intro (HB.out.1.trans (hb.mono HB.out.2)) (Nat.le_trans HB.out.2 hb.size))
          clear hb
          have cu0 : w6.cell? ⟨su, 0, none⟩ = some (.int .u32 wa) := (blk_cell Vu.out 0).trans rfl
          have cu1 : w6.cell? ⟨su, 1, none⟩ = some (.int .u32 to) := (blk_cell Vu.out 1).trans rfl
          have cu2 : w6.cell? ⟨su, 2, none⟩ = some (.slice B4 m4 d4) := (blk_cell Vu.out 2).trans rfl
          go_wp2_with fail
          refine (c4.out _ _ _ _ R4.out).mono ?_
          rintro e w7 ⟨B5, m5, d5, C5, k5, f5, rfl, hrs, his, hb⟩
          clear cu0 cu1 cu2
          replace Vt := Lib.hid (blk_below Vt.out hb (blk_lt Vt.out))
          replace Vu := Lib.hid (blk_below Vu.out hb (blk_lt Vu.out))
          replace RX := Lib.hid (Es.below RX.out hb)
          replace R4 := Lib.hid (Es.below R4.out hb)
          replace HB := Lib.hid (And.intro (HB.out.1.trans (hb.mono HB.out.2)) (Nat.le_trans HB.out.2 hb.size))
          clear hb
          have R5 := Lib.hid hrs
          have J5 := Lib.hid his
          clear hrs his
          have ltt := blk_lt Vt.out
          have ltu := blk_lt Vu.out
          have gq := HB.out.2
          obtain ⟨w8, hw8⟩ : ∃ W, (w7.alloc (.cells #[.int .u32 wa, .int .u32 wa, .slice B5 m5 d5] 25)) = W := ⟨_, rfl⟩
          have hb : Below w7.heap.size w7 w8 := hw8 ▸ ((Below.refl _ _).alloc (Nat.le_refl _) _)
          have hv0 : w8.heap[w7.heap.size]? = some (.cells #[.int .u32 wa, .int .u32 wa, .slice B5 m5 d5] 25) := by
            have h0 := heap_alloc_new w7 (.cells #[.int .u32 wa, .int .u32 wa, .slice B5 m5 d5] 25)
            rw [show w7.heap.size = w7.heap.size by simp [Nat.add_assoc]] at h0
            rw [← hw8]
            exact h0
          replace Vt := Lib.hid (blk_below Vt.out hb (blk_lt Vt.out))
          replace Vu := Lib.hid (blk_below Vu.out hb (blk_lt Vu.out))
          replace RX := Lib.hid (Es.below RX.out hb)
          replace R4 := Lib.hid (Es.below R4.out hb)
          replace R5 := Lib.hid (Es.below R5.out hb)
          replace J5 := Lib.hid (Es.below J5.out hb)
          replace HB := Lib.hid (And.intro (HB.out.1.trans (hb.mono HB.out.2)) (Nat.le_trans HB.out.2 hb.size))
          have Vv := Lib.hid hv0
          have net_v := Nat.ne_of_lt ltt
          have neu_v := Nat.ne_of_lt ltu
          have gev := gq
          generalize hsv : w7.heap.size = sv at *
          clear hb gq hv0 ltt ltu
          have hk5 : m4 = k5 := by have h1 := Is.len J5.out; have h2 := Wts.len R4.out; simp at h1 h2; omega
          subst hk5
          have e1 : ((m4 : Int) == (m4 : Int)) = true := by simp
          have e1n : (m4 == m4) = true := by simp
          have hk6 : m4 = n + 1 := by have h2 := Wts.len R4.out; simp at h2; omega
          have hwn : IntKind.i64.wrap ((n : Int) + 1) = (m4 : Int) := by rw [IntKind.wrap_i64]; omega
          have hwk : IntKind.i64.wrap ((m4 : Int) - 1) = (n : Int) := by rw [IntKind.wrap_i64]; omega
          have i0 : (0 : Int) ≤ (n : Int) := by omega
          have i1 : (n : Int) < (m4 : Int) := by omega
          obtain ⟨b9, o9, x9, hC5, _, hc9, hd9⟩ := Is.look J5.out n (by omega)
          have hx9 : x9 = ta := by
            have h7 := List.drop_eq_getElem_cons (l := (ws ++ [(k, ta)]).map (·.2)) (i := n) (by simp; omega)
            rw [hd9] at h7; injection h7 with h7 _
            rw [h7]; simp [hlen]
          subst hx9
          subst hC5
          have e2 : (x9 == x9) = true := by simp
          clear hd9
          have ct0 : w8.cell? ⟨w.heap.size, 0, none⟩ = some (.int .u32 wa) := (blk_cell Vt.out 0).trans rfl
          have ct1 : w8.cell? ⟨w.heap.size, 1, none⟩ = some (.int .u32 to) := (blk_cell Vt.out 1).trans rfl
          have ct2 : w8.cell? ⟨w.heap.size, 2, none⟩ = some (.slice A n c) := (blk_cell Vt.out 2).trans rfl
          have cu0 : w8.cell? ⟨su, 0, none⟩ = some (.int .u32 wa) := (blk_cell Vu.out 0).trans rfl
          have cu1 : w8.cell? ⟨su, 1, none⟩ = some (.int .u32 to) := (blk_cell Vu.out 1).trans rfl
          have cu2 : w8.cell? ⟨su, 2, none⟩ = some (.slice B4 m4 d4) := (blk_cell Vu.out 2).trans rfl
          have cv0 : w8.cell? ⟨sv, 0, none⟩ = some (.int .u32 wa) := (blk_cell Vv.out 0).trans rfl
          have cv1 : w8.cell? ⟨sv, 1, none⟩ = some (.int .u32 wa) := (blk_cell Vv.out 1).trans rfl
          have cv2 : w8.cell? ⟨sv, 2, none⟩ = some (.slice B5 m5 d5) := (blk_cell Vv.out 2).trans rfl
          go_wp2_with fail
          refine (c10.out _ _ _ _ R5.out).mono ?_
          rintro e w9 ⟨rfl, hb⟩
          clear ct0 ct1 ct2 cu0 cu1 cu2 cv0 cv1 cv2
          replace Vt := Lib.hid (blk_below Vt.out hb (blk_lt Vt.out))
          replace Vu := Lib.hid (blk_below Vu.out hb (blk_lt Vu.out))
          replace Vv := Lib.hid (blk_below Vv.out hb (blk_lt Vv.out))
          replace RX := Lib.hid (Es.below RX.out hb)
          replace R4 := Lib.hid (Es.below R4.out hb)
          replace R5 := Lib.hid (Es.below R5.out hb)
          replace J5 := Lib.hid (Es.below J5.out hb)
          replace HB := Lib.hid (And.intro (HB.out.1.trans (hb.mono HB.out.2)) (Nat.le_trans HB.out.2 hb.size))
          clear hb
          go_wp2
          go_ret
          exact ⟨rfl, HB.out.1⟩
      · rw [htd] at c7
        replace c7 := Lib.hid c7
        have hpq : (pa, pt, ps) = (wa, to, ws) ∧ pe = 1 := by
          have h1 : parkN (wa, to, ws) k ta = ((wa, to, ws), 1) := by unfold parkN; exact if_pos (Or.inr (Or.inr (told_out hr htd)))
          rw [hP] at h1; injection h1 with h1 h2; exact ⟨h1, h2⟩
        obtain ⟨hpq, rfl⟩ := hpq
        injection hpq with e1 e2; injection e2 with e2 e3; replace e1 := e1.symm; replace e2 := e2.symm; replace e3 := e3.symm; subst e1; subst e2; subst e3
        clear htd hP hr hb k0 k1 t0 t1 hbp hpk
        go_enter Try.func6, Try.ntmps6
        go_wp2_with fail
        refine (alive11 _).mono ?_
        rintro e w2 ⟨rfl, hb⟩
        replace Vt := Lib.hid (blk_below Vt.out hb (blk_lt Vt.out))
        replace RX := Lib.hid (Es.below RX.out hb)
        replace HB := Lib.hid (And.intro (HB.out.1.trans (hb.mono HB.out.2)) (Nat.le_trans HB.out.2 hb.size))
        clear hb
        have ct0 : w2.cell? ⟨w.heap.size, 0, none⟩ = some (.int .u32 wa) := (blk_cell Vt.out 0).trans rfl
        have ct1 : w2.cell? ⟨w.heap.size, 1, none⟩ = some (.int .u32 to) := (blk_cell Vt.out 1).trans rfl
        have ct2 : w2.cell? ⟨w.heap.size, 2, none⟩ = some (.slice A n c) := (blk_cell Vt.out 2).trans rfl
        go_wp2_with fail
        refine (c6.out _ _ _ RX.out).mono ?_
        rintro e w3 ⟨rfl, hb⟩
        clear ct0 ct1 ct2
        replace Vt := Lib.hid (blk_below Vt.out hb (blk_lt Vt.out))
        replace RX := Lib.hid (Es.below RX.out hb)
        replace HB := Lib.hid (And.intro (HB.out.1.trans (hb.mono HB.out.2)) (Nat.le_trans HB.out.2 hb.size))
        clear hb
        have ct0 : w3.cell? ⟨w.heap.size, 0, none⟩ = some (.int .u32 wa) := (blk_cell Vt.out 0).trans rfl
        have ct1 : w3.cell? ⟨w.heap.size, 1, none⟩ = some (.int .u32 to) := (blk_cell Vt.out 1).trans rfl
        have ct2 : w3.cell? ⟨w.heap.size, 2, none⟩ = some (.slice A n c) := (blk_cell Vt.out 2).trans rfl
        go_wp2_with fail
        refine (c3.out _ _ _ RX.out).mono ?_
        rintro e w4 ⟨B4, m4, d4, rfl, hrs, hb⟩
        clear ct0 ct1 ct2
        replace Vt := Lib.hid (blk_below Vt.out hb (blk_lt Vt.out))
        replace RX := Lib.hid (Es.below RX.out hb)
        replace HB := Lib.hid (And.intro (HB.out.1.trans (hb.mono HB.out.2)) (Nat.le_trans HB.out.2 hb.size))
        clear hb
        have R4 := Lib.hid hrs
        clear hrs
        have ltt := blk_lt Vt.out
        have gq := HB.out.2
        obtain ⟨w5, hw5⟩ : ∃ W, (w4.alloc (.cells #[.int .u32 wa, .int .u32 to, .slice B4 m4 d4] 25)) = W := ⟨_, rfl⟩
        have hb : Below w4.heap.size w4 w5 := hw5 ▸ ((Below.refl _ _).alloc (Nat.le_refl _) _)
        have hv0 : w5.heap[w4.heap.size]? = some (.cells #[.int .u32 wa, .int .u32 to, .slice B4 m4 d4] 25) := by
          have h0 := heap_alloc_new w4 (.cells #[.int .u32 wa, .int .u32 to, .slice B4 m4 d4] 25)
          rw [show w4.heap.size = w4.heap.size by simp [Nat.add_assoc]] at h0
          rw [← hw5]
          exact h0
        replace Vt := Lib.hid (blk_below Vt.out hb (blk_lt Vt.out))
        replace RX := Lib.hid (Es.below RX.out hb)
        replace R4 := Lib.hid (Es.below R4.out hb)
        replace HB := Lib.hid (And.intro (HB.out.1.trans (hb.mono HB.out.2)) (Nat.le_trans HB.out.2 hb.size))
        have Vu := Lib.hid hv0
        have net_u := Nat.ne_of_lt ltt
        have geu := gq
        generalize hsu : w4.heap.size = su at *
        clear hb gq hv0 ltt
        have ct0 : w5.cell? ⟨w.heap.size, 0, none⟩ = some (.int .u32 wa) := (blk_cell Vt.out 0).trans rfl
        have ct1 : w5.cell? ⟨w.heap.size, 1, none⟩ = some (.int .u32 to) := (blk_cell Vt.out 1).trans rfl
        have ct2 : w5.cell? ⟨w.heap.size, 2, none⟩ = some (.slice A n c) := (blk_cell Vt.out 2).trans rfl
        go_wp2_with fail
        refine (c7.out _ _ _ RX.out).mono ?_
        rintro e w6 ⟨rfl, hb⟩
        clear ct0 ct1 ct2
        replace Vt := Lib.hid (blk_below Vt.out hb (blk_lt Vt.out))
        replace Vu := Lib.hid (blk_below Vu.out hb (blk_lt Vu.out))
        replace RX := Lib.hid (Es.below RX.out hb)
        replace R4 := Lib.hid (Es.below R4.out hb)
        replace HB := Lib.hid (And.intro (HB.out.1.trans (hb.mono HB.out.2)) (Nat.le_trans HB.out.2 hb.size))
        clear hb
        have cu0 : w6.cell? ⟨su, 0, none⟩ = some (.int .u32 wa) := (blk_cell Vu.out 0).trans rfl
        have cu1 : w6.cell? ⟨su, 1, none⟩ = some (.int .u32 to) := (blk_cell Vu.out 1).trans rfl
        have cu2 : w6.cell? ⟨su, 2, none⟩ = some (.slice B4 m4 d4) := (blk_cell Vu.out 2).trans rfl
        have ct0 : w6.cell? ⟨w.heap.size, 0, none⟩ = some (.int .u32 wa) := (blk_cell Vt.out 0).trans rfl
        have ct1 : w6.cell? ⟨w.heap.size, 1, none⟩ = some (.int .u32 to) := (blk_cell Vt.out 1).trans rfl
        have ct2 : w6.cell? ⟨w.heap.size, 2, none⟩ = some (.slice A n c) := (blk_cell Vt.out 2).trans rfl
        go_wp2_with fail
        refine (c12.out _ _ _ _ _ _ _ _ _ _ hll R4.out RX.out).mono ?_
        rintro e w7 ⟨rfl, hb⟩
        clear cu0 cu1 cu2 ct0 ct1 ct2
        replace Vt := Lib.hid (blk_below Vt.out hb (blk_lt Vt.out))
        replace Vu := Lib.hid (blk_below Vu.out hb (blk_lt Vu.out))
        replace RX := Lib.hid (Es.below RX.out hb)
        replace R4 := Lib.hid (Es.below R4.out hb)
        replace HB := Lib.hid (And.intro (HB.out.1.trans (hb.mono HB.out.2)) (Nat.le_trans HB.out.2 hb.size))
        clear hb
        go_wp2
        go_ret
        exact ⟨rfl, HB.out.1⟩
end Go.Proofs.Ytjpgmkbcjedhfaa
