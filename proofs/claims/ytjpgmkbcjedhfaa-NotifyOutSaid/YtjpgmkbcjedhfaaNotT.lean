/- The walk of NotifyAnswers: it answers true, over any world; no condition. -/
import Derived.Test.YtjpgmkbcjedhfaaNotS
namespace Go.Proofs.Ytjpgmkbcjedhfaa
set_option linter.unusedVariables false
set_option linter.unusedSimpArgs false
open Go.RowKit
set_option maxRecDepth 100000 in
set_option maxHeartbeats 8000000 in
theorem answers11_walk (A : Option Addr) (n c : Nat) (ws : List Wt) (wa to k ta : Int) (w : World) (hx : Wts w A n c ws) (hb : NB (wa, to, ws)) (k0 : 0 ≤ k) (k1 : k < 4294967296) :
    Calls Try.prog 3 #[.agg #[.int .u32 wa, .int .u32 to, .slice A n c], .int .u32 k, .int .i64 ta] w fun e w' => e = .returned (.bool true) ∧ Below w.heap.size w w' := by
  have hlen := hx.len
  have RX := Lib.hid hx
  clear hx
  have HB := Lib.hid (And.intro (Below.refl w.heap.size w) (Nat.le_refl w.heap.size))
  have gq := HB.out.2
  obtain ⟨w1, hw1⟩ : ∃ W, (w.alloc (.cells #[.int .u32 wa, .int .u32 to, .slice A n c] 25)) = W := ⟨_, rfl⟩
  have hb : Below w.heap.size w w1 := hw1 ▸ ((Below.refl _ _).alloc (Nat.le_refl _) _)
  have hv0 : w1.heap[w.heap.size]? = some (.cells #[.int .u32 wa, .int .u32 to, .slice A n c] 25) := by
    have h0 := heap_alloc_new w (.cells #[.int .u32 wa, .int .u32 to, .slice A n c] 25)
    rw [show w.heap.size = w.heap.size by simp [Nat.add_assoc]] at h0
    rw [← hw1]
    exact h0
  replace RX := Lib.hid (Es.below RX.out hb)
  replace HB := Lib.hid (And.intro (HB.out.1.trans (hb.mono HB.out.2)) (Nat.le_trans HB.out.2 hb.size))
  have Vt := Lib.hid hv0
  have get := gq
  generalize hst : w.heap.size = st at *
  clear hb gq hv0
  subst hst
  by_cases hn : (30 : Int) < (n : Int)
  · have b0 : decide ((30 : Int) < (n : Int)) = true := decide_eq_true hn
    have b0n : decide (30 < n) = true := by simp; omega
    clear hn
    go_enter Try.func3, Try.ntmps3
    go_wp2_with fail
    refine (alive11 _).mono ?_
    rintro e w2 ⟨rfl, hb⟩
    replace Vt := Lib.hid (blk_below Vt.out hb (blk_lt Vt.out))
    replace RX := Lib.hid (Es.below RX.out hb)
    replace HB := Lib.hid (And.intro (HB.out.1.trans (hb.mono HB.out.2)) (Nat.le_trans HB.out.2 hb.size))
    clear hb
    have ct0 : w2.cell? ⟨w.heap.size, 0, none⟩ = some (.int .u32 wa) := (blk_cell Vt.out 0).trans rfl
    have ct1 : w2.cell? ⟨w.heap.size, 1, none⟩ = some (.int .u32 to) := (blk_cell Vt.out 1).trans rfl
    have ct2 : w2.cell? ⟨w.heap.size, 2, none⟩ = some (.slice A n c) := (blk_cell Vt.out 2).trans rfl
    go_wp2
    go_ret
    exact ⟨rfl, HB.out.1⟩
  · have b0 : decide ((30 : Int) < (n : Int)) = false := decide_eq_false hn
    have b0n : decide (30 < n) = false := by simp; omega
    have hn1 : n ≤ 30 := by omega
    clear hn
    obtain ⟨⟨⟨xa, xt, xs⟩, xi, xe⟩, hI⟩ : ∃ P, addN (wa, to, ws) = P := ⟨_, rfl⟩
    obtain ⟨⟨⟨pa, pt, ps⟩, pe⟩, hP⟩ : ∃ P, parkN (wa, to, ws) k ta = P := ⟨_, rfl⟩
    obtain ⟨yb, hyb⟩ : ∃ b, rightN (wa, to, ws) = b := ⟨_, rfl⟩
    obtain ⟨tb, htb⟩ : ∃ b, toldN (wa, to, ws) k = b := ⟨_, rfl⟩
    have hil : xs.length ≤ 70 := by have := add_len (wa, to, ws); rw [hI] at this; simp only at this; subst this; omega
    have hpl : ps.length ≤ 70 := by have := park_len (wa, to, ws) k ta; rw [hP] at this; simp only at this; omega
    have hll : ws.length ≤ 70 := by omega
    have c1 := Lib.hid (show ∀ B d W, Wts W B n d ws → Calls Try.prog 9 #[.agg #[.int .u32 wa, .int .u32 to, .slice B n d]] W (fun e w' => ∃ B m d, e = .returned (.tuple #[.agg #[.int .u32 xa, .int .u32 xt, .slice B m d], .int .u32 xi, .int .i64 xe]) ∧ Wts w' B m d xs ∧ Below W.heap.size W w') from fun B d W h => (ntAdd_any B n d ws wa to W h (by omega) hb).mono (fun e w' ⟨B, m, d, h1, h2, h3, _⟩ => ⟨B, m, d, by rw [hI] at h1; exact h1, by rw [hI] at h2; exact h2, h3⟩))
    have c2 := Lib.hid (show ∀ B d W, Wts W B n d ws → Calls Try.prog 10 #[.agg #[.int .u32 wa, .int .u32 to, .slice B n d]] W (fun e w' => ∃ B m d, e = .returned (.tuple #[.agg #[.int .u32 xa, .int .u32 xt, .slice B m d], .int .u32 xi, .int .i64 xe]) ∧ Wts w' B m d xs ∧ Below W.heap.size W w') from fun B d W h => (refAdd11_any B n d ws wa to W h (by omega) hb).mono (fun e w' ⟨B, m, d, h1, h2, h3, _⟩ => ⟨B, m, d, by rw [hI] at h1; exact h1, by rw [hI] at h2; exact h2, h3⟩))
    have c3 := Lib.hid (show ∀ B d W, Wts W B n d ws → Calls Try.prog 11 #[.agg #[.int .u32 wa, .int .u32 to, .slice B n d], .int .u32 k, .int .i64 ta] W (fun e w' => ∃ B m d, e = .returned (.tuple #[.agg #[.int .u32 pa, .int .u32 pt, .slice B m d], .int .i64 pe]) ∧ Wts w' B m d ps ∧ Below W.heap.size W w') from fun B d W h => (ntPark_any B n d ws wa to W k ta h (by omega) hb k0 k1).mono (fun e w' ⟨B, m, d, h1, h2, h3, _⟩ => ⟨B, m, d, by rw [hP] at h1; exact h1, by rw [hP] at h2; exact h2, h3⟩))
    have c4 := Lib.hid (show ∀ B d W, Wts W B n d ws → Calls Try.prog 12 #[.agg #[.int .u32 wa, .int .u32 to, .slice B n d], .int .u32 k, .int .i64 ta] W (fun e w' => ∃ B m d, e = .returned (.tuple #[.agg #[.int .u32 pa, .int .u32 pt, .slice B m d], .int .i64 pe]) ∧ Wts w' B m d ps ∧ Below W.heap.size W w') from fun B d W h => (refPark11_any B n d ws wa to k ta W h (by omega) hb k0 k1).mono (fun e w' ⟨B, m, d, h1, h2, h3, _⟩ => ⟨B, m, d, by rw [hP] at h1; exact h1, by rw [hP] at h2; exact h2, h3⟩))
    have c5 := Lib.hid (show ∀ B d W, Wts W B n d ws → Calls Try.prog 14 #[.agg #[.int .u32 wa, .int .u32 to, .slice B n d]] W (YesN W yb) from fun B d W h => hyb ▸ ntRight_any B n d ws wa to W h (by omega) hb)
    have c6 := Lib.hid (show ∀ B d W, Wts W B n d ws → Calls Try.prog 15 #[.agg #[.int .u32 wa, .int .u32 to, .slice B n d]] W (YesN W yb) from fun B d W h => hyb ▸ refRight11_any B n d ws wa to W h (by omega) hb)
    have c7 := Lib.hid (show ∀ B d W, Wts W B n d ws → Calls Try.prog 16 #[.agg #[.int .u32 wa, .int .u32 to, .slice B n d], .int .u32 k] W (YesN W tb) from fun B d W h => htb ▸ ntTold_any B n d ws wa to W k h (by omega) hb k0 k1)
    have c8 := Lib.hid (show ∀ B d W, Wts W B n d ws → Calls Try.prog 17 #[.agg #[.int .u32 wa, .int .u32 to, .slice B n d], .int .u32 k] W (YesN W tb) from fun B d W h => htb ▸ refTold_any B n d ws wa to k W h (by omega) hb k0 k1)
    have c11 := Lib.hid (show ∀ B d W, Wts W B n d ws → Calls Try.prog 8 #[.agg #[.int .u32 wa, .int .u32 to, .slice B n d]] W (CopyPostN W n ws wa to) from fun B d W h => refCopy11_any B n d ws wa to W h (by omega))
    have c12 := Lib.hid (show ∀ (xs : List Wt) (a b : Int) (A B : Option Addr) (m d m2 d2 : Nat) W, xs.length ≤ 70 → Wts W A m d xs → Wts W B m2 d2 xs → Calls Try.prog 13 #[.agg #[.int .u32 a, .int .u32 b, .slice A m d], .agg #[.int .u32 a, .int .u32 b, .slice B m2 d2]] W (YesN W true) from fun xs a b A B m d m2 d2 W hl h1 h2 => refSame11_eq A m d xs a b B m2 d2 W h1 h2 (by have := Wts.len h1; omega))
    clear hI hP hyb htb hb k0 k1
    go_enter Try.func3, Try.ntmps3
    go_wp2_with fail
    refine (alive11 _).mono ?_
    rintro e w2 ⟨rfl, hb⟩
    replace Vt := Lib.hid (blk_below Vt.out hb (blk_lt Vt.out))
    replace RX := Lib.hid (Es.below RX.out hb)
    replace HB := Lib.hid (And.intro (HB.out.1.trans (hb.mono HB.out.2)) (Nat.le_trans HB.out.2 hb.size))
    clear hb
    have ct0 : w2.cell? ⟨w.heap.size, 0, none⟩ = some (.int .u32 wa) := (blk_cell Vt.out 0).trans rfl
    have ct1 : w2.cell? ⟨w.heap.size, 1, none⟩ = some (.int .u32 to) := (blk_cell Vt.out 1).trans rfl
    have ct2 : w2.cell? ⟨w.heap.size, 2, none⟩ = some (.slice A n c) := (blk_cell Vt.out 2).trans rfl
    go_wp2_with fail
    refine (c11.out _ _ _ RX.out).mono ?_
    rintro e w3 ⟨B1, d1, rfl, hown, hb⟩
    clear ct0 ct1 ct2
    replace Vt := Lib.hid (blk_below Vt.out hb (blk_lt Vt.out))
    replace RX := Lib.hid (Es.below RX.out hb)
    replace HB := Lib.hid (And.intro (HB.out.1.trans (hb.mono HB.out.2)) (Nat.le_trans HB.out.2 hb.size))
    clear hb
    have R1 := Lib.hid (wts_own hown)
    clear hown
    have ltt := blk_lt Vt.out
    have gq := HB.out.2
    obtain ⟨w4, hw4⟩ : ∃ W, (w3.alloc (.cells #[.int .u32 wa, .int .u32 to, .slice B1 n d1] 25)) = W := ⟨_, rfl⟩
    have hb : Below w3.heap.size w3 w4 := hw4 ▸ ((Below.refl _ _).alloc (Nat.le_refl _) _)
    have hv0 : w4.heap[w3.heap.size]? = some (.cells #[.int .u32 wa, .int .u32 to, .slice B1 n d1] 25) := by
      have h0 := heap_alloc_new w3 (.cells #[.int .u32 wa, .int .u32 to, .slice B1 n d1] 25)
      rw [show w3.heap.size = w3.heap.size by simp [Nat.add_assoc]] at h0
      rw [← hw4]
      exact h0
    replace Vt := Lib.hid (blk_below Vt.out hb (blk_lt Vt.out))
    replace RX := Lib.hid (Es.below RX.out hb)
    replace R1 := Lib.hid (Es.below R1.out hb)
    replace HB := Lib.hid (And.intro (HB.out.1.trans (hb.mono HB.out.2)) (Nat.le_trans HB.out.2 hb.size))
    have Vo := Lib.hid hv0
    have net_o := Nat.ne_of_lt ltt
    have geo := gq
    generalize hso : w3.heap.size = so at *
    clear hb gq hv0 ltt
    have co0 : w4.cell? ⟨so, 0, none⟩ = some (.int .u32 wa) := (blk_cell Vo.out 0).trans rfl
    have co1 : w4.cell? ⟨so, 1, none⟩ = some (.int .u32 to) := (blk_cell Vo.out 1).trans rfl
    have co2 : w4.cell? ⟨so, 2, none⟩ = some (.slice B1 n d1) := (blk_cell Vo.out 2).trans rfl
    go_wp2_with fail
    refine (c1.out _ _ _ R1.out).mono ?_
    rintro e w5 ⟨B2, m2, d2, rfl, hrs, hb⟩
    clear co0 co1 co2
    replace Vt := Lib.hid (blk_below Vt.out hb (blk_lt Vt.out))
    replace Vo := Lib.hid (blk_below Vo.out hb (blk_lt Vo.out))
    replace RX := Lib.hid (Es.below RX.out hb)
    replace R1 := Lib.hid (Es.below R1.out hb)
    replace HB := Lib.hid (And.intro (HB.out.1.trans (hb.mono HB.out.2)) (Nat.le_trans HB.out.2 hb.size))
    clear hb
    have R2 := Lib.hid hrs
    clear hrs
    have ltt := blk_lt Vt.out
    have lto := blk_lt Vo.out
    have gq := HB.out.2
    obtain ⟨w6, hw6⟩ : ∃ W, (w5.alloc (.cells #[.int .u32 xa, .int .u32 xt, .slice B2 m2 d2] 25)) = W := ⟨_, rfl⟩
    have hb : Below w5.heap.size w5 w6 := hw6 ▸ ((Below.refl _ _).alloc (Nat.le_refl _) _)
    have hv0 : w6.heap[w5.heap.size]? = some (.cells #[.int .u32 xa, .int .u32 xt, .slice B2 m2 d2] 25) := by
      have h0 := heap_alloc_new w5 (.cells #[.int .u32 xa, .int .u32 xt, .slice B2 m2 d2] 25)
      rw [show w5.heap.size = w5.heap.size by simp [Nat.add_assoc]] at h0
      rw [← hw6]
      exact h0
    replace Vt := Lib.hid (blk_below Vt.out hb (blk_lt Vt.out))
    replace Vo := Lib.hid (blk_below Vo.out hb (blk_lt Vo.out))
    replace RX := Lib.hid (Es.below RX.out hb)
    replace R1 := Lib.hid (Es.below R1.out hb)
    replace R2 := Lib.hid (Es.below R2.out hb)
    replace HB := Lib.hid (And.intro (HB.out.1.trans (hb.mono HB.out.2)) (Nat.le_trans HB.out.2 hb.size))
    have Vx := Lib.hid hv0
    have net_x := Nat.ne_of_lt ltt
    have neo_x := Nat.ne_of_lt lto
    have gex := gq
    generalize hsx : w5.heap.size = sx at *
    clear hb gq hv0 ltt lto
    have ct0 : w6.cell? ⟨w.heap.size, 0, none⟩ = some (.int .u32 wa) := (blk_cell Vt.out 0).trans rfl
    have ct1 : w6.cell? ⟨w.heap.size, 1, none⟩ = some (.int .u32 to) := (blk_cell Vt.out 1).trans rfl
    have ct2 : w6.cell? ⟨w.heap.size, 2, none⟩ = some (.slice A n c) := (blk_cell Vt.out 2).trans rfl
    go_wp2_with fail
    refine (c2.out _ _ _ RX.out).mono ?_
    rintro e w7 ⟨B3, m3, d3, rfl, hrs, hb⟩
    clear ct0 ct1 ct2
    replace Vt := Lib.hid (blk_below Vt.out hb (blk_lt Vt.out))
    replace Vo := Lib.hid (blk_below Vo.out hb (blk_lt Vo.out))
    replace Vx := Lib.hid (blk_below Vx.out hb (blk_lt Vx.out))
    replace RX := Lib.hid (Es.below RX.out hb)
    replace R1 := Lib.hid (Es.below R1.out hb)
    replace R2 := Lib.hid (Es.below R2.out hb)
    replace HB := Lib.hid (And.intro (HB.out.1.trans (hb.mono HB.out.2)) (Nat.le_trans HB.out.2 hb.size))
    clear hb
    have R3 := Lib.hid hrs
    clear hrs
    have ltt := blk_lt Vt.out
    have lto := blk_lt Vo.out
    have ltx := blk_lt Vx.out
    have gq := HB.out.2
    obtain ⟨w8, hw8⟩ : ∃ W, (w7.alloc (.cells #[.int .u32 xa, .int .u32 xt, .slice B3 m3 d3] 25)) = W := ⟨_, rfl⟩
    have hb : Below w7.heap.size w7 w8 := hw8 ▸ ((Below.refl _ _).alloc (Nat.le_refl _) _)
    have hv0 : w8.heap[w7.heap.size]? = some (.cells #[.int .u32 xa, .int .u32 xt, .slice B3 m3 d3] 25) := by
      have h0 := heap_alloc_new w7 (.cells #[.int .u32 xa, .int .u32 xt, .slice B3 m3 d3] 25)
      rw [show w7.heap.size = w7.heap.size by simp [Nat.add_assoc]] at h0
      rw [← hw8]
      exact h0
    replace Vt := Lib.hid (blk_below Vt.out hb (blk_lt Vt.out))
    replace Vo := Lib.hid (blk_below Vo.out hb (blk_lt Vo.out))
    replace Vx := Lib.hid (blk_below Vx.out hb (blk_lt Vx.out))
    replace RX := Lib.hid (Es.below RX.out hb)
    replace R1 := Lib.hid (Es.below R1.out hb)
    replace R2 := Lib.hid (Es.below R2.out hb)
    replace R3 := Lib.hid (Es.below R3.out hb)
    replace HB := Lib.hid (And.intro (HB.out.1.trans (hb.mono HB.out.2)) (Nat.le_trans HB.out.2 hb.size))
    have Vy := Lib.hid hv0
    have net_y := Nat.ne_of_lt ltt
    have neo_y := Nat.ne_of_lt lto
    have nex_y := Nat.ne_of_lt ltx
    have gey := gq
    generalize hsy : w7.heap.size = sy at *
    clear hb gq hv0 ltt lto ltx
    have co0 : w8.cell? ⟨so, 0, none⟩ = some (.int .u32 wa) := (blk_cell Vo.out 0).trans rfl
    have co1 : w8.cell? ⟨so, 1, none⟩ = some (.int .u32 to) := (blk_cell Vo.out 1).trans rfl
    have co2 : w8.cell? ⟨so, 2, none⟩ = some (.slice B1 n d1) := (blk_cell Vo.out 2).trans rfl
    go_wp2_with fail
    refine (c3.out _ _ _ R1.out).mono ?_
    rintro e w9 ⟨B4, m4, d4, rfl, hrs, hb⟩
    clear co0 co1 co2
    replace Vt := Lib.hid (blk_below Vt.out hb (blk_lt Vt.out))
    replace Vo := Lib.hid (blk_below Vo.out hb (blk_lt Vo.out))
    replace Vx := Lib.hid (blk_below Vx.out hb (blk_lt Vx.out))
    replace Vy := Lib.hid (blk_below Vy.out hb (blk_lt Vy.out))
    replace RX := Lib.hid (Es.below RX.out hb)
    replace R1 := Lib.hid (Es.below R1.out hb)
    replace R2 := Lib.hid (Es.below R2.out hb)
    replace R3 := Lib.hid (Es.below R3.out hb)
    replace HB := Lib.hid (And.intro (HB.out.1.trans (hb.mono HB.out.2)) (Nat.le_trans HB.out.2 hb.size))
    clear hb
    have R4 := Lib.hid hrs
    clear hrs
    have ltt := blk_lt Vt.out
    have lto := blk_lt Vo.out
    have ltx := blk_lt Vx.out
    have lty := blk_lt Vy.out
    have gq := HB.out.2
    obtain ⟨w10, hw10⟩ : ∃ W, (w9.alloc (.cells #[.int .u32 pa, .int .u32 pt, .slice B4 m4 d4] 25)) = W := ⟨_, rfl⟩
    have hb : Below w9.heap.size w9 w10 := hw10 ▸ ((Below.refl _ _).alloc (Nat.le_refl _) _)
    have hv0 : w10.heap[w9.heap.size]? = some (.cells #[.int .u32 pa, .int .u32 pt, .slice B4 m4 d4] 25) := by
      have h0 := heap_alloc_new w9 (.cells #[.int .u32 pa, .int .u32 pt, .slice B4 m4 d4] 25)
      rw [show w9.heap.size = w9.heap.size by simp [Nat.add_assoc]] at h0
      rw [← hw10]
      exact h0
    replace Vt := Lib.hid (blk_below Vt.out hb (blk_lt Vt.out))
    replace Vo := Lib.hid (blk_below Vo.out hb (blk_lt Vo.out))
    replace Vx := Lib.hid (blk_below Vx.out hb (blk_lt Vx.out))
    replace Vy := Lib.hid (blk_below Vy.out hb (blk_lt Vy.out))
    replace RX := Lib.hid (Es.below RX.out hb)
    replace R1 := Lib.hid (Es.below R1.out hb)
    replace R2 := Lib.hid (Es.below R2.out hb)
    replace R3 := Lib.hid (Es.below R3.out hb)
    replace R4 := Lib.hid (Es.below R4.out hb)
    replace HB := Lib.hid (And.intro (HB.out.1.trans (hb.mono HB.out.2)) (Nat.le_trans HB.out.2 hb.size))
    have Vu := Lib.hid hv0
    have net_u := Nat.ne_of_lt ltt
    have neo_u := Nat.ne_of_lt lto
    have nex_u := Nat.ne_of_lt ltx
    have ney_u := Nat.ne_of_lt lty
    have geu := gq
    generalize hsu : w9.heap.size = su at *
    clear hb gq hv0 ltt lto ltx lty
    have ct0 : w10.cell? ⟨w.heap.size, 0, none⟩ = some (.int .u32 wa) := (blk_cell Vt.out 0).trans rfl
    have ct1 : w10.cell? ⟨w.heap.size, 1, none⟩ = some (.int .u32 to) := (blk_cell Vt.out 1).trans rfl
    have ct2 : w10.cell? ⟨w.heap.size, 2, none⟩ = some (.slice A n c) := (blk_cell Vt.out 2).trans rfl
    go_wp2_with fail
    refine (c4.out _ _ _ RX.out).mono ?_
    rintro e w11 ⟨B5, m5, d5, rfl, hrs, hb⟩
    clear ct0 ct1 ct2
    replace Vt := Lib.hid (blk_below Vt.out hb (blk_lt Vt.out))
    replace Vo := Lib.hid (blk_below Vo.out hb (blk_lt Vo.out))
    replace Vx := Lib.hid (blk_below Vx.out hb (blk_lt Vx.out))
    replace Vy := Lib.hid (blk_below Vy.out hb (blk_lt Vy.out))
    replace Vu := Lib.hid (blk_below Vu.out hb (blk_lt Vu.out))
    replace RX := Lib.hid (Es.below RX.out hb)
    replace R1 := Lib.hid (Es.below R1.out hb)
    replace R2 := Lib.hid (Es.below R2.out hb)
    replace R3 := Lib.hid (Es.below R3.out hb)
    replace R4 := Lib.hid (Es.below R4.out hb)
    replace HB := Lib.hid (And.intro (HB.out.1.trans (hb.mono HB.out.2)) (Nat.le_trans HB.out.2 hb.size))
    clear hb
    have R5 := Lib.hid hrs
    clear hrs
    have ltt := blk_lt Vt.out
    have lto := blk_lt Vo.out
    have ltx := blk_lt Vx.out
    have lty := blk_lt Vy.out
    have ltu := blk_lt Vu.out
    have gq := HB.out.2
    obtain ⟨w12, hw12⟩ : ∃ W, (w11.alloc (.cells #[.int .u32 pa, .int .u32 pt, .slice B5 m5 d5] 25)) = W := ⟨_, rfl⟩
    have hb : Below w11.heap.size w11 w12 := hw12 ▸ ((Below.refl _ _).alloc (Nat.le_refl _) _)
    have hv0 : w12.heap[w11.heap.size]? = some (.cells #[.int .u32 pa, .int .u32 pt, .slice B5 m5 d5] 25) := by
      have h0 := heap_alloc_new w11 (.cells #[.int .u32 pa, .int .u32 pt, .slice B5 m5 d5] 25)
      rw [show w11.heap.size = w11.heap.size by simp [Nat.add_assoc]] at h0
      rw [← hw12]
      exact h0
    replace Vt := Lib.hid (blk_below Vt.out hb (blk_lt Vt.out))
    replace Vo := Lib.hid (blk_below Vo.out hb (blk_lt Vo.out))
    replace Vx := Lib.hid (blk_below Vx.out hb (blk_lt Vx.out))
    replace Vy := Lib.hid (blk_below Vy.out hb (blk_lt Vy.out))
    replace Vu := Lib.hid (blk_below Vu.out hb (blk_lt Vu.out))
    replace RX := Lib.hid (Es.below RX.out hb)
    replace R1 := Lib.hid (Es.below R1.out hb)
    replace R2 := Lib.hid (Es.below R2.out hb)
    replace R3 := Lib.hid (Es.below R3.out hb)
    replace R4 := Lib.hid (Es.below R4.out hb)
    replace R5 := Lib.hid (Es.below R5.out hb)
    replace HB := Lib.hid (And.intro (HB.out.1.trans (hb.mono HB.out.2)) (Nat.le_trans HB.out.2 hb.size))
    have Vv := Lib.hid hv0
    have net_v := Nat.ne_of_lt ltt
    have neo_v := Nat.ne_of_lt lto
    have nex_v := Nat.ne_of_lt ltx
    have ney_v := Nat.ne_of_lt lty
    have neu_v := Nat.ne_of_lt ltu
    have gev := gq
    generalize hsv : w11.heap.size = sv at *
    clear hb gq hv0 ltt lto ltx lty ltu
    go_wp2
    refine wp_region_noPanic ?_
    refine wp_region_held_drew (S := (fun wv => Below w12.heap.size w12 wv)) (by kernel_rfl) ((Below.refl w12.heap.size w12).drew) (fun hS => ?_)
    refine wpAnyH_take (i := 0) (oi := ⟨some 52, .load 25 (.tmp 8), 25, "law.go:38", #[], none⟩) (v := .agg (([.int .u32 xa, .int .u32 xt, .slice B2 m2 d2] : List Value)).toArray) rfl (by kernel_rfl) (by kernel_rfl) (by kernel_rfl) (fun _ _ _ h => h) (yieldsIf_load_mid (by rfl) _ _ (by rfl) (sx) (0) (by rfl) (([.int .u32 xa, .int .u32 xt, .slice B2 m2 d2] : List Value)) _ (fun wv hS => blk_rngl (blk_below Vx.out hS (blk_lt Vx.out))) Try.underlying25 (by rfl) (by kernel_rfl)) hS ?_
    try simp only [Act.put, List.setIfInBounds_toArray, List.set_cons_zero, List.set_cons_succ]
    refine wpAnyH_take (i := 1) (oi := ⟨some 53, .load 25 (.tmp 11), 25, "law.go:38", #[], none⟩) (v := .agg (([.int .u32 xa, .int .u32 xt, .slice B3 m3 d3] : List Value)).toArray) rfl (by kernel_rfl) (by kernel_rfl) (by kernel_rfl) (fun _ _ _ h => h) (yieldsIf_load_mid (by rfl) _ _ (by rfl) (sy) (0) (by rfl) (([.int .u32 xa, .int .u32 xt, .slice B3 m3 d3] : List Value)) _ (fun wv hS => blk_rngl (blk_below Vy.out hS (blk_lt Vy.out))) Try.underlying25 (by rfl) (by kernel_rfl)) hS ?_
    try simp only [Act.put, List.setIfInBounds_toArray, List.set_cons_zero, List.set_cons_succ]
    refine wpAnyH_ready (rs := [2]) (by kernel_rfl) (by simp) (AllReadyH.cons (o := ⟨some 54, .call { callee := .value (.func 13), args := #[.tmp 52, .tmp 53], argTypes := #[25, 25] }, 4, "law.go:38", #[⟨0, .data⟩, ⟨1, .data⟩], none⟩) rfl (fun K hK => ?_) AllReadyH.nil)
    go_simp
    refine (c12.out _ _ _ _ _ _ _ _ _ _ hil (Es.below R2.out hS) (Es.below R3.out hS)).mono ?_; rintro e u2 ⟨rfl, hb⟩
    replace hS := hS.trans (hb.mono hS.size)
    clear hb
    go_wp2_with fail
    refine Shut.out hK _ _ hS (fun _ => ?_)
    clear hK K
    try simp only [Act.put, List.setIfInBounds_toArray, List.set_cons_zero, List.set_cons_succ]
    refine wpAnyH_take (i := 3) (oi := ⟨some 55, .move (.tmp 54), 4, "law.go:38", #[⟨2, .data⟩, ⟨2, .chain⟩], none⟩) (v := ?_) rfl (by kernel_rfl) (by kernel_rfl) (by kernel_rfl) (fun _ _ _ h => h) (Or.inl ⟨by rfl, ?_⟩) hS ?_
    rotate_left
    · intro wv _; go_simp; try with_reducible rfl
    try simp only [Act.put, List.setIfInBounds_toArray, List.set_cons_zero, List.set_cons_succ]
    refine wpAnyH_take (i := 4) (oi := ⟨some 56, .move (.tmp 9), 22, "law.go:38", #[⟨3, .guard⟩], some (3, true)⟩) (v := ?_) rfl (by kernel_rfl) (by kernel_rfl) (by kernel_rfl) (fun _ _ _ h => h) (Or.inl ⟨by rfl, ?_⟩) hS ?_
    rotate_left
    · intro wv _; go_simp; try with_reducible rfl
    try simp only [Act.put, List.setIfInBounds_toArray, List.set_cons_zero, List.set_cons_succ]
    refine wpAnyH_take (i := 5) (oi := ⟨some 57, .move (.tmp 12), 22, "law.go:38", #[⟨3, .guard⟩], some (3, true)⟩) (v := ?_) rfl (by kernel_rfl) (by kernel_rfl) (by kernel_rfl) (fun _ _ _ h => h) (Or.inl ⟨by rfl, ?_⟩) hS ?_
    rotate_left
    · intro wv _; go_simp; try with_reducible rfl
    try simp only [Act.put, List.setIfInBounds_toArray, List.set_cons_zero, List.set_cons_succ]
    refine wpAnyH_take (i := 6) (oi := ⟨some 58, .binOp .eql 22 (.tmp 56) (.tmp 57) 22, 4, "law.go:38", #[⟨4, .data⟩, ⟨5, .data⟩, ⟨3, .guard⟩], some (3, true)⟩) (v := ?_) rfl (by kernel_rfl) (by kernel_rfl) (by kernel_rfl) (fun _ _ _ h => h) (Or.inl ⟨by rfl, ?_⟩) hS ?_
    rotate_left
    · intro wv _; go_simp; try with_reducible rfl
    try simp only [Act.put, List.setIfInBounds_toArray, List.set_cons_zero, List.set_cons_succ]
    refine wpAnyH_take (i := 7) (oi := ⟨some 59, .pick (.tmp 55) (.tmp 58) (.const (Value.bool false)), 4, "law.go:38", #[⟨3, .data⟩, ⟨6, .data⟩], none⟩) (v := ?_) rfl (by kernel_rfl) (by kernel_rfl) (by kernel_rfl) (fun _ _ _ h => h) (Or.inl ⟨by rfl, ?_⟩) hS ?_
    rotate_left
    · intro wv _; go_simp; try with_reducible rfl
    try simp only [Act.put, List.setIfInBounds_toArray, List.set_cons_zero, List.set_cons_succ]
    refine wpAnyH_take (i := 8) (oi := ⟨some 60, .move (.tmp 59), 4, "law.go:38", #[⟨7, .data⟩, ⟨3, .chain⟩], none⟩) (v := ?_) rfl (by kernel_rfl) (by kernel_rfl) (by kernel_rfl) (fun _ _ _ h => h) (Or.inl ⟨by rfl, ?_⟩) hS ?_
    rotate_left
    · intro wv _; go_simp; try with_reducible rfl
    try simp only [Act.put, List.setIfInBounds_toArray, List.set_cons_zero, List.set_cons_succ]
    refine wpAnyH_take (i := 9) (oi := ⟨some 61, .move (.tmp 10), 28, "law.go:38", #[⟨8, .guard⟩], some (8, true)⟩) (v := ?_) rfl (by kernel_rfl) (by kernel_rfl) (by kernel_rfl) (fun _ _ _ h => h) (Or.inl ⟨by rfl, ?_⟩) hS ?_
    rotate_left
    · intro wv _; go_simp; try with_reducible rfl
    try simp only [Act.put, List.setIfInBounds_toArray, List.set_cons_zero, List.set_cons_succ]
    refine wpAnyH_take (i := 10) (oi := ⟨some 62, .move (.tmp 13), 28, "law.go:38", #[⟨8, .guard⟩], some (8, true)⟩) (v := ?_) rfl (by kernel_rfl) (by kernel_rfl) (by kernel_rfl) (fun _ _ _ h => h) (Or.inl ⟨by rfl, ?_⟩) hS ?_
    rotate_left
    · intro wv _; go_simp; try with_reducible rfl
    try simp only [Act.put, List.setIfInBounds_toArray, List.set_cons_zero, List.set_cons_succ]
    refine wpAnyH_take (i := 11) (oi := ⟨some 63, .binOp .eql 28 (.tmp 61) (.tmp 62) 28, 4, "law.go:38", #[⟨9, .data⟩, ⟨10, .data⟩, ⟨8, .guard⟩], some (8, true)⟩) (v := ?_) rfl (by kernel_rfl) (by kernel_rfl) (by kernel_rfl) (fun _ _ _ h => h) (Or.inl ⟨by rfl, ?_⟩) hS ?_
    rotate_left
    · intro wv _; go_simp; try with_reducible rfl
    try simp only [Act.put, List.setIfInBounds_toArray, List.set_cons_zero, List.set_cons_succ]
    refine wpAnyH_take (i := 12) (oi := ⟨some 64, .pick (.tmp 60) (.tmp 63) (.const (Value.bool false)), 4, "law.go:38", #[⟨8, .data⟩, ⟨11, .data⟩], none⟩) (v := ?_) rfl (by kernel_rfl) (by kernel_rfl) (by kernel_rfl) (fun _ _ _ h => h) (Or.inl ⟨by rfl, ?_⟩) hS ?_
    rotate_left
    · intro wv _; go_simp; try with_reducible rfl
    try simp only [Act.put, List.setIfInBounds_toArray, List.set_cons_zero, List.set_cons_succ]
    refine wpAnyH_take (i := 13) (oi := ⟨some 65, .move (.tmp 64), 4, "law.go:38", #[⟨12, .data⟩, ⟨8, .chain⟩], none⟩) (v := ?_) rfl (by kernel_rfl) (by kernel_rfl) (by kernel_rfl) (fun _ _ _ h => h) (Or.inl ⟨by rfl, ?_⟩) hS ?_
    rotate_left
    · intro wv _; go_simp; try with_reducible rfl
    try simp only [Act.put, List.setIfInBounds_toArray, List.set_cons_zero, List.set_cons_succ]
    refine wpAnyH_take (i := 14) (oi := ⟨some 66, .load 25 (.tmp 14), 25, "law.go:38", #[⟨13, .guard⟩], some (13, true)⟩) (v := .agg (([.int .u32 pa, .int .u32 pt, .slice B4 m4 d4] : List Value)).toArray) rfl (by kernel_rfl) (by kernel_rfl) (by kernel_rfl) (fun _ _ _ h => h) (yieldsIf_load_mid (by rfl) _ _ (by rfl) (su) (0) (by rfl) (([.int .u32 pa, .int .u32 pt, .slice B4 m4 d4] : List Value)) _ (fun wv hS => blk_rngl (blk_below Vu.out hS (blk_lt Vu.out))) Try.underlying25 (by rfl) (by kernel_rfl)) hS ?_
    try simp only [Act.put, List.setIfInBounds_toArray, List.set_cons_zero, List.set_cons_succ]
    refine wpAnyH_take (i := 15) (oi := ⟨some 67, .load 25 (.tmp 16), 25, "law.go:38", #[⟨13, .guard⟩], some (13, true)⟩) (v := .agg (([.int .u32 pa, .int .u32 pt, .slice B5 m5 d5] : List Value)).toArray) rfl (by kernel_rfl) (by kernel_rfl) (by kernel_rfl) (fun _ _ _ h => h) (yieldsIf_load_mid (by rfl) _ _ (by rfl) (sv) (0) (by rfl) (([.int .u32 pa, .int .u32 pt, .slice B5 m5 d5] : List Value)) _ (fun wv hS => blk_rngl (blk_below Vv.out hS (blk_lt Vv.out))) Try.underlying25 (by rfl) (by kernel_rfl)) hS ?_
    try simp only [Act.put, List.setIfInBounds_toArray, List.set_cons_zero, List.set_cons_succ]
    refine wpAnyH_ready (rs := [16]) (by kernel_rfl) (by simp) (AllReadyH.cons (o := ⟨some 68, .call { callee := .value (.func 13), args := #[.tmp 66, .tmp 67], argTypes := #[25, 25] }, 4, "law.go:38", #[⟨14, .data⟩, ⟨15, .data⟩, ⟨13, .chain⟩, ⟨13, .guard⟩], some (13, true)⟩) rfl (fun K hK => ?_) AllReadyH.nil)
    go_simp
    refine (c12.out _ _ _ _ _ _ _ _ _ _ hpl (Es.below R4.out hS) (Es.below R5.out hS)).mono ?_; rintro e u16 ⟨rfl, hb⟩
    replace hS := hS.trans (hb.mono hS.size)
    clear hb
    go_wp2_with fail
    refine Shut.out hK _ _ hS (fun _ => ?_)
    clear hK K
    try simp only [Act.put, List.setIfInBounds_toArray, List.set_cons_zero, List.set_cons_succ]
    refine wpAnyH_take (i := 17) (oi := ⟨some 69, .pick (.tmp 65) (.tmp 68) (.const (Value.bool false)), 4, "law.go:38", #[⟨13, .data⟩, ⟨16, .data⟩], none⟩) (v := ?_) rfl (by kernel_rfl) (by kernel_rfl) (by kernel_rfl) (fun _ _ _ h => h) (Or.inl ⟨by rfl, ?_⟩) hS ?_
    rotate_left
    · intro wv _; go_simp; try with_reducible rfl
    try simp only [Act.put, List.setIfInBounds_toArray, List.set_cons_zero, List.set_cons_succ]
    refine wpAnyH_take (i := 18) (oi := ⟨some 70, .move (.tmp 69), 4, "law.go:38", #[⟨17, .data⟩, ⟨16, .chain⟩], none⟩) (v := ?_) rfl (by kernel_rfl) (by kernel_rfl) (by kernel_rfl) (fun _ _ _ h => h) (Or.inl ⟨by rfl, ?_⟩) hS ?_
    rotate_left
    · intro wv _; go_simp; try with_reducible rfl
    try simp only [Act.put, List.setIfInBounds_toArray, List.set_cons_zero, List.set_cons_succ]
    refine wpAnyH_take (i := 19) (oi := ⟨some 71, .move (.tmp 15), 28, "law.go:38", #[⟨18, .guard⟩], some (18, true)⟩) (v := ?_) rfl (by kernel_rfl) (by kernel_rfl) (by kernel_rfl) (fun _ _ _ h => h) (Or.inl ⟨by rfl, ?_⟩) hS ?_
    rotate_left
    · intro wv _; go_simp; try with_reducible rfl
    try simp only [Act.put, List.setIfInBounds_toArray, List.set_cons_zero, List.set_cons_succ]
    refine wpAnyH_take (i := 20) (oi := ⟨some 72, .move (.tmp 17), 28, "law.go:38", #[⟨18, .guard⟩], some (18, true)⟩) (v := ?_) rfl (by kernel_rfl) (by kernel_rfl) (by kernel_rfl) (fun _ _ _ h => h) (Or.inl ⟨by rfl, ?_⟩) hS ?_
    rotate_left
    · intro wv _; go_simp; try with_reducible rfl
    try simp only [Act.put, List.setIfInBounds_toArray, List.set_cons_zero, List.set_cons_succ]
    refine wpAnyH_take (i := 21) (oi := ⟨some 73, .binOp .eql 28 (.tmp 71) (.tmp 72) 28, 4, "law.go:38", #[⟨19, .data⟩, ⟨20, .data⟩, ⟨18, .guard⟩], some (18, true)⟩) (v := ?_) rfl (by kernel_rfl) (by kernel_rfl) (by kernel_rfl) (fun _ _ _ h => h) (Or.inl ⟨by rfl, ?_⟩) hS ?_
    rotate_left
    · intro wv _; go_simp; try with_reducible rfl
    try simp only [Act.put, List.setIfInBounds_toArray, List.set_cons_zero, List.set_cons_succ]
    refine wpAnyH_take (i := 22) (oi := ⟨some 74, .pick (.tmp 70) (.tmp 73) (.const (Value.bool false)), 4, "law.go:38", #[⟨18, .data⟩, ⟨21, .data⟩], none⟩) (v := ?_) rfl (by kernel_rfl) (by kernel_rfl) (by kernel_rfl) (fun _ _ _ h => h) (Or.inl ⟨by rfl, ?_⟩) hS ?_
    rotate_left
    · intro wv _; go_simp; try with_reducible rfl
    try simp only [Act.put, List.setIfInBounds_toArray, List.set_cons_zero, List.set_cons_succ]
    refine wpAnyH_take (i := 23) (oi := ⟨some 75, .move (.tmp 74), 4, "law.go:38", #[⟨22, .data⟩, ⟨18, .chain⟩], none⟩) (v := ?_) rfl (by kernel_rfl) (by kernel_rfl) (by kernel_rfl) (fun _ _ _ h => h) (Or.inl ⟨by rfl, ?_⟩) hS ?_
    rotate_left
    · intro wv _; go_simp; try with_reducible rfl
    try simp only [Act.put, List.setIfInBounds_toArray, List.set_cons_zero, List.set_cons_succ]
    refine wpAnyH_take (i := 24) (oi := ⟨some 76, .load 25 (.tmp 3), 25, "law.go:38", #[⟨23, .guard⟩], some (23, true)⟩) (v := .agg (([.int .u32 wa, .int .u32 to, .slice A n c] : List Value)).toArray) rfl (by kernel_rfl) (by kernel_rfl) (by kernel_rfl) (fun _ _ _ h => h) (yieldsIf_load_mid (by rfl) _ _ (by rfl) (w.heap.size) (0) (by rfl) (([.int .u32 wa, .int .u32 to, .slice A n c] : List Value)) _ (fun wv hS => blk_rngl (blk_below Vt.out hS (blk_lt Vt.out))) Try.underlying25 (by rfl) (by kernel_rfl)) hS ?_
    try simp only [Act.put, List.setIfInBounds_toArray, List.set_cons_zero, List.set_cons_succ]
    refine wpAnyH_take (i := 26) (oi := ⟨some 78, .load 25 (.tmp 3), 25, "law.go:38", #[⟨23, .guard⟩], some (23, true)⟩) (v := .agg (([.int .u32 wa, .int .u32 to, .slice A n c] : List Value)).toArray) rfl (by kernel_rfl) (by kernel_rfl) (by kernel_rfl) (fun _ _ _ h => h) (yieldsIf_load_mid (by rfl) _ _ (by rfl) (w.heap.size) (0) (by rfl) (([.int .u32 wa, .int .u32 to, .slice A n c] : List Value)) _ (fun wv hS => blk_rngl (blk_below Vt.out hS (blk_lt Vt.out))) Try.underlying25 (by rfl) (by kernel_rfl)) hS ?_
    try simp only [Act.put, List.setIfInBounds_toArray, List.set_cons_zero, List.set_cons_succ]
    refine wpAnyH_ready (rs := [25]) (by kernel_rfl) (by simp) (AllReadyH.cons (o := ⟨some 77, .call { callee := .value (.func 14), args := #[.tmp 76], argTypes := #[25] }, 4, "law.go:38", #[⟨24, .data⟩, ⟨23, .chain⟩, ⟨23, .guard⟩], some (23, true)⟩) rfl (fun K hK => ?_) AllReadyH.nil)
    go_simp
    refine (c5.out _ _ _ (Es.below RX.out hS)).mono ?_; rintro e u25 ⟨rfl, hb⟩
    replace hS := hS.trans (hb.mono hS.size)
    clear hb
    go_wp2_with fail
    refine Shut.out hK _ _ hS (fun _ => ?_)
    clear hK K
    try simp only [Act.put, List.setIfInBounds_toArray, List.set_cons_zero, List.set_cons_succ]
    refine wpAnyH_ready (rs := [27]) (by kernel_rfl) (by simp) (AllReadyH.cons (o := ⟨some 79, .call { callee := .value (.func 15), args := #[.tmp 78], argTypes := #[25] }, 4, "law.go:38", #[⟨26, .data⟩, ⟨25, .chain⟩, ⟨23, .guard⟩], some (23, true)⟩) rfl (fun K hK => ?_) AllReadyH.nil)
    go_simp
    refine (c6.out _ _ _ (Es.below RX.out hS)).mono ?_; rintro e u27 ⟨rfl, hb⟩
    replace hS := hS.trans (hb.mono hS.size)
    clear hb
    go_wp2_with fail
    refine Shut.out hK _ _ hS (fun _ => ?_)
    clear hK K
    try simp only [Act.put, List.setIfInBounds_toArray, List.set_cons_zero, List.set_cons_succ]
    refine wpAnyH_take (i := 28) (oi := ⟨some 80, .binOp .eql 4 (.tmp 77) (.tmp 79) 4, 4, "law.go:38", #[⟨25, .data⟩, ⟨27, .data⟩, ⟨23, .guard⟩], some (23, true)⟩) (v := ?_) rfl (by kernel_rfl) (by kernel_rfl) (by kernel_rfl) (fun _ _ _ h => h) (Or.inl ⟨by rfl, ?_⟩) hS ?_
    rotate_left
    · intro wv _; go_simp; try with_reducible rfl
    try simp only [Act.put, List.setIfInBounds_toArray, List.set_cons_zero, List.set_cons_succ]
    refine wpAnyH_take (i := 29) (oi := ⟨some 81, .pick (.tmp 75) (.tmp 80) (.const (Value.bool false)), 4, "law.go:38", #[⟨23, .data⟩, ⟨28, .data⟩], none⟩) (v := ?_) rfl (by kernel_rfl) (by kernel_rfl) (by kernel_rfl) (fun _ _ _ h => h) (Or.inl ⟨by rfl, ?_⟩) hS ?_
    rotate_left
    · intro wv _; go_simp; try with_reducible rfl
    try simp only [Act.put, List.setIfInBounds_toArray, List.set_cons_zero, List.set_cons_succ]
    refine wpAnyH_take (i := 30) (oi := ⟨some 82, .move (.tmp 81), 4, "law.go:38", #[⟨29, .data⟩, ⟨27, .chain⟩], none⟩) (v := ?_) rfl (by kernel_rfl) (by kernel_rfl) (by kernel_rfl) (fun _ _ _ h => h) (Or.inl ⟨by rfl, ?_⟩) hS ?_
    rotate_left
    · intro wv _; go_simp; try with_reducible rfl
    try simp only [Act.put, List.setIfInBounds_toArray, List.set_cons_zero, List.set_cons_succ]
    refine wpAnyH_take (i := 31) (oi := ⟨some 83, .load 25 (.tmp 3), 25, "law.go:38", #[⟨30, .guard⟩], some (30, true)⟩) (v := .agg (([.int .u32 wa, .int .u32 to, .slice A n c] : List Value)).toArray) rfl (by kernel_rfl) (by kernel_rfl) (by kernel_rfl) (fun _ _ _ h => h) (yieldsIf_load_mid (by rfl) _ _ (by rfl) (w.heap.size) (0) (by rfl) (([.int .u32 wa, .int .u32 to, .slice A n c] : List Value)) _ (fun wv hS => blk_rngl (blk_below Vt.out hS (blk_lt Vt.out))) Try.underlying25 (by rfl) (by kernel_rfl)) hS ?_
    try simp only [Act.put, List.setIfInBounds_toArray, List.set_cons_zero, List.set_cons_succ]
    refine wpAnyH_take (i := 32) (oi := ⟨some 84, .move (.tmp 1), 22, "law.go:38", #[⟨30, .guard⟩], some (30, true)⟩) (v := ?_) rfl (by kernel_rfl) (by kernel_rfl) (by kernel_rfl) (fun _ _ _ h => h) (Or.inl ⟨by rfl, ?_⟩) hS ?_
    rotate_left
    · intro wv _; go_simp; try with_reducible rfl
    try simp only [Act.put, List.setIfInBounds_toArray, List.set_cons_zero, List.set_cons_succ]
    refine wpAnyH_take (i := 34) (oi := ⟨some 86, .load 25 (.tmp 3), 25, "law.go:38", #[⟨30, .guard⟩], some (30, true)⟩) (v := .agg (([.int .u32 wa, .int .u32 to, .slice A n c] : List Value)).toArray) rfl (by kernel_rfl) (by kernel_rfl) (by kernel_rfl) (fun _ _ _ h => h) (yieldsIf_load_mid (by rfl) _ _ (by rfl) (w.heap.size) (0) (by rfl) (([.int .u32 wa, .int .u32 to, .slice A n c] : List Value)) _ (fun wv hS => blk_rngl (blk_below Vt.out hS (blk_lt Vt.out))) Try.underlying25 (by rfl) (by kernel_rfl)) hS ?_
    try simp only [Act.put, List.setIfInBounds_toArray, List.set_cons_zero, List.set_cons_succ]
    refine wpAnyH_take (i := 35) (oi := ⟨some 87, .move (.tmp 1), 22, "law.go:38", #[⟨30, .guard⟩], some (30, true)⟩) (v := ?_) rfl (by kernel_rfl) (by kernel_rfl) (by kernel_rfl) (fun _ _ _ h => h) (Or.inl ⟨by rfl, ?_⟩) hS ?_
    rotate_left
    · intro wv _; go_simp; try with_reducible rfl
    try simp only [Act.put, List.setIfInBounds_toArray, List.set_cons_zero, List.set_cons_succ]
    refine wpAnyH_ready (rs := [33]) (by kernel_rfl) (by simp) (AllReadyH.cons (o := ⟨some 85, .call { callee := .value (.func 16), args := #[.tmp 83, .tmp 84], argTypes := #[25, 22] }, 4, "law.go:38", #[⟨31, .data⟩, ⟨32, .data⟩, ⟨30, .chain⟩, ⟨30, .guard⟩], some (30, true)⟩) rfl (fun K hK => ?_) AllReadyH.nil)
    go_simp
    refine (c7.out _ _ _ (Es.below RX.out hS)).mono ?_; rintro e u33 ⟨rfl, hb⟩
    replace hS := hS.trans (hb.mono hS.size)
    clear hb
    go_wp2_with fail
    refine Shut.out hK _ _ hS (fun _ => ?_)
    clear hK K
    try simp only [Act.put, List.setIfInBounds_toArray, List.set_cons_zero, List.set_cons_succ]
    refine wpAnyH_ready (rs := [36]) (by kernel_rfl) (by simp) (AllReadyH.cons (o := ⟨some 88, .call { callee := .value (.func 17), args := #[.tmp 86, .tmp 87], argTypes := #[25, 22] }, 4, "law.go:38", #[⟨34, .data⟩, ⟨35, .data⟩, ⟨33, .chain⟩, ⟨30, .guard⟩], some (30, true)⟩) rfl (fun K hK => ?_) AllReadyH.nil)
    go_simp
    refine (c8.out _ _ _ (Es.below RX.out hS)).mono ?_; rintro e u36 ⟨rfl, hb⟩
    replace hS := hS.trans (hb.mono hS.size)
    clear hb
    go_wp2_with fail
    refine Shut.out hK _ _ hS (fun _ => ?_)
    clear hK K
    try simp only [Act.put, List.setIfInBounds_toArray, List.set_cons_zero, List.set_cons_succ]
    refine wpAnyH_take (i := 37) (oi := ⟨some 89, .binOp .eql 4 (.tmp 85) (.tmp 88) 4, 4, "law.go:38", #[⟨33, .data⟩, ⟨36, .data⟩, ⟨30, .guard⟩], some (30, true)⟩) (v := ?_) rfl (by kernel_rfl) (by kernel_rfl) (by kernel_rfl) (fun _ _ _ h => h) (Or.inl ⟨by rfl, ?_⟩) hS ?_
    rotate_left
    · intro wv _; go_simp; try with_reducible rfl
    try simp only [Act.put, List.setIfInBounds_toArray, List.set_cons_zero, List.set_cons_succ]
    refine wpAnyH_take (i := 38) (oi := ⟨some 90, .pick (.tmp 82) (.tmp 89) (.const (Value.bool false)), 4, "law.go:38", #[⟨30, .data⟩, ⟨37, .data⟩], none⟩) (v := ?_) rfl (by kernel_rfl) (by kernel_rfl) (by kernel_rfl) (fun _ _ _ h => h) (Or.inl ⟨by rfl, ?_⟩) hS ?_
    rotate_left
    · intro wv _; go_simp; try with_reducible rfl
    try simp only [Act.put, List.setIfInBounds_toArray, List.set_cons_zero, List.set_cons_succ]
    refine wpAnyH_take (i := 39) (oi := ⟨some 91, .move (.tmp 90), 4, "law.go:38", #[⟨38, .data⟩, ⟨36, .chain⟩], none⟩) (v := ?_) rfl (by kernel_rfl) (by kernel_rfl) (by kernel_rfl) (fun _ _ _ h => h) (Or.inl ⟨by rfl, ?_⟩) hS ?_
    rotate_left
    · intro wv _; go_simp; try with_reducible rfl
    try simp only [Act.put, List.setIfInBounds_toArray, List.set_cons_zero, List.set_cons_succ]
    refine wpAnyH_take (i := 40) (oi := ⟨some 92, .load 25 (.tmp 7), 25, "law.go:38", #[⟨39, .guard⟩], some (39, true)⟩) (v := .agg (([.int .u32 wa, .int .u32 to, .slice B1 n d1] : List Value)).toArray) rfl (by kernel_rfl) (by kernel_rfl) (by kernel_rfl) (fun _ _ _ h => h) (yieldsIf_load_mid (by rfl) _ _ (by rfl) (so) (0) (by rfl) (([.int .u32 wa, .int .u32 to, .slice B1 n d1] : List Value)) _ (fun wv hS => blk_rngl (blk_below Vo.out hS (blk_lt Vo.out))) Try.underlying25 (by rfl) (by kernel_rfl)) hS ?_
    try simp only [Act.put, List.setIfInBounds_toArray, List.set_cons_zero, List.set_cons_succ]
    refine wpAnyH_take (i := 41) (oi := ⟨some 93, .load 25 (.tmp 3), 25, "law.go:38", #[⟨39, .guard⟩], some (39, true)⟩) (v := .agg (([.int .u32 wa, .int .u32 to, .slice A n c] : List Value)).toArray) rfl (by kernel_rfl) (by kernel_rfl) (by kernel_rfl) (fun _ _ _ h => h) (yieldsIf_load_mid (by rfl) _ _ (by rfl) (w.heap.size) (0) (by rfl) (([.int .u32 wa, .int .u32 to, .slice A n c] : List Value)) _ (fun wv hS => blk_rngl (blk_below Vt.out hS (blk_lt Vt.out))) Try.underlying25 (by rfl) (by kernel_rfl)) hS ?_
    try simp only [Act.put, List.setIfInBounds_toArray, List.set_cons_zero, List.set_cons_succ]
    refine wpAnyH_ready (rs := [42]) (by kernel_rfl) (by simp) (AllReadyH.cons (o := ⟨some 94, .call { callee := .value (.func 13), args := #[.tmp 92, .tmp 93], argTypes := #[25, 25] }, 4, "law.go:38", #[⟨40, .data⟩, ⟨41, .data⟩, ⟨39, .chain⟩, ⟨39, .guard⟩], some (39, true)⟩) rfl (fun K hK => ?_) AllReadyH.nil)
    go_simp
    refine (c12.out _ _ _ _ _ _ _ _ _ _ hll (Es.below R1.out hS) (Es.below RX.out hS)).mono ?_; rintro e u42 ⟨rfl, hb⟩
    replace hS := hS.trans (hb.mono hS.size)
    clear hb
    go_wp2_with fail
    refine Shut.out hK _ _ hS (fun _ => ?_)
    clear hK K
    try simp only [Act.put, List.setIfInBounds_toArray, List.set_cons_zero, List.set_cons_succ]
    refine wpAnyH_take (i := 43) (oi := ⟨some 95, .pick (.tmp 91) (.tmp 94) (.const (Value.bool false)), 4, "law.go:38", #[⟨39, .data⟩, ⟨42, .data⟩], none⟩) (v := ?_) rfl (by kernel_rfl) (by kernel_rfl) (by kernel_rfl) (fun _ _ _ h => h) (Or.inl ⟨by rfl, ?_⟩) hS ?_
    rotate_left
    · intro wv _; go_simp; try with_reducible rfl
    try simp only [Act.put, List.setIfInBounds_toArray, List.set_cons_zero, List.set_cons_succ]
    refine wpAnyH_take (i := 44) (oi := ⟨some 6, .assign (.tmp 95), 4, "law.go:38", #[⟨43, .data⟩, ⟨42, .chain⟩, ⟨0, .phase⟩, ⟨1, .phase⟩, ⟨2, .phase⟩, ⟨3, .phase⟩, ⟨4, .phase⟩, ⟨5, .phase⟩, ⟨6, .phase⟩, ⟨7, .phase⟩, ⟨8, .phase⟩, ⟨9, .phase⟩, ⟨10, .phase⟩, ⟨11, .phase⟩, ⟨12, .phase⟩, ⟨13, .phase⟩, ⟨14, .phase⟩, ⟨15, .phase⟩, ⟨16, .phase⟩, ⟨17, .phase⟩, ⟨18, .phase⟩, ⟨19, .phase⟩, ⟨20, .phase⟩, ⟨21, .phase⟩, ⟨22, .phase⟩, ⟨23, .phase⟩, ⟨24, .phase⟩, ⟨25, .phase⟩, ⟨26, .phase⟩, ⟨27, .phase⟩, ⟨28, .phase⟩, ⟨29, .phase⟩, ⟨30, .phase⟩, ⟨31, .phase⟩, ⟨32, .phase⟩, ⟨33, .phase⟩, ⟨34, .phase⟩, ⟨35, .phase⟩, ⟨36, .phase⟩, ⟨37, .phase⟩, ⟨38, .phase⟩, ⟨39, .phase⟩, ⟨40, .phase⟩, ⟨41, .phase⟩, ⟨42, .phase⟩, ⟨43, .phase⟩], none⟩) (v := ?_) rfl (by kernel_rfl) (by kernel_rfl) (by kernel_rfl) (fun _ _ _ h => h) (Or.inl ⟨by rfl, ?_⟩) hS ?_
    rotate_left
    · intro wv _; go_simp; try with_reducible rfl
    try simp only [Act.put, List.setIfInBounds_toArray, List.set_cons_zero, List.set_cons_succ]
    refine wpAnyH_done (by kernel_rfl) ?_ _
    refine NoPanic.normal ?_
    go_wp2
    go_ret
    exact ⟨rfl, HB.out.1.trans (hS.mono HB.out.2)⟩
end Go.Proofs.Ytjpgmkbcjedhfaa
