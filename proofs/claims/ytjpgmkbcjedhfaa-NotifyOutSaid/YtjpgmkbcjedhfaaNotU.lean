/- The walk of NotifyTells: it answers true, over any world; no condition. -/
import Derived.Test.YtjpgmkbcjedhfaaNotS
namespace Go.Proofs.Ytjpgmkbcjedhfaa
set_option linter.unusedVariables false
set_option linter.unusedSimpArgs false
open Go.RowKit
set_option maxRecDepth 100000 in
set_option maxHeartbeats 8000000 in
theorem tells11_walk (A : Option Addr) (n c : Nat) (ws : List Wt) (wa to : Int) (w : World) (hx : Wts w A n c ws) (hb : NB (wa, to, ws)) :
    Calls Try.prog 4 #[.agg #[.int .u32 wa, .int .u32 to, .slice A n c]] w fun e w' => e = .returned (.bool true) ∧ Below w.heap.size w w' := by
  have hlen := hx.len
  have RX := Lib.hid hx
  clear hx
  have HB := Lib.hid (And.intro (Below.refl w.heap.size w) (Nat.le_refl w.heap.size))
  have gq := HB.out.2
  obtain ⟨w1, hw1⟩ : ∃ W, (w.alloc (.cells #[.int .u32 wa, .int .u32 to, .slice A n c] 25)) = W := ⟨_, rfl⟩
  have hb : Below w.heap.size w w1 := hw1 ▸ ((Below.refl _ _).alloc (Nat.le_refl _) _)
  have hv0 : w1.heap[w.heap.size]? = some (.cells #[.int .u32 wa, .int .u32 to, .slice A n c] 25) := by
    have h0 := heap_alloc_new w (.cells #[.int .u32 wa, .int .u32 to, .slice A n c] 25)
    rw [show w.heap.size = w.heap.size by simp [Nat.add_assoc]] at h0
    rw [← hw1]
    exact h0
  replace RX := Lib.hid (Es.below RX.out hb)
  replace HB := Lib.hid (And.intro (HB.out.1.trans (hb.mono HB.out.2)) (Nat.le_trans HB.out.2 hb.size))
  have Vt := Lib.hid hv0
  have get := gq
  generalize hst : w.heap.size = st at *
  clear hb gq hv0
  subst hst
  by_cases hn : (30 : Int) < (n : Int)
  · have b0 : decide ((30 : Int) < (n : Int)) = true := decide_eq_true hn
    have b0n : decide (30 < n) = true := by simp; omega
    clear hn
    go_enter Try.func4, Try.ntmps4
    go_wp2_with fail
    refine (alive11 _).mono ?_
    rintro e w2 ⟨rfl, hb⟩
    replace Vt := Lib.hid (blk_below Vt.out hb (blk_lt Vt.out))
    replace RX := Lib.hid (Es.below RX.out hb)
    replace HB := Lib.hid (And.intro (HB.out.1.trans (hb.mono HB.out.2)) (Nat.le_trans HB.out.2 hb.size))
    clear hb
    have ct0 : w2.cell? ⟨w.heap.size, 0, none⟩ = some (.int .u32 wa) := (blk_cell Vt.out 0).trans rfl
    have ct1 : w2.cell? ⟨w.heap.size, 1, none⟩ = some (.int .u32 to) := (blk_cell Vt.out 1).trans rfl
    have ct2 : w2.cell? ⟨w.heap.size, 2, none⟩ = some (.slice A n c) := (blk_cell Vt.out 2).trans rfl
    go_wp2
    go_ret
    exact ⟨rfl, HB.out.1⟩
  · have b0 : decide ((30 : Int) < (n : Int)) = false := decide_eq_false hn
    have b0n : decide (30 < n) = false := by simp; omega
    have hn1 : n ≤ 30 := by omega
    clear hn
    obtain ⟨⟨⟨xa, xt, xs⟩, xi, xe⟩, hI⟩ : ∃ P, oneN (wa, to, ws) = P := ⟨_, rfl⟩
    obtain ⟨⟨⟨pa, pt, ps⟩, pl, pe⟩, hP⟩ : ∃ P, allN (wa, to, ws) = P := ⟨_, rfl⟩
    have hil : xs.length ≤ 70 := by have := one_len (wa, to, ws); rw [hI] at this; simp only at this; omega
    have hpl : ps.length ≤ 70 := by have := all_len (wa, to, ws); rw [hP] at this; simp only at this; omega
    have hkl : pl.length ≤ 70 := by have := all_ints (wa, to, ws); rw [hP] at this; simp only at this; omega
    have hll : ws.length ≤ 70 := by omega
    have c1 := Lib.hid (show ∀ B d W, Wts W B n d ws → Calls Try.prog 18 #[.agg #[.int .u32 wa, .int .u32 to, .slice B n d]] W (fun e w' => ∃ B m d, e = .returned (.tuple #[.agg #[.int .u32 xa, .int .u32 xt, .slice B m d], .int .i64 xi, .int .i64 xe]) ∧ Wts w' B m d xs ∧ Below W.heap.size W w') from fun B d W h => (ntOne_any B n d ws wa to W h (by omega) hb).mono (fun e w' ⟨B, m, d, h1, h2, h3, _⟩ => ⟨B, m, d, by rw [hI] at h1; exact h1, by rw [hI] at h2; exact h2, h3⟩))
    have c2 := Lib.hid (show ∀ B d W, Wts W B n d ws → Calls Try.prog 19 #[.agg #[.int .u32 wa, .int .u32 to, .slice B n d]] W (fun e w' => ∃ B m d, e = .returned (.tuple #[.agg #[.int .u32 xa, .int .u32 xt, .slice B m d], .int .i64 xi, .int .i64 xe]) ∧ Wts w' B m d xs ∧ Below W.heap.size W w') from fun B d W h => (refOne11_any B n d ws wa to W h (by omega) hb).mono (fun e w' ⟨B, m, d, h1, h2, h3, _⟩ => ⟨B, m, d, by rw [hI] at h1; exact h1, by rw [hI] at h2; exact h2, h3⟩))
    have c3 := Lib.hid (show ∀ B d W, Wts W B n d ws → Calls Try.prog 20 #[.agg #[.int .u32 wa, .int .u32 to, .slice B n d]] W (fun e w' => ∃ B m d C k f, e = .returned (.tuple #[.agg #[.int .u32 pa, .int .u32 pt, .slice B m d], .slice C k f, .int .i64 pe]) ∧ Wts w' B m d ps ∧ Is w' C k f pl ∧ Below W.heap.size W w') from fun B d W h => (ntAll_any B n d ws wa to W h (by omega) hb).mono (fun e w' ⟨B, m, d, C, k, f, h1, h2, h5, h3, _⟩ => ⟨B, m, d, C, k, f, by rw [hP] at h1; exact h1, by rw [hP] at h2; exact h2, by rw [hP] at h5; exact is_own11 h5, h3⟩))
    have c4 := Lib.hid (show ∀ B d W, Wts W B n d ws → Calls Try.prog 21 #[.agg #[.int .u32 wa, .int .u32 to, .slice B n d]] W (fun e w' => ∃ B m d C k f, e = .returned (.tuple #[.agg #[.int .u32 pa, .int .u32 pt, .slice B m d], .slice C k f, .int .i64 pe]) ∧ Wts w' B m d ps ∧ Is w' C k f pl ∧ Below W.heap.size W w') from fun B d W h => (refAll11_any B n d ws wa to W h (by omega) hb).mono (fun e w' ⟨B, m, d, C, k, f, h1, h2, h5, h3, _⟩ => ⟨B, m, d, C, k, f, by rw [hP] at h1; exact h1, by rw [hP] at h2; exact h2, by rw [hP] at h5; exact is_own11 h5, h3⟩))
    have c11 := Lib.hid (show ∀ B d W, Wts W B n d ws → Calls Try.prog 8 #[.agg #[.int .u32 wa, .int .u32 to, .slice B n d]] W (CopyPostN W n ws wa to) from fun B d W h => refCopy11_any B n d ws wa to W h (by omega))
    have c12 := Lib.hid (show ∀ (xs : List Wt) (a b : Int) (A B : Option Addr) (m d m2 d2 : Nat) W, xs.length ≤ 70 → Wts W A m d xs → Wts W B m2 d2 xs → Calls Try.prog 13 #[.agg #[.int .u32 a, .int .u32 b, .slice A m d], .agg #[.int .u32 a, .int .u32 b, .slice B m2 d2]] W (YesN W true) from fun xs a b A B m d m2 d2 W hl h1 h2 => refSame11_eq A m d xs a b B m2 d2 W h1 h2 (by have := Wts.len h1; omega))
    have c13 := Lib.hid (show ∀ (xs : List Int) (A B : Option Addr) (n c m d : Nat) W, Is W A n c xs → Is W B m d xs → xs.length ≤ 70 → Calls Try.prog 22 #[.slice A n c, .slice B m d] W (YesN W true) from fun xs A B n c m d W h1 h2 h3 => by have h := refInts_any A n c xs B m d xs W h1 h2 (by have := Is.len h1; omega); rwa [decide_eq_true rfl] at h)
    clear hI hP hb
    go_enter Try.func4, Try.ntmps4
    go_wp2_with fail
    refine (alive11 _).mono ?_
    rintro e w2 ⟨rfl, hb⟩
    replace Vt := Lib.hid (blk_below Vt.out hb (blk_lt Vt.out))
    replace RX := Lib.hid (Es.below RX.out hb)
    replace HB := Lib.hid (And.intro (HB.out.1.trans (hb.mono HB.out.2)) (Nat.le_trans HB.out.2 hb.size))
    clear hb
    have ct0 : w2.cell? ⟨w.heap.size, 0, none⟩ = some (.int .u32 wa) := (blk_cell Vt.out 0).trans rfl
    have ct1 : w2.cell? ⟨w.heap.size, 1, none⟩ = some (.int .u32 to) := (blk_cell Vt.out 1).trans rfl
    have ct2 : w2.cell? ⟨w.heap.size, 2, none⟩ = some (.slice A n c) := (blk_cell Vt.out 2).trans rfl
    go_wp2_with fail
    refine (c11.out _ _ _ RX.out).mono ?_
    rintro e w3 ⟨B1, d1, rfl, hown, hb⟩
    clear ct0 ct1 ct2
    replace Vt := Lib.hid (blk_below Vt.out hb (blk_lt Vt.out))
    replace RX := Lib.hid (Es.below RX.out hb)
    replace HB := Lib.hid (And.intro (HB.out.1.trans (hb.mono HB.out.2)) (Nat.le_trans HB.out.2 hb.size))
    clear hb
    have R1 := Lib.hid (wts_own hown)
    clear hown
    have ltt := blk_lt Vt.out
    have gq := HB.out.2
    obtain ⟨w4, hw4⟩ : ∃ W, (w3.alloc (.cells #[.int .u32 wa, .int .u32 to, .slice B1 n d1] 25)) = W := ⟨_, rfl⟩
    have hb : Below w3.heap.size w3 w4 := hw4 ▸ ((Below.refl _ _).alloc (Nat.le_refl _) _)
    have hv0 : w4.heap[w3.heap.size]? = some (.cells #[.int .u32 wa, .int .u32 to, .slice B1 n d1] 25) := by
      have h0 := heap_alloc_new w3 (.cells #[.int .u32 wa, .int .u32 to, .slice B1 n d1] 25)
      rw [show w3.heap.size = w3.heap.size by simp [Nat.add_assoc]] at h0
      rw [← hw4]
      exact h0
    replace Vt := Lib.hid (blk_below Vt.out hb (blk_lt Vt.out))
    replace RX := Lib.hid (Es.below RX.out hb)
    replace R1 := Lib.hid (Es.below R1.out hb)
    replace HB := Lib.hid (And.intro (HB.out.1.trans (hb.mono HB.out.2)) (Nat.le_trans HB.out.2 hb.size))
    have Vo := Lib.hid hv0
    have net_o := Nat.ne_of_lt ltt
    have geo := gq
    generalize hso : w3.heap.size = so at *
    clear hb gq hv0 ltt
    have co0 : w4.cell? ⟨so, 0, none⟩ = some (.int .u32 wa) := (blk_cell Vo.out 0).trans rfl
    have co1 : w4.cell? ⟨so, 1, none⟩ = some (.int .u32 to) := (blk_cell Vo.out 1).trans rfl
    have co2 : w4.cell? ⟨so, 2, none⟩ = some (.slice B1 n d1) := (blk_cell Vo.out 2).trans rfl
    go_wp2_with fail
    refine (c1.out _ _ _ R1.out).mono ?_
    rintro e w5 ⟨B2, m2, d2, rfl, hrs, hb⟩
    clear co0 co1 co2
    replace Vt := Lib.hid (blk_below Vt.out hb (blk_lt Vt.out))
    replace Vo := Lib.hid (blk_below Vo.out hb (blk_lt Vo.out))
    replace RX := Lib.hid (Es.below RX.out hb)
    replace R1 := Lib.hid (Es.below R1.out hb)
    replace HB := Lib.hid (And.intro (HB.out.1.trans (hb.mono HB.out.2)) (Nat.le_trans HB.out.2 hb.size))
    clear hb
    have R2 := Lib.hid hrs
    clear hrs
    have ltt := blk_lt Vt.out
    have lto := blk_lt Vo.out
    have gq := HB.out.2
    obtain ⟨w6, hw6⟩ : ∃ W, (w5.alloc (.cells #[.int .u32 xa, .int .u32 xt, .slice B2 m2 d2] 25)) = W := ⟨_, rfl⟩
    have hb : Below w5.heap.size w5 w6 := hw6 ▸ ((Below.refl _ _).alloc (Nat.le_refl _) _)
    have hv0 : w6.heap[w5.heap.size]? = some (.cells #[.int .u32 xa, .int .u32 xt, .slice B2 m2 d2] 25) := by
      have h0 := heap_alloc_new w5 (.cells #[.int .u32 xa, .int .u32 xt, .slice B2 m2 d2] 25)
      rw [show w5.heap.size = w5.heap.size by simp [Nat.add_assoc]] at h0
      rw [← hw6]
      exact h0
    replace Vt := Lib.hid (blk_below Vt.out hb (blk_lt Vt.out))
    replace Vo := Lib.hid (blk_below Vo.out hb (blk_lt Vo.out))
    replace RX := Lib.hid (Es.below RX.out hb)
    replace R1 := Lib.hid (Es.below R1.out hb)
    replace R2 := Lib.hid (Es.below R2.out hb)
    replace HB := Lib.hid (And.intro (HB.out.1.trans (hb.mono HB.out.2)) (Nat.le_trans HB.out.2 hb.size))
    have Vx := Lib.hid hv0
    have net_x := Nat.ne_of_lt ltt
    have neo_x := Nat.ne_of_lt lto
    have gex := gq
    generalize hsx : w5.heap.size = sx at *
    clear hb gq hv0 ltt lto
    have ct0 : w6.cell? ⟨w.heap.size, 0, none⟩ = some (.int .u32 wa) := (blk_cell Vt.out 0).trans rfl
    have ct1 : w6.cell? ⟨w.heap.size, 1, none⟩ = some (.int .u32 to) := (blk_cell Vt.out 1).trans rfl
    have ct2 : w6.cell? ⟨w.heap.size, 2, none⟩ = some (.slice A n c) := (blk_cell Vt.out 2).trans rfl
    go_wp2_with fail
    refine (c2.out _ _ _ RX.out).mono ?_
    rintro e w7 ⟨B3, m3, d3, rfl, hrs, hb⟩
    clear ct0 ct1 ct2
    replace Vt := Lib.hid (blk_below Vt.out hb (blk_lt Vt.out))
    replace Vo := Lib.hid (blk_below Vo.out hb (blk_lt Vo.out))
    replace Vx := Lib.hid (blk_below Vx.out hb (blk_lt Vx.out))
    replace RX := Lib.hid (Es.below RX.out hb)
    replace R1 := Lib.hid (Es.below R1.out hb)
    replace R2 := Lib.hid (Es.below R2.out hb)
    replace HB := Lib.hid (And.intro (HB.out.1.trans (hb.mono HB.out.2)) (Nat.le_trans HB.out.2 hb.size))
    clear hb
    have R3 := Lib.hid hrs
    clear hrs
    have ltt := blk_lt Vt.out
    have lto := blk_lt Vo.out
    have ltx := blk_lt Vx.out
    have gq := HB.out.2
    obtain ⟨w8, hw8⟩ : ∃ W, (w7.alloc (.cells #[.int .u32 xa, .int .u32 xt, .slice B3 m3 d3] 25)) = W := ⟨_, rfl⟩
    have hb : Below w7.heap.size w7 w8 := hw8 ▸ ((Below.refl _ _).alloc (Nat.le_refl _) _)
    have hv0 : w8.heap[w7.heap.size]? = some (.cells #[.int .u32 xa, .int .u32 xt, .slice B3 m3 d3] 25) := by
      have h0 := heap_alloc_new w7 (.cells #[.int .u32 xa, .int .u32 xt, .slice B3 m3 d3] 25)
      rw [show w7.heap.size = w7.heap.size by simp [Nat.add_assoc]] at h0
      rw [← hw8]
      exact h0
    replace Vt := Lib.hid (blk_below Vt.out hb (blk_lt Vt.out))
    replace Vo := Lib.hid (blk_below Vo.out hb (blk_lt Vo.out))
    replace Vx := Lib.hid (blk_below Vx.out hb (blk_lt Vx.out))
    replace RX := Lib.hid (Es.below RX.out hb)
    replace R1 := Lib.hid (Es.below R1.out hb)
    replace R2 := Lib.hid (Es.below R2.out hb)
    replace R3 := Lib.hid (Es.below R3.out hb)
    replace HB := Lib.hid (And.intro (HB.out.1.trans (hb.mono HB.out.2)) (Nat.le_trans HB.out.2 hb.size))
    have Vy := Lib.hid hv0
    have net_y := Nat.ne_of_lt ltt
    have neo_y := Nat.ne_of_lt lto
    have nex_y := Nat.ne_of_lt ltx
    have gey := gq
    generalize hsy : w7.heap.size = sy at *
    clear hb gq hv0 ltt lto ltx
    have co0 : w8.cell? ⟨so, 0, none⟩ = some (.int .u32 wa) := (blk_cell Vo.out 0).trans rfl
    have co1 : w8.cell? ⟨so, 1, none⟩ = some (.int .u32 to) := (blk_cell Vo.out 1).trans rfl
    have co2 : w8.cell? ⟨so, 2, none⟩ = some (.slice B1 n d1) := (blk_cell Vo.out 2).trans rfl
    go_wp2_with fail
    refine (c3.out _ _ _ R1.out).mono ?_
    rintro e w9 ⟨B4, m4, d4, C4, k4, f4, rfl, hrs, his, hb⟩
    clear co0 co1 co2
    replace Vt := Lib.hid (blk_below Vt.out hb (blk_lt Vt.out))
    replace Vo := Lib.hid (blk_below Vo.out hb (blk_lt Vo.out))
    replace Vx := Lib.hid (blk_below Vx.out hb (blk_lt Vx.out))
    replace Vy := Lib.hid (blk_below Vy.out hb (blk_lt Vy.out))
    replace RX := Lib.hid (Es.below RX.out hb)
    replace R1 := Lib.hid (Es.below R1.out hb)
    replace R2 := Lib.hid (Es.below R2.out hb)
    replace R3 := Lib.hid (Es.below R3.out hb)
    replace HB := Lib.hid (And.intro (HB.out.1.trans (hb.mono HB.out.2)) (Nat.le_trans HB.out.2 hb.size))
    clear hb
    have R4 := Lib.hid hrs
    clear hrs
    have J4 := Lib.hid his
    clear his
    have ltt := blk_lt Vt.out
    have lto := blk_lt Vo.out
    have ltx := blk_lt Vx.out
    have lty := blk_lt Vy.out
    have gq := HB.out.2
    obtain ⟨w10, hw10⟩ : ∃ W, (w9.alloc (.cells #[.int .u32 pa, .int .u32 pt, .slice B4 m4 d4] 25)) = W := ⟨_, rfl⟩
    have hb : Below w9.heap.size w9 w10 := hw10 ▸ ((Below.refl _ _).alloc (Nat.le_refl _) _)
    have hv0 : w10.heap[w9.heap.size]? = some (.cells #[.int .u32 pa, .int .u32 pt, .slice B4 m4 d4] 25) := by
      have h0 := heap_alloc_new w9 (.cells #[.int .u32 pa, .int .u32 pt, .slice B4 m4 d4] 25)
      rw [show w9.heap.size = w9.heap.size by simp [Nat.add_assoc]] at h0
      rw [← hw10]
      exact h0
    replace Vt := Lib.hid (blk_below Vt.out hb (blk_lt Vt.out))
    replace Vo := Lib.hid (blk_below Vo.out hb (blk_lt Vo.out))
    replace Vx := Lib.hid (blk_below Vx.out hb (blk_lt Vx.out))
    replace Vy := Lib.hid (blk_below Vy.out hb (blk_lt Vy.out))
    replace RX := Lib.hid (Es.below RX.out hb)
    replace R1 := Lib.hid (Es.below R1.out hb)
    replace R2 := Lib.hid (Es.below R2.out hb)
    replace R3 := Lib.hid (Es.below R3.out hb)
    replace R4 := Lib.hid (Es.below R4.out hb)
    replace J4 := Lib.hid (Es.below J4.out hb)
    replace HB := Lib.hid (And.intro (HB.out.1.trans (hb.mono HB.out.2)) (Nat.le_trans HB.out.2 hb.size))
    have Vu := Lib.hid hv0
    have net_u := Nat.ne_of_lt ltt
    have neo_u := Nat.ne_of_lt lto
    have nex_u := Nat.ne_of_lt ltx
    have ney_u := Nat.ne_of_lt lty
    have geu := gq
    generalize hsu : w9.heap.size = su at *
    clear hb gq hv0 ltt lto ltx lty
    have ct0 : w10.cell? ⟨w.heap.size, 0, none⟩ = some (.int .u32 wa) := (blk_cell Vt.out 0).trans rfl
    have ct1 : w10.cell? ⟨w.heap.size, 1, none⟩ = some (.int .u32 to) := (blk_cell Vt.out 1).trans rfl
    have ct2 : w10.cell? ⟨w.heap.size, 2, none⟩ = some (.slice A n c) := (blk_cell Vt.out 2).trans rfl
    go_wp2_with fail
    refine (c4.out _ _ _ RX.out).mono ?_
    rintro e w11 ⟨B5, m5, d5, C5, k5, f5, rfl, hrs, his, hb⟩
    clear ct0 ct1 ct2
    replace Vt := Lib.hid (blk_below Vt.out hb (blk_lt Vt.out))
    replace Vo := Lib.hid (blk_below Vo.out hb (blk_lt Vo.out))
    replace Vx := Lib.hid (blk_below Vx.out hb (blk_lt Vx.out))
    replace Vy := Lib.hid (blk_below Vy.out hb (blk_lt Vy.out))
    replace Vu := Lib.hid (blk_below Vu.out hb (blk_lt Vu.out))
    replace RX := Lib.hid (Es.below RX.out hb)
    replace R1 := Lib.hid (Es.below R1.out hb)
    replace R2 := Lib.hid (Es.below R2.out hb)
    replace R3 := Lib.hid (Es.below R3.out hb)
    replace R4 := Lib.hid (Es.below R4.out hb)
    replace J4 := Lib.hid (Es.below J4.out hb)
    replace HB := Lib.hid (And.intro (HB.out.1.trans (hb.mono HB.out.2)) (Nat.le_trans HB.out.2 hb.size))
    clear hb
    have R5 := Lib.hid hrs
    clear hrs
    have J5 := Lib.hid his
    clear his
    have ltt := blk_lt Vt.out
    have lto := blk_lt Vo.out
    have ltx := blk_lt Vx.out
    have lty := blk_lt Vy.out
    have ltu := blk_lt Vu.out
    have gq := HB.out.2
    obtain ⟨w12, hw12⟩ : ∃ W, (w11.alloc (.cells #[.int .u32 pa, .int .u32 pt, .slice B5 m5 d5] 25)) = W := ⟨_, rfl⟩
    have hb : Below w11.heap.size w11 w12 := hw12 ▸ ((Below.refl _ _).alloc (Nat.le_refl _) _)
    have hv0 : w12.heap[w11.heap.size]? = some (.cells #[.int .u32 pa, .int .u32 pt, .slice B5 m5 d5] 25) := by
      have h0 := heap_alloc_new w11 (.cells #[.int .u32 pa, .int .u32 pt, .slice B5 m5 d5] 25)
      rw [show w11.heap.size = w11.heap.size by simp [Nat.add_assoc]] at h0
      rw [← hw12]
      exact h0
    replace Vt := Lib.hid (blk_below Vt.out hb (blk_lt Vt.out))
    replace Vo := Lib.hid (blk_below Vo.out hb (blk_lt Vo.out))
    replace Vx := Lib.hid (blk_below Vx.out hb (blk_lt Vx.out))
    replace Vy := Lib.hid (blk_below Vy.out hb (blk_lt Vy.out))
    replace Vu := Lib.hid (blk_below Vu.out hb (blk_lt Vu.out))
    replace RX := Lib.hid (Es.below RX.out hb)
    replace R1 := Lib.hid (Es.below R1.out hb)
    replace R2 := Lib.hid (Es.below R2.out hb)
    replace R3 := Lib.hid (Es.below R3.out hb)
    replace R4 := Lib.hid (Es.below R4.out hb)
    replace J4 := Lib.hid (Es.below J4.out hb)
    replace R5 := Lib.hid (Es.below R5.out hb)
    replace J5 := Lib.hid (Es.below J5.out hb)
    replace HB := Lib.hid (And.intro (HB.out.1.trans (hb.mono HB.out.2)) (Nat.le_trans HB.out.2 hb.size))
    have Vv := Lib.hid hv0
    have net_v := Nat.ne_of_lt ltt
    have neo_v := Nat.ne_of_lt lto
    have nex_v := Nat.ne_of_lt ltx
    have ney_v := Nat.ne_of_lt lty
    have neu_v := Nat.ne_of_lt ltu
    have gev := gq
    generalize hsv : w11.heap.size = sv at *
    clear hb gq hv0 ltt lto ltx lty ltu
    have cx0 : w12.cell? ⟨sx, 0, none⟩ = some (.int .u32 xa) := (blk_cell Vx.out 0).trans rfl
    have cx1 : w12.cell? ⟨sx, 1, none⟩ = some (.int .u32 xt) := (blk_cell Vx.out 1).trans rfl
    have cx2 : w12.cell? ⟨sx, 2, none⟩ = some (.slice B2 m2 d2) := (blk_cell Vx.out 2).trans rfl
    have cy0 : w12.cell? ⟨sy, 0, none⟩ = some (.int .u32 xa) := (blk_cell Vy.out 0).trans rfl
    have cy1 : w12.cell? ⟨sy, 1, none⟩ = some (.int .u32 xt) := (blk_cell Vy.out 1).trans rfl
    have cy2 : w12.cell? ⟨sy, 2, none⟩ = some (.slice B3 m3 d3) := (blk_cell Vy.out 2).trans rfl
    go_wp2_with fail
    refine (c12.out _ _ _ _ _ _ _ _ _ _ hil R2.out R3.out).mono ?_
    rintro e w13 ⟨rfl, hb⟩
    clear cx0 cx1 cx2 cy0 cy1 cy2
    replace Vt := Lib.hid (blk_below Vt.out hb (blk_lt Vt.out))
    replace Vo := Lib.hid (blk_below Vo.out hb (blk_lt Vo.out))
    replace Vx := Lib.hid (blk_below Vx.out hb (blk_lt Vx.out))
    replace Vy := Lib.hid (blk_below Vy.out hb (blk_lt Vy.out))
    replace Vu := Lib.hid (blk_below Vu.out hb (blk_lt Vu.out))
    replace Vv := Lib.hid (blk_below Vv.out hb (blk_lt Vv.out))
    replace RX := Lib.hid (Es.below RX.out hb)
    replace R1 := Lib.hid (Es.below R1.out hb)
    replace R2 := Lib.hid (Es.below R2.out hb)
    replace R3 := Lib.hid (Es.below R3.out hb)
    replace R4 := Lib.hid (Es.below R4.out hb)
    replace J4 := Lib.hid (Es.below J4.out hb)
    replace R5 := Lib.hid (Es.below R5.out hb)
    replace J5 := Lib.hid (Es.below J5.out hb)
    replace HB := Lib.hid (And.intro (HB.out.1.trans (hb.mono HB.out.2)) (Nat.le_trans HB.out.2 hb.size))
    clear hb
    have cu0 : w13.cell? ⟨su, 0, none⟩ = some (.int .u32 pa) := (blk_cell Vu.out 0).trans rfl
    have cu1 : w13.cell? ⟨su, 1, none⟩ = some (.int .u32 pt) := (blk_cell Vu.out 1).trans rfl
    have cu2 : w13.cell? ⟨su, 2, none⟩ = some (.slice B4 m4 d4) := (blk_cell Vu.out 2).trans rfl
    have cv0 : w13.cell? ⟨sv, 0, none⟩ = some (.int .u32 pa) := (blk_cell Vv.out 0).trans rfl
    have cv1 : w13.cell? ⟨sv, 1, none⟩ = some (.int .u32 pt) := (blk_cell Vv.out 1).trans rfl
    have cv2 : w13.cell? ⟨sv, 2, none⟩ = some (.slice B5 m5 d5) := (blk_cell Vv.out 2).trans rfl
    go_wp2_with fail
    refine (c12.out _ _ _ _ _ _ _ _ _ _ hpl R4.out R5.out).mono ?_
    rintro e w14 ⟨rfl, hb⟩
    clear cu0 cu1 cu2 cv0 cv1 cv2
    replace Vt := Lib.hid (blk_below Vt.out hb (blk_lt Vt.out))
    replace Vo := Lib.hid (blk_below Vo.out hb (blk_lt Vo.out))
    replace Vx := Lib.hid (blk_below Vx.out hb (blk_lt Vx.out))
    replace Vy := Lib.hid (blk_below Vy.out hb (blk_lt Vy.out))
    replace Vu := Lib.hid (blk_below Vu.out hb (blk_lt Vu.out))
    replace Vv := Lib.hid (blk_below Vv.out hb (blk_lt Vv.out))
    replace RX := Lib.hid (Es.below RX.out hb)
    replace R1 := Lib.hid (Es.below R1.out hb)
    replace R2 := Lib.hid (Es.below R2.out hb)
    replace R3 := Lib.hid (Es.below R3.out hb)
    replace R4 := Lib.hid (Es.below R4.out hb)
    replace J4 := Lib.hid (Es.below J4.out hb)
    replace R5 := Lib.hid (Es.below R5.out hb)
    replace J5 := Lib.hid (Es.below J5.out hb)
    replace HB := Lib.hid (And.intro (HB.out.1.trans (hb.mono HB.out.2)) (Nat.le_trans HB.out.2 hb.size))
    clear hb
    go_wp2_with fail
    refine (c13.out _ _ _ _ _ _ _ _ J4.out J5.out hkl).mono ?_
    rintro e w15 ⟨rfl, hb⟩
    replace Vt := Lib.hid (blk_below Vt.out hb (blk_lt Vt.out))
    replace Vo := Lib.hid (blk_below Vo.out hb (blk_lt Vo.out))
    replace Vx := Lib.hid (blk_below Vx.out hb (blk_lt Vx.out))
    replace Vy := Lib.hid (blk_below Vy.out hb (blk_lt Vy.out))
    replace Vu := Lib.hid (blk_below Vu.out hb (blk_lt Vu.out))
    replace Vv := Lib.hid (blk_below Vv.out hb (blk_lt Vv.out))
    replace RX := Lib.hid (Es.below RX.out hb)
    replace R1 := Lib.hid (Es.below R1.out hb)
    replace R2 := Lib.hid (Es.below R2.out hb)
    replace R3 := Lib.hid (Es.below R3.out hb)
    replace R4 := Lib.hid (Es.below R4.out hb)
    replace J4 := Lib.hid (Es.below J4.out hb)
    replace R5 := Lib.hid (Es.below R5.out hb)
    replace J5 := Lib.hid (Es.below J5.out hb)
    replace HB := Lib.hid (And.intro (HB.out.1.trans (hb.mono HB.out.2)) (Nat.le_trans HB.out.2 hb.size))
    clear hb
    have co0 : w15.cell? ⟨so, 0, none⟩ = some (.int .u32 wa) := (blk_cell Vo.out 0).trans rfl
    have co1 : w15.cell? ⟨so, 1, none⟩ = some (.int .u32 to) := (blk_cell Vo.out 1).trans rfl
    have co2 : w15.cell? ⟨so, 2, none⟩ = some (.slice B1 n d1) := (blk_cell Vo.out 2).trans rfl
    have ct0 : w15.cell? ⟨w.heap.size, 0, none⟩ = some (.int .u32 wa) := (blk_cell Vt.out 0).trans rfl
    have ct1 : w15.cell? ⟨w.heap.size, 1, none⟩ = some (.int .u32 to) := (blk_cell Vt.out 1).trans rfl
    have ct2 : w15.cell? ⟨w.heap.size, 2, none⟩ = some (.slice A n c) := (blk_cell Vt.out 2).trans rfl
    go_wp2_with fail
    refine (c12.out _ _ _ _ _ _ _ _ _ _ hll R1.out RX.out).mono ?_
    rintro e w16 ⟨rfl, hb⟩
    clear co0 co1 co2 ct0 ct1 ct2
    replace Vt := Lib.hid (blk_below Vt.out hb (blk_lt Vt.out))
    replace Vo := Lib.hid (blk_below Vo.out hb (blk_lt Vo.out))
    replace Vx := Lib.hid (blk_below Vx.out hb (blk_lt Vx.out))
    replace Vy := Lib.hid (blk_below Vy.out hb (blk_lt Vy.out))
    replace Vu := Lib.hid (blk_below Vu.out hb (blk_lt Vu.out))
    replace Vv := Lib.hid (blk_below Vv.out hb (blk_lt Vv.out))
    replace RX := Lib.hid (Es.below RX.out hb)
    replace R1 := Lib.hid (Es.below R1.out hb)
    replace R2 := Lib.hid (Es.below R2.out hb)
    replace R3 := Lib.hid (Es.below R3.out hb)
    replace R4 := Lib.hid (Es.below R4.out hb)
    replace J4 := Lib.hid (Es.below J4.out hb)
    replace R5 := Lib.hid (Es.below R5.out hb)
    replace J5 := Lib.hid (Es.below J5.out hb)
    replace HB := Lib.hid (And.intro (HB.out.1.trans (hb.mono HB.out.2)) (Nat.le_trans HB.out.2 hb.size))
    clear hb
    go_wp2
    go_ret
    exact ⟨rfl, HB.out.1⟩
end Go.Proofs.Ytjpgmkbcjedhfaa
