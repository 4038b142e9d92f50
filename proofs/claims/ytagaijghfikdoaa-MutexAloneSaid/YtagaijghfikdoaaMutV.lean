/- The walk of MutexAlone: it answers true, over any world; no condition. -/
import Derived.Test.YtagaijghfikdoaaMutS
import Derived.Test.YtagaijghfikdoaaInv
namespace Go.Proofs.Ytagaijghfikdoaa
set_option linter.unusedVariables false
set_option linter.unusedSimpArgs false
open Go.RowKit
set_option maxRecDepth 100000 in
set_option maxHeartbeats 16000000 in
theorem alone15_walk (kd o0 o1 o2 o3 o4 o5 wa to : Int) (A : Option Addr) (n c : Nat) (B : Option Addr) (m d : Nat) (nl : List Wt) (ll : List Cl) (x0 x1 : Int) (w : World) (hx : Wts w A n c nl) (hy : Cls w B m d ll) :
    Calls Try.prog 6 #[obV kd o0 o1 o2 o3 o4 o5 wa to A n c B m d, .agg #[.int .i64 x0, .int .i64 x1]] w fun e w' => e = .returned (.bool true) ∧ Below w.heap.size w w' := by
  have RX := Lib.hid hx; have RY := Lib.hid hy
  clear hx hy
  unfold obV
  have HB := Lib.hid (And.intro (Below.refl w.heap.size w) (Nat.le_refl w.heap.size))
  have gq := HB.out.2
  obtain ⟨w1, hw1⟩ : ∃ W, ((w.alloc (.cells #[.int .i64 kd, .int .i64 o0, .int .i64 o1, .int .i64 o2, .int .i64 o3, .int .i64 o4, .int .i64 o5, .int .u32 wa, .int .u32 to, .slice A n c, .slice B m d] 29)).alloc (.cells #[.int .i64 x0, .int .i64 x1] 32)) = W := ⟨_, rfl⟩
  have hb : Below w.heap.size w w1 := hw1 ▸ (((Below.refl _ _).alloc (Nat.le_refl _) _).alloc (by first | (simp; done) | (simp; omega)) _)
  have hv0 : w1.heap[w.heap.size]? = some (.cells #[.int .i64 kd, .int .i64 o0, .int .i64 o1, .int .i64 o2, .int .i64 o3, .int .i64 o4, .int .i64 o5, .int .u32 wa, .int .u32 to, .slice A n c, .slice B m d] 29) := by
    have h0 := heap_alloc_new w (.cells #[.int .i64 kd, .int .i64 o0, .int .i64 o1, .int .i64 o2, .int .i64 o3, .int .i64 o4, .int .i64 o5, .int .u32 wa, .int .u32 to, .slice A n c, .slice B m d] 29)
    rw [show w.heap.size = w.heap.size by simp [Nat.add_assoc]] at h0
    rw [← hw1]
    rw [heap_alloc_old _ _ (by simp <;> omega)]; exact h0
  have hv1 : w1.heap[w.heap.size + 1]? = some (.cells #[.int .i64 x0, .int .i64 x1] 32) := by
    have h0 := heap_alloc_new (w.alloc (.cells #[.int .i64 kd, .int .i64 o0, .int .i64 o1, .int .i64 o2, .int .i64 o3, .int .i64 o4, .int .i64 o5, .int .u32 wa, .int .u32 to, .slice A n c, .slice B m d] 29)) (.cells #[.int .i64 x0, .int .i64 x1] 32)
    rw [show (w.alloc (.cells #[.int .i64 kd, .int .i64 o0, .int .i64 o1, .int .i64 o2, .int .i64 o3, .int .i64 o4, .int .i64 o5, .int .u32 wa, .int .u32 to, .slice A n c, .slice B m d] 29)).heap.size = w.heap.size + 1 by simp [Nat.add_assoc]] at h0
    rw [← hw1]
    exact h0
  replace HB := Lib.hid (And.intro (HB.out.1.trans (hb.mono HB.out.2)) (Nat.le_trans HB.out.2 hb.size))
  have Vo := Lib.hid hv0
  have geo := gq
  have Vt := Lib.hid hv1
  have neo_t : w.heap.size ≠ w.heap.size + 1 := by omega
  have get : _ ≤ w.heap.size + 1 := Nat.le_trans gq (Nat.le_add_right _ 1)
  generalize hso : w.heap.size = so at *
  clear hb gq hv0 hv1
  subst hso
  have AL := Lib.hid alive15
  by_cases h0 : 20 < n ∨ 20 < m
  · have g2 := Lib.hid (fun (W : World) => great15_yes kd o0 o1 o2 o3 o4 o5 wa to A n c B m d W h0)
    clear h0
    go_enter Try.func6, Try.ntmps6
    go_wp2_with fail
    refine (AL.out _).mono ?_
    rintro e w2 ⟨rfl, hb⟩
    replace Vo := Lib.hid (blk_below Vo.out hb (blk_lt Vo.out))
    replace Vt := Lib.hid (blk_below Vt.out hb (blk_lt Vt.out))
    replace HB := Lib.hid (And.intro (HB.out.1.trans (hb.mono HB.out.2)) (Nat.le_trans HB.out.2 hb.size))
    clear hb
    obtain ⟨co0, co1, co2, co3, co4, co5, co6, co7, co8, co9, co10⟩ := row11 Vo.out
    go_wp2_with fail
    refine (g2.out _).mono ?_
    rintro e w3 ⟨rfl, hb⟩
    clear co0 co1 co2 co3 co4 co5 co6 co7 co8 co9 co10
    replace Vo := Lib.hid (blk_below Vo.out hb (blk_lt Vo.out))
    replace Vt := Lib.hid (blk_below Vt.out hb (blk_lt Vt.out))
    replace HB := Lib.hid (And.intro (HB.out.1.trans (hb.mono HB.out.2)) (Nat.le_trans HB.out.2 hb.size))
    clear hb
    go_wp2
    go_ret
    exact ⟨rfl, HB.out.1⟩
  · have hn : n ≤ 16384 := by omega
    have hm : m ≤ 16384 := by omega
    have g2 := Lib.hid (fun (W : World) => great15_no kd o0 o1 o2 o3 o4 o5 wa to A n c B m d W h0)
    clear h0
    obtain ⟨WA, wn, wc, hwk⟩ : ∃ (X : Option Addr) (i j : Nat), (Value.slice X i j) = .slice none 0 0 := ⟨_, _, _, rfl⟩
    have N1 := Lib.hid (show ∀ W : World, Calls Try.prog 18 #[.int .i64 26] W (fun e w' => e = .returned (.agg #[.int .i64 26, .int .i64 0, .int .i64 0, .int .i64 0, .int .i64 (-1), .int .i64 0, .bool false, .bool false, .int .i64 0, .bool false]) ∧ Below W.heap.size W w') from fun W => muBegin_any 26 W)
    have N2 := Lib.hid (show ∀ W : World, Calls Try.prog 18 #[.int .i64 27] W (fun e w' => e = .returned (.agg #[.int .i64 27, .int .i64 0, .int .i64 0, .int .i64 0, .int .i64 (-1), .int .i64 0, .bool false, .bool false, .int .i64 0, .bool false]) ∧ Below W.heap.size W w') from fun W => muBegin_any 27 W)
    have K1 := Lib.hid (show ∀ (W : World), Wts W A n c nl → Cls W B m d ll → Calls Try.prog 10 #[.agg #[.int .i64 kd, .int .i64 0, .int .i64 o1, .int .i64 o2, .int .i64 o3, .int .i64 o4, .int .i64 o5, .int .u32 wa, .int .u32 to, .slice A n c, .slice B m d], .agg #[.int .i64 26, .int .i64 0, .int .i64 0, .int .i64 0, .int .i64 (-1), .int .i64 0, .bool false, .bool false, .int .i64 0, .bool false], .int .i64 x0, .int .i64 x1] W (fun e w' => ∃ A2 c2 B2 d2, e = .returned (.tuple #[.agg #[.int .i64 kd, .int .i64 1, .int .i64 o1, .int .i64 o2, .int .i64 o3, .int .i64 o4, .int .i64 o5, .int .u32 wa, .int .u32 to, .slice A2 n c2, .slice B2 m d2], .agg #[.int .i64 0, .int .i64 0, .int .i64 0, .int .i64 0, .int .i64 0, .int .i64 0, .bool false, .bool false, .int .i64 0, .bool false], .agg #[.bool true, .bool false, .bool false, .int .i64 0, .int .i64 0, .int .u64 0, .slice WA wn wc]]) ∧ w'.ownsRow W.heap.size 69 2 (.slice A2 n c2) n (wtC nl) ∧ w'.ownsRow W.heap.size 64 2 (.slice B2 m d2) m (clC ll) ∧ Below W.heap.size W w') from fun W h1 h2 => by
      have h := muLock_any kd 0 o1 o2 o3 o4 o5 wa to A n c B m d nl ll (beginF 26) x0 x1 W h1 h2 hn hm
      rw [show lockM 0 (beginF 26) x0 x1 = (1, noF, doneA) from by first | rfl | decide] at h
      rw [hwk]
      refine h.mono ?_
      rintro e w' ⟨A2, c2, B2, d2, he, k1, k2, hb, _, _⟩
      exact ⟨A2, c2, B2, d2, he, k1, k2, hb⟩)
    have K2 := Lib.hid (show ∀ (A1 : Option Addr) (c1 : Nat) (B1 : Option Addr) (d1 : Nat) (W : World), Wts W A1 n c1 nl → Cls W B1 m d1 ll → Calls Try.prog 16 #[.agg #[.int .i64 kd, .int .i64 1, .int .i64 o1, .int .i64 o2, .int .i64 o3, .int .i64 o4, .int .i64 o5, .int .u32 wa, .int .u32 to, .slice A1 n c1, .slice B1 m d1], .agg #[.int .i64 27, .int .i64 0, .int .i64 0, .int .i64 0, .int .i64 (-1), .int .i64 0, .bool false, .bool false, .int .i64 0, .bool false]] W (fun e w' => ∃ A2 c2 B2 d2, e = .returned (.tuple #[.agg #[.int .i64 kd, .int .i64 0, .int .i64 o1, .int .i64 o2, .int .i64 o3, .int .i64 o4, .int .i64 o5, .int .u32 wa, .int .u32 to, .slice A2 n c2, .slice B2 m d2], .agg #[.int .i64 0, .int .i64 0, .int .i64 0, .int .i64 0, .int .i64 0, .int .i64 0, .bool false, .bool false, .int .i64 0, .bool false], .agg #[.bool true, .bool false, .bool false, .int .i64 0, .int .i64 0, .int .u64 0, .slice WA wn wc]]) ∧ w'.ownsRow W.heap.size 69 2 (.slice A2 n c2) n (wtC nl) ∧ w'.ownsRow W.heap.size 64 2 (.slice B2 m d2) m (clC ll) ∧ Below W.heap.size W w') from fun A1 c1 B1 d1 W h1 h2 => by
      have h := muUnlock_any kd 1 o1 o2 o3 o4 o5 wa to A1 n c1 B1 m d1 nl ll (beginF 27) W h1 h2 hn hm (by kernel_rfl)
      rw [show unlockM 1 (beginF 27) = (0, noF, doneA) from by first | rfl | decide] at h
      rw [hwk]
      refine h.mono ?_
      rintro e w' ⟨A2, c2, B2, d2, he, k1, k2, hb, _, _⟩
      exact ⟨A2, c2, B2, d2, he, k1, k2, hb⟩)
    have K3 := Lib.hid (show ∀ (A1 : Option Addr) (c1 : Nat) (B1 : Option Addr) (d1 : Nat) (W : World), Wts W A1 n c1 nl → Cls W B1 m d1 ll → Calls Try.prog 16 #[.agg #[.int .i64 kd, .int .i64 0, .int .i64 o1, .int .i64 o2, .int .i64 o3, .int .i64 o4, .int .i64 o5, .int .u32 wa, .int .u32 to, .slice A1 n c1, .slice B1 m d1], .agg #[.int .i64 27, .int .i64 0, .int .i64 0, .int .i64 0, .int .i64 (-1), .int .i64 0, .bool false, .bool false, .int .i64 0, .bool false]] W (fun e w' => ∃ A2 c2 B2 d2, e = .returned (.tuple #[.agg #[.int .i64 kd, .int .i64 0, .int .i64 o1, .int .i64 o2, .int .i64 o3, .int .i64 o4, .int .i64 o5, .int .u32 wa, .int .u32 to, .slice A2 n c2, .slice B2 m d2], .agg #[.int .i64 0, .int .i64 0, .int .i64 0, .int .i64 0, .int .i64 0, .int .i64 0, .bool false, .bool false, .int .i64 0, .bool false], .agg #[.bool false, .bool false, .bool false, .int .i64 0, .int .i64 1, .int .u64 0, .slice WA wn wc]]) ∧ w'.ownsRow W.heap.size 69 2 (.slice A2 n c2) n (wtC nl) ∧ w'.ownsRow W.heap.size 64 2 (.slice B2 m d2) m (clC ll) ∧ Below W.heap.size W w') from fun A1 c1 B1 d1 W h1 h2 => by
      have h := muUnlock_any kd 0 o1 o2 o3 o4 o5 wa to A1 n c1 B1 m d1 nl ll (beginF 27) W h1 h2 hn hm (by kernel_rfl)
      rw [show unlockM 0 (beginF 27) = (0, noF, ⟨false, 0, false, 1⟩) from by first | rfl | decide] at h
      rw [hwk]
      refine h.mono ?_
      rintro e w' ⟨A2, c2, B2, d2, he, k1, k2, hb, _, _⟩
      exact ⟨A2, c2, B2, d2, he, k1, k2, hb⟩)
    have OE := Lib.hid (fun (A2 : Option Addr) (c2 : Nat) (B2 : Option Addr) (d2 : Nat) (W : World) (h1 : Wts W A2 n c2 nl) (h2 : Cls W B2 m d2 ll) (h3 : Wts W A n c nl) (h4 : Cls W B m d ll) => obj15_eq2 kd 0 o1 o2 o3 o4 o5 wa to A2 n c2 B2 m d2 A c B d nl ll W h1 h2 h3 h4 hn hm)
    clear hn hm hwk
    go_enter Try.func6, Try.ntmps6
    go_wp2_with fail
    refine (AL.out _).mono ?_
    rintro e w2 ⟨rfl, hb⟩
    replace Vo := Lib.hid (blk_below Vo.out hb (blk_lt Vo.out))
    replace Vt := Lib.hid (blk_below Vt.out hb (blk_lt Vt.out))
    replace HB := Lib.hid (And.intro (HB.out.1.trans (hb.mono HB.out.2)) (Nat.le_trans HB.out.2 hb.size))
    clear hb
    obtain ⟨co0, co1, co2, co3, co4, co5, co6, co7, co8, co9, co10⟩ := row11 Vo.out
    go_wp2_with fail
    refine (g2.out _).mono ?_
    rintro e w3 ⟨rfl, hb⟩
    clear co0 co1 co2 co3 co4 co5 co6 co7 co8 co9 co10
    replace Vo := Lib.hid (blk_below Vo.out hb (blk_lt Vo.out))
    replace Vt := Lib.hid (blk_below Vt.out hb (blk_lt Vt.out))
    replace HB := Lib.hid (And.intro (HB.out.1.trans (hb.mono HB.out.2)) (Nat.le_trans HB.out.2 hb.size))
    clear hb
    have ko : w3.cell? ⟨w.heap.size, 1, none⟩ = some (.int .i64 o0) := (blk_cell Vo.out 1).trans rfl
    have zo : w3.frozen? ⟨w.heap.size, 1, none⟩ = false := blk_frozen Vo.out 1
    obtain ⟨w4, hw4⟩ : ∃ W, w3.setCell ⟨w.heap.size, 1, none⟩ (.int .i64 0) = W := ⟨_, rfl⟩
    have Vt2 : w4.heap[w.heap.size + 1]? = some (.cells #[.int .i64 x0, .int .i64 x1] 32) := hw4 ▸ (Below.heap_setCell _ ⟨w.heap.size, 1, none⟩ (.int .i64 0) (w.heap.size + 1) neo_t.symm).trans Vt.out
    have Vo2 : w4.heap[w.heap.size]? = some (.cells #[.int .i64 kd, .int .i64 0, .int .i64 o1, .int .i64 o2, .int .i64 o3, .int .i64 o4, .int .i64 o5, .int .u32 wa, .int .u32 to, .slice A n c, .slice B m d] 29) := hw4 ▸ blk_set (j := 1) Vo.out (.int .i64 0)
    have hbb : Below _ _ w4 := hw4 ▸ HB.out.1.setCell (p := ⟨w.heap.size, 1, none⟩) geo _
    have hbs : w4.heap.size = w3.heap.size := by rw [← hw4]; simp [World.setCell]
    replace Vo := Lib.hid Vo2
    clear Vo2
    replace Vt := Lib.hid Vt2
    clear Vt2
    replace HB := Lib.hid (And.intro hbb (show _ ≤ w4.heap.size by rw [hbs]; exact HB.out.2))
    clear hbb hbs
    go_wp2
    clear ko zo hw4
    refine wp_region_noPanic ?_
    refine wp_region_held_drew (S := (fun wv => Below w4.heap.size w4 wv)) (by kernel_rfl) ((Below.refl w4.heap.size w4).drew) (fun hS => ?_)
    refine wpAnyH_take (i := 0) (oi := ⟨some 21, .load 29 (.tmp 2), 29, "law.go:100", #[], none⟩) (v := .agg (([.int .i64 kd, .int .i64 0, .int .i64 o1, .int .i64 o2, .int .i64 o3, .int .i64 o4, .int .i64 o5, .int .u32 wa, .int .u32 to, .slice A n c, .slice B m d] : List Value)).toArray) rfl (by kernel_rfl) (by kernel_rfl) (by kernel_rfl) (fun _ _ _ h => h) (yieldsIf_load_mid (by rfl) _ _ (by rfl) (w.heap.size) (0) (by rfl) (([.int .i64 kd, .int .i64 0, .int .i64 o1, .int .i64 o2, .int .i64 o3, .int .i64 o4, .int .i64 o5, .int .u32 wa, .int .u32 to, .slice A n c, .slice B m d] : List Value)) _ (fun wv hS => blk_rngl (blk_below Vo.out hS (blk_lt Vo.out))) Try.underlying29 (by rfl) (by kernel_rfl)) hS ?_
    try simp only [Act.put, List.setIfInBounds_toArray, List.set_cons_zero, List.set_cons_succ]
    refine wpAnyH_take (i := 2) (oi := ⟨some 23, .indexAddr 32 (.tmp 3) (.const (Value.int IntKind.i64 0)), 0, "law.go:100", #[], none⟩) (v := ?_) rfl (by kernel_rfl) (by kernel_rfl) (by kernel_rfl) (fun _ _ _ h => h) (Or.inl ⟨by rfl, ?_⟩) hS ?_
    rotate_left
    · intro wv _; go_simp; try with_reducible rfl
    try simp only [Act.put, List.setIfInBounds_toArray, List.set_cons_zero, List.set_cons_succ]
    refine wpAnyH_take (i := 3) (oi := ⟨some 24, .load 2 (.tmp 23), 2, "law.go:100", #[⟨2, .data⟩], none⟩) (v := ?_) rfl (by kernel_rfl) (by kernel_rfl) (by kernel_rfl) (fun _ _ _ h => h) (Or.inl ⟨by rfl, ?_⟩) hS ?_
    rotate_left
    · intro wv hS; have hrun := (show wv.cell? ⟨w.heap.size + 1, 0, none⟩ = some (.int .i64 x0) from (blk_cell (blk_below Vt.out hS (blk_lt Vt.out)) 0).trans rfl); go_simp; try with_reducible rfl
    try simp only [Act.put, List.setIfInBounds_toArray, List.set_cons_zero, List.set_cons_succ]
    refine wpAnyH_take (i := 4) (oi := ⟨some 25, .indexAddr 32 (.tmp 3) (.const (Value.int IntKind.i64 1)), 0, "law.go:100", #[], none⟩) (v := ?_) rfl (by kernel_rfl) (by kernel_rfl) (by kernel_rfl) (fun _ _ _ h => h) (Or.inl ⟨by rfl, ?_⟩) hS ?_
    rotate_left
    · intro wv _; go_simp; try with_reducible rfl
    try simp only [Act.put, List.setIfInBounds_toArray, List.set_cons_zero, List.set_cons_succ]
    refine wpAnyH_take (i := 5) (oi := ⟨some 26, .load 2 (.tmp 25), 2, "law.go:100", #[⟨4, .data⟩], none⟩) (v := ?_) rfl (by kernel_rfl) (by kernel_rfl) (by kernel_rfl) (fun _ _ _ h => h) (Or.inl ⟨by rfl, ?_⟩) hS ?_
    rotate_left
    · intro wv hS; have hrun := (show wv.cell? ⟨w.heap.size + 1, 1, none⟩ = some (.int .i64 x1) from (blk_cell (blk_below Vt.out hS (blk_lt Vt.out)) 1).trans rfl); go_simp; try with_reducible rfl
    try simp only [Act.put, List.setIfInBounds_toArray, List.set_cons_zero, List.set_cons_succ]
    refine inv_region (fun a0 fu listed a u => ∃ (cq0 cq1 xq0 xq1 xq2 : Bool) (v22 v27 v20 v28 v29 v30 p5 p6 p7 : Value) (sx sf sa : Nat) (A1 : Option Addr) (c1 : Nat) (B1 : Option Addr) (d1 : Nat), listed = #[true, cq0, true, true, true, true, cq1, cq1, cq1, cq1, cq1, xq0, xq1, xq2, false, false, false] ∧ a = ⟨(((((((((a0.tmps.setIfInBounds 22 v22).setIfInBounds 27 v27).setIfInBounds 20 v20).setIfInBounds 28 v28).setIfInBounds 29 v29).setIfInBounds 30 v30).setIfInBounds 5 p5).setIfInBounds 6 p6).setIfInBounds 7 p7), a0.defers⟩ ∧ (bif cq0 then 0 else 1) + (bif cq1 then 0 else 5) + (bif xq0 then 0 else 1) + (bif xq1 then 0 else 1) + (bif xq2 then 0 else 1) + 3 ≤ fu ∧ (cq1 = true → cq0 = true) ∧ Below w4.heap.size w4 u ∧ (cq0 = true → v22 = .agg #[.int .i64 26, .int .i64 0, .int .i64 0, .int .i64 0, .int .i64 (-1), .int .i64 0, .bool false, .bool false, .int .i64 0, .bool false]) ∧ (cq1 = true → v28 = .agg #[.int .i64 kd, .int .i64 1, .int .i64 o1, .int .i64 o2, .int .i64 o3, .int .i64 o4, .int .i64 o5, .int .u32 wa, .int .u32 to, .slice A1 n c1, .slice B1 m d1]) ∧ (cq1 = true → v29 = .agg #[.int .i64 0, .int .i64 0, .int .i64 0, .int .i64 0, .int .i64 0, .int .i64 0, .bool false, .bool false, .int .i64 0, .bool false]) ∧ (cq1 = true → v30 = .agg #[.bool true, .bool false, .bool false, .int .i64 0, .int .i64 0, .int .u64 0, .slice WA wn wc]) ∧ (xq0 = true → p5 = .pointer (some ⟨sx, 0, none⟩) ∧ w4.heap.size ≤ sx ∧ u.heap[sx]? = some (.cells #[.int .i64 0, .int .i64 0, .int .i64 0, .int .i64 0, .int .i64 0, .int .i64 0, .int .i64 0, .int .u32 0, .int .u32 0, .slice none 0 0, .slice none 0 0] 29)) ∧ (xq1 = true → p6 = .pointer (some ⟨sf, 0, none⟩) ∧ w4.heap.size ≤ sf ∧ u.heap[sf]? = some (.cells #[.int .i64 0, .int .i64 0, .int .i64 0, .int .i64 0, .int .i64 0, .int .i64 0, .bool false, .bool false, .int .i64 0, .bool false] 31)) ∧ (xq2 = true → p7 = .pointer (some ⟨sa, 0, none⟩) ∧ w4.heap.size ≤ sa ∧ u.heap[sa]? = some (.cells #[.bool false, .bool false, .bool false, .int .i64 0, .int .i64 0, .int .u64 0, .slice none 0 0] 39)) ∧ (cq1 = true → (u.ownsRow w4.heap.size 69 2 (.slice A1 n c1) n (wtC nl) ∧ u.ownsRow w4.heap.size 64 2 (.slice B1 m d1) m (clC ll)))) ⟨false, false, false, false, false, undef, undef, undef, undef, undef, undef, undef, undef, undef, 0, 0, 0, none, 0, none, 0, rfl, (by first | (simp only [List.setIfInBounds_toArray, List.set_cons_zero, List.set_cons_succ]; done) | rfl), (by show _ + _ ≤ _; decide), (fun h => nomatch h), hS, (fun h => nomatch h), (fun h => nomatch h), (fun h => nomatch h), (fun h => nomatch h), (fun h => nomatch h), (fun h => nomatch h), (fun h => nomatch h), (fun h => nomatch h)⟩ ?_
    clear hS; rintro fu listed a u ⟨cq0, cq1, xq0, xq1, xq2, v22, v27, v20, v28, v29, v30, p5, p6, p7, sx, sf, sa, A1, c1, B1, d1, rfl, rfl, hn, hc0, hS, h22, h28, h29, h30, ksx, ksf, ksa, gf6⟩ IH
    try simp only [List.setIfInBounds_toArray, List.set_cons_zero, List.set_cons_succ]
    by_cases hall : (cq0 && (cq1 && (xq0 && (xq1 && (xq2))))) = true
    rotate_left
    · have hbad : ((cq1 && !cq0) || ((cq0 && (cq1 && (xq0 && (xq1 && (xq2))))))) = false := inv_or (inv_imp hc0) (inv_not hall)
      obtain ⟨fu, rfl⟩ : ∃ m, fu = m + 1 := ⟨fu - 1, by omega⟩
      refine inv_step (bad := ((cq1 && !cq0) || ((cq0 && (cq1 && (xq0 && (xq1 && (xq2)))))))) (fun i => ((i == 1 && !cq0) || ((i == 6 && (cq0 && !cq1)) || ((i == 11 && !xq0) || ((i == 12 && !xq1) || ((i == 13 && !xq2))))))) ((show ∀ cq0 cq1 xq0 xq1 xq2 : Bool, (((cq1 && !cq0) || ((cq0 && (cq1 && (xq0 && (xq1 && (xq2))))))) || (!(Region.ready _ _ #[true, cq0, true, true, true, true, cq1, cq1, cq1, cq1, cq1, xq0, xq1, xq2, false, false, false]).isEmpty && (Region.ready _ _ #[true, cq0, true, true, true, true, cq1, cq1, cq1, cq1, cq1, xq0, xq1, xq2, false, false, false]).all (fun i => ((i == 1 && !cq0) || ((i == 6 && (cq0 && !cq1)) || ((i == 11 && !xq0) || ((i == 12 && !xq1) || ((i == 13 && !xq2))))))))) = true from by intro cq0 cq1 xq0 xq1 xq2; cases cq0 <;> cases cq1 <;> cases xq0 <;> cases xq1 <;> cases xq2 <;> kernel_rfl) cq0 cq1 xq0 xq1 xq2) hbad (fun i hi => ?_)
      simp only [Bool.or_eq_true, Bool.and_eq_true, beq_iff_eq, Bool.not_eq_true'] at hi
      clear hall hbad
      rcases hi with ⟨rfl, rfl⟩ | ⟨rfl, rfl, rfl⟩ | ⟨rfl, rfl⟩ | ⟨rfl, rfl⟩ | ⟨rfl, rfl⟩
      · skip
        refine inv_arm (o := ⟨some 22, .call { callee := .value (.func 18), args := #[.const (Value.int IntKind.i64 26)], argTypes := #[3] }, 31, "law.go:100", #[], none⟩) rfl (fun K hK => ?_)
        go_simp
        go_wp2_with fail
        refine (N1.out _).mono ?_; rintro e u1 ⟨rfl, hb⟩
        replace hS := hS.trans (hb.mono hS.size)
        refine Shut.out hK _ _ hS (fun _ => ?_)
        clear hK K
        try simp only [Act.put, List.setIfInBounds_toArray, List.set_cons_zero, List.set_cons_succ]
        exact IH _ _ _ _ (by omega) ⟨true, cq1, xq0, xq1, xq2, _, v27, v20, v28, v29, v30, p5, p6, p7, sx, sf, sa, A1, c1, B1, d1, rfl, (by (try simp only [List.setIfInBounds_toArray, List.set_cons_zero, List.set_cons_succ]); try rfl), (by simp only [cond_true, cond_false] at hn ⊢; omega), (fun _ => rfl), hS, (fun _ => rfl), h28, h29, h30, (fun h => ⟨(ksx h).1, (ksx h).2.1, blk_below (ksx h).2.2 hb (blk_lt (ksx h).2.2)⟩), (fun h => ⟨(ksf h).1, (ksf h).2.1, blk_below (ksf h).2.2 hb (blk_lt (ksf h).2.2)⟩), (fun h => ⟨(ksa h).1, (ksa h).2.1, blk_below (ksa h).2.2 hb (blk_lt (ksa h).2.2)⟩), (fun h => ⟨own_below (gf6 h).1 hb, own_below (gf6 h).2 hb⟩)⟩
      · skip
        obtain rfl := h22 rfl
        refine inv_arm (o := ⟨some 27, .call { callee := .value (.func 10), args := #[.tmp 21, .tmp 22, .tmp 24, .tmp 26], argTypes := #[29, 31, 2, 2] }, 40, "law.go:100", #[⟨0, .data⟩, ⟨1, .data⟩, ⟨3, .data⟩, ⟨5, .data⟩, ⟨1, .chain⟩], none⟩) rfl (fun K hK => ?_)
        go_simp
        go_wp2_with fail
        have zs := hS.size
        refine (K1.out _ (Es.below (Es.below RX.out HB.out.1) hS) (Es.below (Es.below RY.out HB.out.1) hS)).mono ?_
        rintro e u6 ⟨A1, c1, B1, d1, rfl, hon, hol, hb⟩
        replace hon := own_base hon zs
        replace hol := own_base hol zs
        replace hS := hS.trans (hb.mono hS.size)
        obtain ⟨fu, rfl⟩ : ∃ m, fu = m + 4 := ⟨fu - 4, by simp only [cond_true, cond_false] at hn; omega⟩
        refine Shut.out hK _ _ hS (fun _ => ?_)
        clear hK K
        try simp only [Act.put, List.setIfInBounds_toArray, List.set_cons_zero, List.set_cons_succ]
        refine wpAnyH_take (i := 7) (oi := ⟨some 20, .move (.tmp 27), 40, "law.go:100", #[⟨6, .data⟩], none⟩) (v := ?_) rfl (by kernel_rfl) ((show ∀ xq0 xq1 xq2 : Bool, Region.free _ _ #[true, true, true, true, true, true, true, false, false, false, false, xq0, xq1, xq2, false, false, false] 7 = true from by intro xq0 xq1 xq2; cases xq0 <;> cases xq1 <;> cases xq2 <;> kernel_rfl) xq0 xq1 xq2) ((show ∀ xq0 xq1 xq2 : Bool, (Region.ready _ _ #[true, true, true, true, true, true, true, false, false, false, false, xq0, xq1, xq2, false, false, false]).contains 7 = true from by intro xq0 xq1 xq2; cases xq0 <;> cases xq1 <;> cases xq2 <;> kernel_rfl) xq0 xq1 xq2) (fun _ _ _ h => h) (Or.inl ⟨by rfl, ?_⟩) hS ?_
        rotate_left
        · intro wv _; go_simp; try with_reducible rfl
        try simp only [Act.put, List.setIfInBounds_toArray, List.set_cons_zero, List.set_cons_succ]
        refine wpAnyH_take (i := 8) (oi := ⟨some 28, .extract (.tmp 20) 0, 29, "law.go:100", #[⟨7, .data⟩], none⟩) (v := ?_) rfl (by kernel_rfl) ((show ∀ xq0 xq1 xq2 : Bool, Region.free _ _ #[true, true, true, true, true, true, true, true, false, false, false, xq0, xq1, xq2, false, false, false] 8 = true from by intro xq0 xq1 xq2; cases xq0 <;> cases xq1 <;> cases xq2 <;> kernel_rfl) xq0 xq1 xq2) ((show ∀ xq0 xq1 xq2 : Bool, (Region.ready _ _ #[true, true, true, true, true, true, true, true, false, false, false, xq0, xq1, xq2, false, false, false]).contains 8 = true from by intro xq0 xq1 xq2; cases xq0 <;> cases xq1 <;> cases xq2 <;> kernel_rfl) xq0 xq1 xq2) (fun _ _ _ h => h) (Or.inl ⟨by rfl, ?_⟩) hS ?_
        rotate_left
        · intro wv _; go_simp; try with_reducible rfl
        try simp only [Act.put, List.setIfInBounds_toArray, List.set_cons_zero, List.set_cons_succ]
        refine wpAnyH_take (i := 9) (oi := ⟨some 29, .extract (.tmp 20) 1, 31, "law.go:100", #[⟨7, .data⟩, ⟨14, .gcOnly .lateStores⟩], none⟩) (v := ?_) rfl (by kernel_rfl) ((show ∀ xq0 xq1 xq2 : Bool, Region.free _ _ #[true, true, true, true, true, true, true, true, true, false, false, xq0, xq1, xq2, false, false, false] 9 = true from by intro xq0 xq1 xq2; cases xq0 <;> cases xq1 <;> cases xq2 <;> kernel_rfl) xq0 xq1 xq2) ((show ∀ xq0 xq1 xq2 : Bool, (Region.ready _ _ #[true, true, true, true, true, true, true, true, true, false, false, xq0, xq1, xq2, false, false, false]).contains 9 = true from by intro xq0 xq1 xq2; cases xq0 <;> cases xq1 <;> cases xq2 <;> kernel_rfl) xq0 xq1 xq2) (fun _ _ _ h => h) (Or.inl ⟨by rfl, ?_⟩) hS ?_
        rotate_left
        · intro wv _; go_simp; try with_reducible rfl
        try simp only [Act.put, List.setIfInBounds_toArray, List.set_cons_zero, List.set_cons_succ]
        refine wpAnyH_take (i := 10) (oi := ⟨some 30, .extract (.tmp 20) 2, 39, "law.go:100", #[⟨7, .data⟩, ⟨15, .gcOnly .lateStores⟩], none⟩) (v := ?_) rfl (by kernel_rfl) ((show ∀ xq0 xq1 xq2 : Bool, Region.free _ _ #[true, true, true, true, true, true, true, true, true, true, false, xq0, xq1, xq2, false, false, false] 10 = true from by intro xq0 xq1 xq2; cases xq0 <;> cases xq1 <;> cases xq2 <;> kernel_rfl) xq0 xq1 xq2) ((show ∀ xq0 xq1 xq2 : Bool, (Region.ready _ _ #[true, true, true, true, true, true, true, true, true, true, false, xq0, xq1, xq2, false, false, false]).contains 10 = true from by intro xq0 xq1 xq2; cases xq0 <;> cases xq1 <;> cases xq2 <;> kernel_rfl) xq0 xq1 xq2) (fun _ _ _ h => h) (Or.inl ⟨by rfl, ?_⟩) hS ?_
        rotate_left
        · intro wv _; go_simp; try with_reducible rfl
        try simp only [Act.put, List.setIfInBounds_toArray, List.set_cons_zero, List.set_cons_succ]
        exact IH _ _ _ _ (by omega) ⟨true, true, xq0, xq1, xq2, _, _, _, _, _, _, p5, p6, p7, sx, sf, sa, A1, c1, B1, d1, rfl, (by (try simp only [List.setIfInBounds_toArray, List.set_cons_zero, List.set_cons_succ]); try rfl), (by simp only [cond_true, cond_false] at hn ⊢; omega), (fun _ => rfl), hS, (fun _ => rfl), (fun _ => rfl), (fun _ => rfl), (fun _ => rfl), (fun h => ⟨(ksx h).1, (ksx h).2.1, blk_below (ksx h).2.2 hb (blk_lt (ksx h).2.2)⟩), (fun h => ⟨(ksf h).1, (ksf h).2.1, blk_below (ksf h).2.2 hb (blk_lt (ksf h).2.2)⟩), (fun h => ⟨(ksa h).1, (ksa h).2.1, blk_below (ksa h).2.2 hb (blk_lt (ksa h).2.2)⟩), (fun _ => ⟨hon, hol⟩)⟩
      · skip
        refine inv_arm (o := ⟨some 5, .alloc 29, 0, "law.go:100", #[], none⟩) rfl (fun K hK => ?_)
        go_simp
        have zs := hS.size
        have hb := (Below.refl u.heap.size u).alloc (Nat.le_refl _) (.cells #[.int .i64 0, .int .i64 0, .int .i64 0, .int .i64 0, .int .i64 0, .int .i64 0, .int .i64 0, .int .u32 0, .int .u32 0, .slice none 0 0, .slice none 0 0] 29)
        replace hS := hS.trans (hb.mono hS.size)
        refine Shut.out hK _ _ hS (fun _ => ?_)
        clear hK K
        try simp only [Act.put, List.setIfInBounds_toArray, List.set_cons_zero, List.set_cons_succ]
        exact IH _ _ _ _ (by omega) ⟨cq0, cq1, true, xq1, xq2, v22, v27, v20, v28, v29, v30, _, p6, p7, u.heap.size, sf, sa, A1, c1, B1, d1, rfl, (by (try simp only [List.setIfInBounds_toArray, List.set_cons_zero, List.set_cons_succ]); try rfl), (by simp only [cond_true, cond_false] at hn ⊢; omega), hc0, hS, h22, h28, h29, h30, (fun _ => ⟨rfl, zs, heap_alloc_new _ _⟩), (fun h => ⟨(ksf h).1, (ksf h).2.1, blk_below (ksf h).2.2 hb (blk_lt (ksf h).2.2)⟩), (fun h => ⟨(ksa h).1, (ksa h).2.1, blk_below (ksa h).2.2 hb (blk_lt (ksa h).2.2)⟩), (fun h => ⟨own_below (gf6 h).1 hb, own_below (gf6 h).2 hb⟩)⟩
      · skip
        refine inv_arm (o := ⟨some 6, .alloc 31, 0, "law.go:100", #[], none⟩) rfl (fun K hK => ?_)
        go_simp
        have zs := hS.size
        have hb := (Below.refl u.heap.size u).alloc (Nat.le_refl _) (.cells #[.int .i64 0, .int .i64 0, .int .i64 0, .int .i64 0, .int .i64 0, .int .i64 0, .bool false, .bool false, .int .i64 0, .bool false] 31)
        replace hS := hS.trans (hb.mono hS.size)
        refine Shut.out hK _ _ hS (fun _ => ?_)
        clear hK K
        try simp only [Act.put, List.setIfInBounds_toArray, List.set_cons_zero, List.set_cons_succ]
        exact IH _ _ _ _ (by omega) ⟨cq0, cq1, xq0, true, xq2, v22, v27, v20, v28, v29, v30, p5, _, p7, sx, u.heap.size, sa, A1, c1, B1, d1, rfl, (by (try simp only [List.setIfInBounds_toArray, List.set_cons_zero, List.set_cons_succ]); try rfl), (by simp only [cond_true, cond_false] at hn ⊢; omega), hc0, hS, h22, h28, h29, h30, (fun h => ⟨(ksx h).1, (ksx h).2.1, blk_below (ksx h).2.2 hb (blk_lt (ksx h).2.2)⟩), (fun _ => ⟨rfl, zs, heap_alloc_new _ _⟩), (fun h => ⟨(ksa h).1, (ksa h).2.1, blk_below (ksa h).2.2 hb (blk_lt (ksa h).2.2)⟩), (fun h => ⟨own_below (gf6 h).1 hb, own_below (gf6 h).2 hb⟩)⟩
      · skip
        refine inv_arm (o := ⟨some 7, .alloc 39, 0, "law.go:100", #[], none⟩) rfl (fun K hK => ?_)
        go_simp
        have zs := hS.size
        have hb := (Below.refl u.heap.size u).alloc (Nat.le_refl _) (.cells #[.bool false, .bool false, .bool false, .int .i64 0, .int .i64 0, .int .u64 0, .slice none 0 0] 39)
        replace hS := hS.trans (hb.mono hS.size)
        refine Shut.out hK _ _ hS (fun _ => ?_)
        clear hK K
        try simp only [Act.put, List.setIfInBounds_toArray, List.set_cons_zero, List.set_cons_succ]
        exact IH _ _ _ _ (by omega) ⟨cq0, cq1, xq0, xq1, true, v22, v27, v20, v28, v29, v30, p5, p6, _, sx, sf, u.heap.size, A1, c1, B1, d1, rfl, (by (try simp only [List.setIfInBounds_toArray, List.set_cons_zero, List.set_cons_succ]); try rfl), (by simp only [cond_true, cond_false] at hn ⊢; omega), hc0, hS, h22, h28, h29, h30, (fun h => ⟨(ksx h).1, (ksx h).2.1, blk_below (ksx h).2.2 hb (blk_lt (ksx h).2.2)⟩), (fun h => ⟨(ksf h).1, (ksf h).2.1, blk_below (ksf h).2.2 hb (blk_lt (ksf h).2.2)⟩), (fun _ => ⟨rfl, zs, heap_alloc_new _ _⟩), (fun h => ⟨own_below (gf6 h).1 hb, own_below (gf6 h).2 hb⟩)⟩
    simp only [Bool.and_eq_true] at hall
    obtain ⟨rfl, rfl, rfl, rfl, rfl⟩ := hall
    obtain rfl := h22 rfl
    obtain rfl := h28 rfl
    obtain rfl := h29 rfl
    obtain rfl := h30 rfl
    obtain ⟨rfl, gsx, Vsx⟩ := ksx rfl
    obtain ⟨rfl, gsf, Vsf⟩ := ksf rfl
    obtain ⟨rfl, gsa, Vsa⟩ := ksa rfl
    replace gf6 := gf6 rfl
    obtain ⟨fu, rfl⟩ : ∃ m, fu = m + 3 := ⟨fu - 3, by simp only [cond_true] at hn; omega⟩
    clear IH hn hc0
    have neo_x := Nat.ne_of_lt (Nat.lt_of_lt_of_le (blk_lt Vo.out) gsx)
    have net_x := Nat.ne_of_lt (Nat.lt_of_lt_of_le (blk_lt Vt.out) gsx)
    have neo_f := Nat.ne_of_lt (Nat.lt_of_lt_of_le (blk_lt Vo.out) gsf)
    have net_f := Nat.ne_of_lt (Nat.lt_of_lt_of_le (blk_lt Vt.out) gsf)
    have neo_a := Nat.ne_of_lt (Nat.lt_of_lt_of_le (blk_lt Vo.out) gsa)
    have net_a := Nat.ne_of_lt (Nat.lt_of_lt_of_le (blk_lt Vt.out) gsa)
    have nex_f : sx ≠ sf := blk_ne Vsx Vsf (by decide)
    have nex_a : sx ≠ sa := blk_ne Vsx Vsa (by decide)
    have nef_a : sf ≠ sa := blk_ne Vsf Vsa (by decide)
    have gex := Nat.le_trans HB.out.2 gsx
    have gef := Nat.le_trans HB.out.2 gsf
    have gea := Nat.le_trans HB.out.2 gsa
    replace Vo := Lib.hid (blk_below Vo.out hS (blk_lt Vo.out))
    replace Vt := Lib.hid (blk_below Vt.out hS (blk_lt Vt.out))
    replace HB := Lib.hid (And.intro (HB.out.1.trans (hS.mono HB.out.2)) (Nat.le_trans HB.out.2 hS.size))
    have ON1 := Lib.hid gf6.1; have OL1 := Lib.hid gf6.2
    clear gf6
    have Vx := Lib.hid Vsx
    clear Vsx
    have Vf := Lib.hid Vsf
    clear Vsf
    have Va := Lib.hid Vsa
    clear Vsa
    obtain ⟨w5, hw5⟩ : ∃ W, u.setCells (sx) 0 [.int .i64 kd, .int .i64 1, .int .i64 o1, .int .i64 o2, .int .i64 o3, .int .i64 o4, .int .i64 o5, .int .u32 wa, .int .u32 to, .slice A1 n c1, .slice B1 m d1] = W := ⟨_, rfl⟩
    have Vo2 := (hw5 ▸ heap_setCells_ne neo_x [.int .i64 kd, .int .i64 1, .int .i64 o1, .int .i64 o2, .int .i64 o3, .int .i64 o4, .int .i64 o5, .int .u32 wa, .int .u32 to, .slice A1 n c1, .slice B1 m d1] 0 u : w5.heap[w.heap.size]? = _).trans Vo.out
    have Vt2 := (hw5 ▸ heap_setCells_ne net_x [.int .i64 kd, .int .i64 1, .int .i64 o1, .int .i64 o2, .int .i64 o3, .int .i64 o4, .int .i64 o5, .int .u32 wa, .int .u32 to, .slice A1 n c1, .slice B1 m d1] 0 u : w5.heap[w.heap.size + 1]? = _).trans Vt.out
    have Vf2 := (hw5 ▸ heap_setCells_ne nex_f.symm [.int .i64 kd, .int .i64 1, .int .i64 o1, .int .i64 o2, .int .i64 o3, .int .i64 o4, .int .i64 o5, .int .u32 wa, .int .u32 to, .slice A1 n c1, .slice B1 m d1] 0 u : w5.heap[sf]? = _).trans Vf.out
    have Va2 := (hw5 ▸ heap_setCells_ne nex_a.symm [.int .i64 kd, .int .i64 1, .int .i64 o1, .int .i64 o2, .int .i64 o3, .int .i64 o4, .int .i64 o5, .int .u32 wa, .int .u32 to, .slice A1 n c1, .slice B1 m d1] 0 u : w5.heap[sa]? = _).trans Va.out
    have Vx2 : w5.heap[sx]? = some (.cells #[.int .i64 kd, .int .i64 1, .int .i64 o1, .int .i64 o2, .int .i64 o3, .int .i64 o4, .int .i64 o5, .int .u32 wa, .int .u32 to, .slice A1 n c1, .slice B1 m d1] 29) := hw5 ▸ heap_setCells [.int .i64 kd, .int .i64 1, .int .i64 o1, .int .i64 o2, .int .i64 o3, .int .i64 o4, .int .i64 o5, .int .u32 wa, .int .u32 to, .slice A1 n c1, .slice B1 m d1] u [] [.int .i64 0, .int .i64 0, .int .i64 0, .int .i64 0, .int .i64 0, .int .i64 0, .int .i64 0, .int .u32 0, .int .u32 0, .slice none 0 0, .slice none 0 0] rfl Vx.out
    have hbb : Below _ _ w5 := hw5 ▸ below_setCells gex [.int .i64 kd, .int .i64 1, .int .i64 o1, .int .i64 o2, .int .i64 o3, .int .i64 o4, .int .i64 o5, .int .u32 wa, .int .u32 to, .slice A1 n c1, .slice B1 m d1] 0 u HB.out.1
    have hbs : w5.heap.size = u.heap.size := by rw [← hw5, size_setCells]
    have thx := Lib.hid (there_blk Vx.out (k := 11) rfl)
    replace ON1 := Lib.hid (hw5 ▸ own_setCells (by decide) [.int .i64 kd, .int .i64 1, .int .i64 o1, .int .i64 o2, .int .i64 o3, .int .i64 o4, .int .i64 o5, .int .u32 wa, .int .u32 to, .slice A1 n c1, .slice B1 m d1] 0 ON1.out Vx.out)
    replace OL1 := Lib.hid (hw5 ▸ own_setCells (by decide) [.int .i64 kd, .int .i64 1, .int .i64 o1, .int .i64 o2, .int .i64 o3, .int .i64 o4, .int .i64 o5, .int .u32 wa, .int .u32 to, .slice A1 n c1, .slice B1 m d1] 0 OL1.out Vx.out)
    replace Vo := Lib.hid Vo2
    clear Vo2
    replace Vt := Lib.hid Vt2
    clear Vt2
    replace Vx := Lib.hid Vx2
    clear Vx2
    replace Vf := Lib.hid Vf2
    clear Vf2
    replace Va := Lib.hid Va2
    clear Va2
    replace HB := Lib.hid (And.intro hbb (show _ ≤ w5.heap.size by rw [hbs]; exact HB.out.2))
    clear hbb hbs
    refine wpAnyH_ready (rs := [14]) (by kernel_rfl) (by simp) (AllReadyH.cons (o := ⟨none, .store 29 (.tmp 5) (.tmp 28), 0, "law.go:100", #[⟨11, .data⟩, ⟨8, .data⟩, ⟨6, .chain⟩, ⟨0, .phase⟩, ⟨1, .phase⟩, ⟨2, .phase⟩, ⟨3, .phase⟩, ⟨4, .phase⟩, ⟨5, .phase⟩, ⟨6, .phase⟩, ⟨7, .phase⟩, ⟨8, .phase⟩, ⟨9, .textOnly .lateStores⟩, ⟨10, .textOnly .lateStores⟩, ⟨11, .phase⟩, ⟨12, .phase⟩, ⟨13, .phase⟩], none⟩) rfl (fun K hK => ?_) AllReadyH.nil)
    refine op_storeS (by rfl) rfl rfl rfl thx.out (by kernel_rfl) (by simp [Value.oneCell']) hw5 ?_
    replace hS := hw5 ▸ below_setCells gsx [.int .i64 kd, .int .i64 1, .int .i64 o1, .int .i64 o2, .int .i64 o3, .int .i64 o4, .int .i64 o5, .int .u32 wa, .int .u32 to, .slice A1 n c1, .slice B1 m d1] 0 _ hS
    obtain ⟨w6, hw6⟩ : ∃ W, w5.setCells (sf) 0 [.int .i64 0, .int .i64 0, .int .i64 0, .int .i64 0, .int .i64 0, .int .i64 0, .bool false, .bool false, .int .i64 0, .bool false] = W := ⟨_, rfl⟩
    have Vo2 := (hw6 ▸ heap_setCells_ne neo_f [.int .i64 0, .int .i64 0, .int .i64 0, .int .i64 0, .int .i64 0, .int .i64 0, .bool false, .bool false, .int .i64 0, .bool false] 0 w5 : w6.heap[w.heap.size]? = _).trans Vo.out
    have Vt2 := (hw6 ▸ heap_setCells_ne net_f [.int .i64 0, .int .i64 0, .int .i64 0, .int .i64 0, .int .i64 0, .int .i64 0, .bool false, .bool false, .int .i64 0, .bool false] 0 w5 : w6.heap[w.heap.size + 1]? = _).trans Vt.out
    have Vx2 := (hw6 ▸ heap_setCells_ne nex_f [.int .i64 0, .int .i64 0, .int .i64 0, .int .i64 0, .int .i64 0, .int .i64 0, .bool false, .bool false, .int .i64 0, .bool false] 0 w5 : w6.heap[sx]? = _).trans Vx.out
    have Va2 := (hw6 ▸ heap_setCells_ne nef_a.symm [.int .i64 0, .int .i64 0, .int .i64 0, .int .i64 0, .int .i64 0, .int .i64 0, .bool false, .bool false, .int .i64 0, .bool false] 0 w5 : w6.heap[sa]? = _).trans Va.out
    have Vf2 : w6.heap[sf]? = some (.cells #[.int .i64 0, .int .i64 0, .int .i64 0, .int .i64 0, .int .i64 0, .int .i64 0, .bool false, .bool false, .int .i64 0, .bool false] 31) := hw6 ▸ heap_setCells [.int .i64 0, .int .i64 0, .int .i64 0, .int .i64 0, .int .i64 0, .int .i64 0, .bool false, .bool false, .int .i64 0, .bool false] w5 [] [.int .i64 0, .int .i64 0, .int .i64 0, .int .i64 0, .int .i64 0, .int .i64 0, .bool false, .bool false, .int .i64 0, .bool false] rfl Vf.out
    have hbb : Below _ _ w6 := hw6 ▸ below_setCells gef [.int .i64 0, .int .i64 0, .int .i64 0, .int .i64 0, .int .i64 0, .int .i64 0, .bool false, .bool false, .int .i64 0, .bool false] 0 w5 HB.out.1
    have hbs : w6.heap.size = w5.heap.size := by rw [← hw6, size_setCells]
    have thf := Lib.hid (there_blk Vf.out (k := 10) rfl)
    replace ON1 := Lib.hid (hw6 ▸ own_setCells (by decide) [.int .i64 0, .int .i64 0, .int .i64 0, .int .i64 0, .int .i64 0, .int .i64 0, .bool false, .bool false, .int .i64 0, .bool false] 0 ON1.out Vf.out)
    replace OL1 := Lib.hid (hw6 ▸ own_setCells (by decide) [.int .i64 0, .int .i64 0, .int .i64 0, .int .i64 0, .int .i64 0, .int .i64 0, .bool false, .bool false, .int .i64 0, .bool false] 0 OL1.out Vf.out)
    replace Vo := Lib.hid Vo2
    clear Vo2
    replace Vt := Lib.hid Vt2
    clear Vt2
    replace Vx := Lib.hid Vx2
    clear Vx2
    replace Vf := Lib.hid Vf2
    clear Vf2
    replace Va := Lib.hid Va2
    clear Va2
    replace HB := Lib.hid (And.intro hbb (show _ ≤ w6.heap.size by rw [hbs]; exact HB.out.2))
    clear hbb hbs
    refine Shut.out hK _ _ hS (fun _ => ?_)
    clear hK K
    try simp only [Act.put, List.setIfInBounds_toArray, List.set_cons_zero, List.set_cons_succ]
    refine wpAnyH_ready (rs := [15]) (by kernel_rfl) (by simp) (AllReadyH.cons (o := ⟨none, .store 31 (.tmp 6) (.tmp 29), 0, "law.go:100", #[⟨12, .data⟩, ⟨9, .data⟩, ⟨14, .chain⟩, ⟨0, .phase⟩, ⟨1, .phase⟩, ⟨2, .phase⟩, ⟨3, .phase⟩, ⟨4, .phase⟩, ⟨5, .phase⟩, ⟨6, .phase⟩, ⟨7, .phase⟩, ⟨8, .phase⟩, ⟨9, .phase⟩, ⟨10, .textOnly .lateStores⟩, ⟨11, .phase⟩, ⟨12, .phase⟩, ⟨13, .phase⟩, ⟨14, .phase⟩], none⟩) rfl (fun K hK => ?_) AllReadyH.nil)
    refine op_storeS (by rfl) rfl rfl rfl thf.out (by kernel_rfl) (by simp [Value.oneCell']) hw6 ?_
    replace hS := hw6 ▸ below_setCells gsf [.int .i64 0, .int .i64 0, .int .i64 0, .int .i64 0, .int .i64 0, .int .i64 0, .bool false, .bool false, .int .i64 0, .bool false] 0 _ hS
    obtain ⟨w7, hw7⟩ : ∃ W, w6.setCells (sa) 0 [.bool true, .bool false, .bool false, .int .i64 0, .int .i64 0, .int .u64 0, .slice WA wn wc] = W := ⟨_, rfl⟩
    have Vo2 := (hw7 ▸ heap_setCells_ne neo_a [.bool true, .bool false, .bool false, .int .i64 0, .int .i64 0, .int .u64 0, .slice WA wn wc] 0 w6 : w7.heap[w.heap.size]? = _).trans Vo.out
    have Vt2 := (hw7 ▸ heap_setCells_ne net_a [.bool true, .bool false, .bool false, .int .i64 0, .int .i64 0, .int .u64 0, .slice WA wn wc] 0 w6 : w7.heap[w.heap.size + 1]? = _).trans Vt.out
    have Vx2 := (hw7 ▸ heap_setCells_ne nex_a [.bool true, .bool false, .bool false, .int .i64 0, .int .i64 0, .int .u64 0, .slice WA wn wc] 0 w6 : w7.heap[sx]? = _).trans Vx.out
    have Vf2 := (hw7 ▸ heap_setCells_ne nef_a [.bool true, .bool false, .bool false, .int .i64 0, .int .i64 0, .int .u64 0, .slice WA wn wc] 0 w6 : w7.heap[sf]? = _).trans Vf.out
    have Va2 : w7.heap[sa]? = some (.cells #[.bool true, .bool false, .bool false, .int .i64 0, .int .i64 0, .int .u64 0, .slice WA wn wc] 39) := hw7 ▸ heap_setCells [.bool true, .bool false, .bool false, .int .i64 0, .int .i64 0, .int .u64 0, .slice WA wn wc] w6 [] [.bool false, .bool false, .bool false, .int .i64 0, .int .i64 0, .int .u64 0, .slice none 0 0] rfl Va.out
    have hbb : Below _ _ w7 := hw7 ▸ below_setCells gea [.bool true, .bool false, .bool false, .int .i64 0, .int .i64 0, .int .u64 0, .slice WA wn wc] 0 w6 HB.out.1
    have hbs : w7.heap.size = w6.heap.size := by rw [← hw7, size_setCells]
    have tha := Lib.hid (there_blk Va.out (k := 7) rfl)
    replace ON1 := Lib.hid (hw7 ▸ own_setCells (by decide) [.bool true, .bool false, .bool false, .int .i64 0, .int .i64 0, .int .u64 0, .slice WA wn wc] 0 ON1.out Va.out)
    replace OL1 := Lib.hid (hw7 ▸ own_setCells (by decide) [.bool true, .bool false, .bool false, .int .i64 0, .int .i64 0, .int .u64 0, .slice WA wn wc] 0 OL1.out Va.out)
    replace Vo := Lib.hid Vo2
    clear Vo2
    replace Vt := Lib.hid Vt2
    clear Vt2
    replace Vx := Lib.hid Vx2
    clear Vx2
    replace Vf := Lib.hid Vf2
    clear Vf2
    replace Va := Lib.hid Va2
    clear Va2
    replace HB := Lib.hid (And.intro hbb (show _ ≤ w7.heap.size by rw [hbs]; exact HB.out.2))
    clear hbb hbs
    refine Shut.out hK _ _ hS (fun _ => ?_)
    clear hK K
    try simp only [Act.put, List.setIfInBounds_toArray, List.set_cons_zero, List.set_cons_succ]
    refine wpAnyH_ready (rs := [16]) (by kernel_rfl) (by simp) (AllReadyH.cons (o := ⟨none, .store 39 (.tmp 7) (.tmp 30), 0, "law.go:100", #[⟨13, .data⟩, ⟨10, .data⟩, ⟨15, .chain⟩, ⟨0, .phase⟩, ⟨1, .phase⟩, ⟨2, .phase⟩, ⟨3, .phase⟩, ⟨4, .phase⟩, ⟨5, .phase⟩, ⟨6, .phase⟩, ⟨7, .phase⟩, ⟨8, .phase⟩, ⟨9, .phase⟩, ⟨10, .phase⟩, ⟨11, .phase⟩, ⟨12, .phase⟩, ⟨13, .phase⟩, ⟨14, .phase⟩, ⟨15, .phase⟩], none⟩) rfl (fun K hK => ?_) AllReadyH.nil)
    refine op_storeS (by rfl) rfl rfl rfl tha.out (by kernel_rfl) (by simp [Value.oneCell']) hw7 ?_
    replace hS := hw7 ▸ below_setCells gsa [.bool true, .bool false, .bool false, .int .i64 0, .int .i64 0, .int .u64 0, .slice WA wn wc] 0 _ hS
    refine Shut.out hK _ _ hS (fun _ => ?_)
    clear hK K
    try simp only [Act.put, List.setIfInBounds_toArray, List.set_cons_zero, List.set_cons_succ]
    refine wpAnyH_done (by kernel_rfl) ?_ _
    refine NoPanic.normal ?_
    clear hS gsx gsf gsa thx thf tha
    clear Vf
    go_wp2
    refine wp_region_noPanic ?_
    refine wp_region_held_drew (S := (fun wv => Below w7.heap.size w7 wv)) (by kernel_rfl) ((Below.refl w7.heap.size w7).drew) (fun hS => ?_)
    refine wpAnyH_take (i := 0) (oi := ⟨some 32, .load 29 (.tmp 5), 29, "law.go:101", #[], none⟩) (v := .agg (([.int .i64 kd, .int .i64 1, .int .i64 o1, .int .i64 o2, .int .i64 o3, .int .i64 o4, .int .i64 o5, .int .u32 wa, .int .u32 to, .slice A1 n c1, .slice B1 m d1] : List Value)).toArray) rfl (by kernel_rfl) (by kernel_rfl) (by kernel_rfl) (fun _ _ _ h => h) (yieldsIf_load_mid (by rfl) _ _ (by rfl) (sx) (0) (by rfl) (([.int .i64 kd, .int .i64 1, .int .i64 o1, .int .i64 o2, .int .i64 o3, .int .i64 o4, .int .i64 o5, .int .u32 wa, .int .u32 to, .slice A1 n c1, .slice B1 m d1] : List Value)) _ (fun wv hS => blk_rngl (blk_below Vx.out hS (blk_lt Vx.out))) Try.underlying29 (by rfl) (by kernel_rfl)) hS ?_
    try simp only [Act.put, List.setIfInBounds_toArray, List.set_cons_zero, List.set_cons_succ]
    refine inv_region (fun a0 fu listed a u => ∃ (cq0 cq1 xq0 xq1 xq2 : Bool) (v33 v34 v31 v35 v36 v37 p8 p9 p10 : Value) (sy sg sb : Nat) (A2 : Option Addr) (c2 : Nat) (B2 : Option Addr) (d2 : Nat), listed = #[true, cq0, cq1, cq1, cq1, cq1, cq1, xq0, xq1, xq2, false, false, false] ∧ a = ⟨(((((((((a0.tmps.setIfInBounds 33 v33).setIfInBounds 34 v34).setIfInBounds 31 v31).setIfInBounds 35 v35).setIfInBounds 36 v36).setIfInBounds 37 v37).setIfInBounds 8 p8).setIfInBounds 9 p9).setIfInBounds 10 p10), a0.defers⟩ ∧ (bif cq0 then 0 else 1) + (bif cq1 then 0 else 5) + (bif xq0 then 0 else 1) + (bif xq1 then 0 else 1) + (bif xq2 then 0 else 1) + 3 ≤ fu ∧ (cq1 = true → cq0 = true) ∧ Below w7.heap.size w7 u ∧ (cq0 = true → v33 = .agg #[.int .i64 27, .int .i64 0, .int .i64 0, .int .i64 0, .int .i64 (-1), .int .i64 0, .bool false, .bool false, .int .i64 0, .bool false]) ∧ (cq1 = true → v35 = .agg #[.int .i64 kd, .int .i64 0, .int .i64 o1, .int .i64 o2, .int .i64 o3, .int .i64 o4, .int .i64 o5, .int .u32 wa, .int .u32 to, .slice A2 n c2, .slice B2 m d2]) ∧ (cq1 = true → v36 = .agg #[.int .i64 0, .int .i64 0, .int .i64 0, .int .i64 0, .int .i64 0, .int .i64 0, .bool false, .bool false, .int .i64 0, .bool false]) ∧ (cq1 = true → v37 = .agg #[.bool true, .bool false, .bool false, .int .i64 0, .int .i64 0, .int .u64 0, .slice WA wn wc]) ∧ (xq0 = true → p8 = .pointer (some ⟨sy, 0, none⟩) ∧ w7.heap.size ≤ sy ∧ u.heap[sy]? = some (.cells #[.int .i64 0, .int .i64 0, .int .i64 0, .int .i64 0, .int .i64 0, .int .i64 0, .int .i64 0, .int .u32 0, .int .u32 0, .slice none 0 0, .slice none 0 0] 29)) ∧ (xq1 = true → p9 = .pointer (some ⟨sg, 0, none⟩) ∧ w7.heap.size ≤ sg ∧ u.heap[sg]? = some (.cells #[.int .i64 0, .int .i64 0, .int .i64 0, .int .i64 0, .int .i64 0, .int .i64 0, .bool false, .bool false, .int .i64 0, .bool false] 31)) ∧ (xq2 = true → p10 = .pointer (some ⟨sb, 0, none⟩) ∧ w7.heap.size ≤ sb ∧ u.heap[sb]? = some (.cells #[.bool false, .bool false, .bool false, .int .i64 0, .int .i64 0, .int .u64 0, .slice none 0 0] 39)) ∧ (cq1 = true → (u.ownsRow w7.heap.size 69 2 (.slice A2 n c2) n (wtC nl) ∧ u.ownsRow w7.heap.size 64 2 (.slice B2 m d2) m (clC ll)))) ⟨false, false, false, false, false, undef, undef, undef, undef, undef, undef, undef, undef, undef, 0, 0, 0, none, 0, none, 0, rfl, (by first | (simp only [List.setIfInBounds_toArray, List.set_cons_zero, List.set_cons_succ]; done) | rfl), (by show _ + _ ≤ _; decide), (fun h => nomatch h), hS, (fun h => nomatch h), (fun h => nomatch h), (fun h => nomatch h), (fun h => nomatch h), (fun h => nomatch h), (fun h => nomatch h), (fun h => nomatch h), (fun h => nomatch h)⟩ ?_
    clear hS; rintro fu listed a u ⟨cq0, cq1, xq0, xq1, xq2, v33, v34, v31, v35, v36, v37, p8, p9, p10, sy, sg, sb, A2, c2, B2, d2, rfl, rfl, hn, hc0, hS, h33, h35, h36, h37, ksy, ksg, ksb, gf2⟩ IH
    try simp only [List.setIfInBounds_toArray, List.set_cons_zero, List.set_cons_succ]
    by_cases hall : (cq0 && (cq1 && (xq0 && (xq1 && (xq2))))) = true
    rotate_left
    · have hbad : ((cq1 && !cq0) || ((cq0 && (cq1 && (xq0 && (xq1 && (xq2))))))) = false := inv_or (inv_imp hc0) (inv_not hall)
      obtain ⟨fu, rfl⟩ : ∃ m, fu = m + 1 := ⟨fu - 1, by omega⟩
      refine inv_step (bad := ((cq1 && !cq0) || ((cq0 && (cq1 && (xq0 && (xq1 && (xq2)))))))) (fun i => ((i == 1 && !cq0) || ((i == 2 && (cq0 && !cq1)) || ((i == 7 && !xq0) || ((i == 8 && !xq1) || ((i == 9 && !xq2))))))) ((show ∀ cq0 cq1 xq0 xq1 xq2 : Bool, (((cq1 && !cq0) || ((cq0 && (cq1 && (xq0 && (xq1 && (xq2))))))) || (!(Region.ready _ _ #[true, cq0, cq1, cq1, cq1, cq1, cq1, xq0, xq1, xq2, false, false, false]).isEmpty && (Region.ready _ _ #[true, cq0, cq1, cq1, cq1, cq1, cq1, xq0, xq1, xq2, false, false, false]).all (fun i => ((i == 1 && !cq0) || ((i == 2 && (cq0 && !cq1)) || ((i == 7 && !xq0) || ((i == 8 && !xq1) || ((i == 9 && !xq2))))))))) = true from by intro cq0 cq1 xq0 xq1 xq2; cases cq0 <;> cases cq1 <;> cases xq0 <;> cases xq1 <;> cases xq2 <;> kernel_rfl) cq0 cq1 xq0 xq1 xq2) hbad (fun i hi => ?_)
      simp only [Bool.or_eq_true, Bool.and_eq_true, beq_iff_eq, Bool.not_eq_true'] at hi
      clear hall hbad
      rcases hi with ⟨rfl, rfl⟩ | ⟨rfl, rfl, rfl⟩ | ⟨rfl, rfl⟩ | ⟨rfl, rfl⟩ | ⟨rfl, rfl⟩
      · skip
        refine inv_arm (o := ⟨some 33, .call { callee := .value (.func 18), args := #[.const (Value.int IntKind.i64 27)], argTypes := #[3] }, 31, "law.go:101", #[], none⟩) rfl (fun K hK => ?_)
        go_simp
        go_wp2_with fail
        refine (N2.out _).mono ?_; rintro e u1 ⟨rfl, hb⟩
        replace hS := hS.trans (hb.mono hS.size)
        refine Shut.out hK _ _ hS (fun _ => ?_)
        clear hK K
        try simp only [Act.put, List.setIfInBounds_toArray, List.set_cons_zero, List.set_cons_succ]
        exact IH _ _ _ _ (by omega) ⟨true, cq1, xq0, xq1, xq2, _, v34, v31, v35, v36, v37, p8, p9, p10, sy, sg, sb, A2, c2, B2, d2, rfl, (by (try simp only [List.setIfInBounds_toArray, List.set_cons_zero, List.set_cons_succ]); try rfl), (by simp only [cond_true, cond_false] at hn ⊢; omega), (fun _ => rfl), hS, (fun _ => rfl), h35, h36, h37, (fun h => ⟨(ksy h).1, (ksy h).2.1, blk_below (ksy h).2.2 hb (blk_lt (ksy h).2.2)⟩), (fun h => ⟨(ksg h).1, (ksg h).2.1, blk_below (ksg h).2.2 hb (blk_lt (ksg h).2.2)⟩), (fun h => ⟨(ksb h).1, (ksb h).2.1, blk_below (ksb h).2.2 hb (blk_lt (ksb h).2.2)⟩), (fun h => ⟨own_below (gf2 h).1 hb, own_below (gf2 h).2 hb⟩)⟩
      · skip
        obtain rfl := h33 rfl
        refine inv_arm (o := ⟨some 34, .call { callee := .value (.func 16), args := #[.tmp 32, .tmp 33], argTypes := #[29, 31] }, 40, "law.go:101", #[⟨0, .data⟩, ⟨1, .data⟩, ⟨1, .chain⟩], none⟩) rfl (fun K hK => ?_)
        go_simp
        go_wp2_with fail
        have zs := hS.size
        refine (K2.out _ _ _ _ _ (Es.below (own_wts ON1.out) hS) (Es.below (own_cls OL1.out) hS)).mono ?_
        rintro e u2 ⟨A2, c2, B2, d2, rfl, hon, hol, hb⟩
        replace hon := own_base hon zs
        replace hol := own_base hol zs
        replace hS := hS.trans (hb.mono hS.size)
        obtain ⟨fu, rfl⟩ : ∃ m, fu = m + 4 := ⟨fu - 4, by simp only [cond_true, cond_false] at hn; omega⟩
        refine Shut.out hK _ _ hS (fun _ => ?_)
        clear hK K
        try simp only [Act.put, List.setIfInBounds_toArray, List.set_cons_zero, List.set_cons_succ]
        refine wpAnyH_take (i := 3) (oi := ⟨some 31, .move (.tmp 34), 40, "law.go:101", #[⟨2, .data⟩], none⟩) (v := ?_) rfl (by kernel_rfl) ((show ∀ xq0 xq1 xq2 : Bool, Region.free _ _ #[true, true, true, false, false, false, false, xq0, xq1, xq2, false, false, false] 3 = true from by intro xq0 xq1 xq2; cases xq0 <;> cases xq1 <;> cases xq2 <;> kernel_rfl) xq0 xq1 xq2) ((show ∀ xq0 xq1 xq2 : Bool, (Region.ready _ _ #[true, true, true, false, false, false, false, xq0, xq1, xq2, false, false, false]).contains 3 = true from by intro xq0 xq1 xq2; cases xq0 <;> cases xq1 <;> cases xq2 <;> kernel_rfl) xq0 xq1 xq2) (fun _ _ _ h => h) (Or.inl ⟨by rfl, ?_⟩) hS ?_
        rotate_left
        · intro wv _; go_simp; try with_reducible rfl
        try simp only [Act.put, List.setIfInBounds_toArray, List.set_cons_zero, List.set_cons_succ]
        refine wpAnyH_take (i := 4) (oi := ⟨some 35, .extract (.tmp 31) 0, 29, "law.go:101", #[⟨3, .data⟩], none⟩) (v := ?_) rfl (by kernel_rfl) ((show ∀ xq0 xq1 xq2 : Bool, Region.free _ _ #[true, true, true, true, false, false, false, xq0, xq1, xq2, false, false, false] 4 = true from by intro xq0 xq1 xq2; cases xq0 <;> cases xq1 <;> cases xq2 <;> kernel_rfl) xq0 xq1 xq2) ((show ∀ xq0 xq1 xq2 : Bool, (Region.ready _ _ #[true, true, true, true, false, false, false, xq0, xq1, xq2, false, false, false]).contains 4 = true from by intro xq0 xq1 xq2; cases xq0 <;> cases xq1 <;> cases xq2 <;> kernel_rfl) xq0 xq1 xq2) (fun _ _ _ h => h) (Or.inl ⟨by rfl, ?_⟩) hS ?_
        rotate_left
        · intro wv _; go_simp; try with_reducible rfl
        try simp only [Act.put, List.setIfInBounds_toArray, List.set_cons_zero, List.set_cons_succ]
        refine wpAnyH_take (i := 5) (oi := ⟨some 36, .extract (.tmp 31) 1, 31, "law.go:101", #[⟨3, .data⟩, ⟨10, .gcOnly .lateStores⟩], none⟩) (v := ?_) rfl (by kernel_rfl) ((show ∀ xq0 xq1 xq2 : Bool, Region.free _ _ #[true, true, true, true, true, false, false, xq0, xq1, xq2, false, false, false] 5 = true from by intro xq0 xq1 xq2; cases xq0 <;> cases xq1 <;> cases xq2 <;> kernel_rfl) xq0 xq1 xq2) ((show ∀ xq0 xq1 xq2 : Bool, (Region.ready _ _ #[true, true, true, true, true, false, false, xq0, xq1, xq2, false, false, false]).contains 5 = true from by intro xq0 xq1 xq2; cases xq0 <;> cases xq1 <;> cases xq2 <;> kernel_rfl) xq0 xq1 xq2) (fun _ _ _ h => h) (Or.inl ⟨by rfl, ?_⟩) hS ?_
        rotate_left
        · intro wv _; go_simp; try with_reducible rfl
        try simp only [Act.put, List.setIfInBounds_toArray, List.set_cons_zero, List.set_cons_succ]
        refine wpAnyH_take (i := 6) (oi := ⟨some 37, .extract (.tmp 31) 2, 39, "law.go:101", #[⟨3, .data⟩, ⟨11, .gcOnly .lateStores⟩], none⟩) (v := ?_) rfl (by kernel_rfl) ((show ∀ xq0 xq1 xq2 : Bool, Region.free _ _ #[true, true, true, true, true, true, false, xq0, xq1, xq2, false, false, false] 6 = true from by intro xq0 xq1 xq2; cases xq0 <;> cases xq1 <;> cases xq2 <;> kernel_rfl) xq0 xq1 xq2) ((show ∀ xq0 xq1 xq2 : Bool, (Region.ready _ _ #[true, true, true, true, true, true, false, xq0, xq1, xq2, false, false, false]).contains 6 = true from by intro xq0 xq1 xq2; cases xq0 <;> cases xq1 <;> cases xq2 <;> kernel_rfl) xq0 xq1 xq2) (fun _ _ _ h => h) (Or.inl ⟨by rfl, ?_⟩) hS ?_
        rotate_left
        · intro wv _; go_simp; try with_reducible rfl
        try simp only [Act.put, List.setIfInBounds_toArray, List.set_cons_zero, List.set_cons_succ]
        exact IH _ _ _ _ (by omega) ⟨true, true, xq0, xq1, xq2, _, _, _, _, _, _, p8, p9, p10, sy, sg, sb, A2, c2, B2, d2, rfl, (by (try simp only [List.setIfInBounds_toArray, List.set_cons_zero, List.set_cons_succ]); try rfl), (by simp only [cond_true, cond_false] at hn ⊢; omega), (fun _ => rfl), hS, (fun _ => rfl), (fun _ => rfl), (fun _ => rfl), (fun _ => rfl), (fun h => ⟨(ksy h).1, (ksy h).2.1, blk_below (ksy h).2.2 hb (blk_lt (ksy h).2.2)⟩), (fun h => ⟨(ksg h).1, (ksg h).2.1, blk_below (ksg h).2.2 hb (blk_lt (ksg h).2.2)⟩), (fun h => ⟨(ksb h).1, (ksb h).2.1, blk_below (ksb h).2.2 hb (blk_lt (ksb h).2.2)⟩), (fun _ => ⟨hon, hol⟩)⟩
      · skip
        refine inv_arm (o := ⟨some 8, .alloc 29, 0, "law.go:101", #[], none⟩) rfl (fun K hK => ?_)
        go_simp
        have zs := hS.size
        have hb := (Below.refl u.heap.size u).alloc (Nat.le_refl _) (.cells #[.int .i64 0, .int .i64 0, .int .i64 0, .int .i64 0, .int .i64 0, .int .i64 0, .int .i64 0, .int .u32 0, .int .u32 0, .slice none 0 0, .slice none 0 0] 29)
        replace hS := hS.trans (hb.mono hS.size)
        refine Shut.out hK _ _ hS (fun _ => ?_)
        clear hK K
        try simp only [Act.put, List.setIfInBounds_toArray, List.set_cons_zero, List.set_cons_succ]
        exact IH _ _ _ _ (by omega) ⟨cq0, cq1, true, xq1, xq2, v33, v34, v31, v35, v36, v37, _, p9, p10, u.heap.size, sg, sb, A2, c2, B2, d2, rfl, (by (try simp only [List.setIfInBounds_toArray, List.set_cons_zero, List.set_cons_succ]); try rfl), (by simp only [cond_true, cond_false] at hn ⊢; omega), hc0, hS, h33, h35, h36, h37, (fun _ => ⟨rfl, zs, heap_alloc_new _ _⟩), (fun h => ⟨(ksg h).1, (ksg h).2.1, blk_below (ksg h).2.2 hb (blk_lt (ksg h).2.2)⟩), (fun h => ⟨(ksb h).1, (ksb h).2.1, blk_below (ksb h).2.2 hb (blk_lt (ksb h).2.2)⟩), (fun h => ⟨own_below (gf2 h).1 hb, own_below (gf2 h).2 hb⟩)⟩
      · skip
        refine inv_arm (o := ⟨some 9, .alloc 31, 0, "law.go:101", #[], none⟩) rfl (fun K hK => ?_)
        go_simp
        have zs := hS.size
        have hb := (Below.refl u.heap.size u).alloc (Nat.le_refl _) (.cells #[.int .i64 0, .int .i64 0, .int .i64 0, .int .i64 0, .int .i64 0, .int .i64 0, .bool false, .bool false, .int .i64 0, .bool false] 31)
        replace hS := hS.trans (hb.mono hS.size)
        refine Shut.out hK _ _ hS (fun _ => ?_)
        clear hK K
        try simp only [Act.put, List.setIfInBounds_toArray, List.set_cons_zero, List.set_cons_succ]
        exact IH _ _ _ _ (by omega) ⟨cq0, cq1, xq0, true, xq2, v33, v34, v31, v35, v36, v37, p8, _, p10, sy, u.heap.size, sb, A2, c2, B2, d2, rfl, (by (try simp only [List.setIfInBounds_toArray, List.set_cons_zero, List.set_cons_succ]); try rfl), (by simp only [cond_true, cond_false] at hn ⊢; omega), hc0, hS, h33, h35, h36, h37, (fun h => ⟨(ksy h).1, (ksy h).2.1, blk_below (ksy h).2.2 hb (blk_lt (ksy h).2.2)⟩), (fun _ => ⟨rfl, zs, heap_alloc_new _ _⟩), (fun h => ⟨(ksb h).1, (ksb h).2.1, blk_below (ksb h).2.2 hb (blk_lt (ksb h).2.2)⟩), (fun h => ⟨own_below (gf2 h).1 hb, own_below (gf2 h).2 hb⟩)⟩
      · skip
        refine inv_arm (o := ⟨some 10, .alloc 39, 0, "law.go:101", #[], none⟩) rfl (fun K hK => ?_)
        go_simp
        have zs := hS.size
        have hb := (Below.refl u.heap.size u).alloc (Nat.le_refl _) (.cells #[.bool false, .bool false, .bool false, .int .i64 0, .int .i64 0, .int .u64 0, .slice none 0 0] 39)
        replace hS := hS.trans (hb.mono hS.size)
        refine Shut.out hK _ _ hS (fun _ => ?_)
        clear hK K
        try simp only [Act.put, List.setIfInBounds_toArray, List.set_cons_zero, List.set_cons_succ]
        exact IH _ _ _ _ (by omega) ⟨cq0, cq1, xq0, xq1, true, v33, v34, v31, v35, v36, v37, p8, p9, _, sy, sg, u.heap.size, A2, c2, B2, d2, rfl, (by (try simp only [List.setIfInBounds_toArray, List.set_cons_zero, List.set_cons_succ]); try rfl), (by simp only [cond_true, cond_false] at hn ⊢; omega), hc0, hS, h33, h35, h36, h37, (fun h => ⟨(ksy h).1, (ksy h).2.1, blk_below (ksy h).2.2 hb (blk_lt (ksy h).2.2)⟩), (fun h => ⟨(ksg h).1, (ksg h).2.1, blk_below (ksg h).2.2 hb (blk_lt (ksg h).2.2)⟩), (fun _ => ⟨rfl, zs, heap_alloc_new _ _⟩), (fun h => ⟨own_below (gf2 h).1 hb, own_below (gf2 h).2 hb⟩)⟩
    simp only [Bool.and_eq_true] at hall
    obtain ⟨rfl, rfl, rfl, rfl, rfl⟩ := hall
    obtain rfl := h33 rfl
    obtain rfl := h35 rfl
    obtain rfl := h36 rfl
    obtain rfl := h37 rfl
    obtain ⟨rfl, gsy, Vsy⟩ := ksy rfl
    obtain ⟨rfl, gsg, Vsg⟩ := ksg rfl
    obtain ⟨rfl, gsb, Vsb⟩ := ksb rfl
    replace gf2 := gf2 rfl
    obtain ⟨fu, rfl⟩ : ∃ m, fu = m + 3 := ⟨fu - 3, by simp only [cond_true] at hn; omega⟩
    clear IH hn hc0
    have neo_y := Nat.ne_of_lt (Nat.lt_of_lt_of_le (blk_lt Vo.out) gsy)
    have net_y := Nat.ne_of_lt (Nat.lt_of_lt_of_le (blk_lt Vt.out) gsy)
    have nex_y := Nat.ne_of_lt (Nat.lt_of_lt_of_le (blk_lt Vx.out) gsy)
    have nea_y := Nat.ne_of_lt (Nat.lt_of_lt_of_le (blk_lt Va.out) gsy)
    have neo_g := Nat.ne_of_lt (Nat.lt_of_lt_of_le (blk_lt Vo.out) gsg)
    have net_g := Nat.ne_of_lt (Nat.lt_of_lt_of_le (blk_lt Vt.out) gsg)
    have nex_g := Nat.ne_of_lt (Nat.lt_of_lt_of_le (blk_lt Vx.out) gsg)
    have nea_g := Nat.ne_of_lt (Nat.lt_of_lt_of_le (blk_lt Va.out) gsg)
    have neo_b := Nat.ne_of_lt (Nat.lt_of_lt_of_le (blk_lt Vo.out) gsb)
    have net_b := Nat.ne_of_lt (Nat.lt_of_lt_of_le (blk_lt Vt.out) gsb)
    have nex_b := Nat.ne_of_lt (Nat.lt_of_lt_of_le (blk_lt Vx.out) gsb)
    have nea_b := Nat.ne_of_lt (Nat.lt_of_lt_of_le (blk_lt Va.out) gsb)
    have ney_g : sy ≠ sg := blk_ne Vsy Vsg (by decide)
    have ney_b : sy ≠ sb := blk_ne Vsy Vsb (by decide)
    have neg_b : sg ≠ sb := blk_ne Vsg Vsb (by decide)
    have gey := Nat.le_trans HB.out.2 gsy
    have geg := Nat.le_trans HB.out.2 gsg
    have geb := Nat.le_trans HB.out.2 gsb
    replace Vo := Lib.hid (blk_below Vo.out hS (blk_lt Vo.out))
    replace Vt := Lib.hid (blk_below Vt.out hS (blk_lt Vt.out))
    replace Vx := Lib.hid (blk_below Vx.out hS (blk_lt Vx.out))
    replace Va := Lib.hid (blk_below Va.out hS (blk_lt Va.out))
    replace ON1 := Lib.hid (own_below ON1.out hS)
    replace OL1 := Lib.hid (own_below OL1.out hS)
    replace HB := Lib.hid (And.intro (HB.out.1.trans (hS.mono HB.out.2)) (Nat.le_trans HB.out.2 hS.size))
    have ON2 := Lib.hid gf2.1; have OL2 := Lib.hid gf2.2
    clear gf2
    have Vy := Lib.hid Vsy
    clear Vsy
    have Vg := Lib.hid Vsg
    clear Vsg
    have Vb := Lib.hid Vsb
    clear Vsb
    obtain ⟨w8, hw8⟩ : ∃ W, u.setCells (sy) 0 [.int .i64 kd, .int .i64 0, .int .i64 o1, .int .i64 o2, .int .i64 o3, .int .i64 o4, .int .i64 o5, .int .u32 wa, .int .u32 to, .slice A2 n c2, .slice B2 m d2] = W := ⟨_, rfl⟩
    have Vo2 := (hw8 ▸ heap_setCells_ne neo_y [.int .i64 kd, .int .i64 0, .int .i64 o1, .int .i64 o2, .int .i64 o3, .int .i64 o4, .int .i64 o5, .int .u32 wa, .int .u32 to, .slice A2 n c2, .slice B2 m d2] 0 u : w8.heap[w.heap.size]? = _).trans Vo.out
    have Vt2 := (hw8 ▸ heap_setCells_ne net_y [.int .i64 kd, .int .i64 0, .int .i64 o1, .int .i64 o2, .int .i64 o3, .int .i64 o4, .int .i64 o5, .int .u32 wa, .int .u32 to, .slice A2 n c2, .slice B2 m d2] 0 u : w8.heap[w.heap.size + 1]? = _).trans Vt.out
    have Vx2 := (hw8 ▸ heap_setCells_ne nex_y [.int .i64 kd, .int .i64 0, .int .i64 o1, .int .i64 o2, .int .i64 o3, .int .i64 o4, .int .i64 o5, .int .u32 wa, .int .u32 to, .slice A2 n c2, .slice B2 m d2] 0 u : w8.heap[sx]? = _).trans Vx.out
    have Va2 := (hw8 ▸ heap_setCells_ne nea_y [.int .i64 kd, .int .i64 0, .int .i64 o1, .int .i64 o2, .int .i64 o3, .int .i64 o4, .int .i64 o5, .int .u32 wa, .int .u32 to, .slice A2 n c2, .slice B2 m d2] 0 u : w8.heap[sa]? = _).trans Va.out
    have Vg2 := (hw8 ▸ heap_setCells_ne ney_g.symm [.int .i64 kd, .int .i64 0, .int .i64 o1, .int .i64 o2, .int .i64 o3, .int .i64 o4, .int .i64 o5, .int .u32 wa, .int .u32 to, .slice A2 n c2, .slice B2 m d2] 0 u : w8.heap[sg]? = _).trans Vg.out
    have Vb2 := (hw8 ▸ heap_setCells_ne ney_b.symm [.int .i64 kd, .int .i64 0, .int .i64 o1, .int .i64 o2, .int .i64 o3, .int .i64 o4, .int .i64 o5, .int .u32 wa, .int .u32 to, .slice A2 n c2, .slice B2 m d2] 0 u : w8.heap[sb]? = _).trans Vb.out
    have Vy2 : w8.heap[sy]? = some (.cells #[.int .i64 kd, .int .i64 0, .int .i64 o1, .int .i64 o2, .int .i64 o3, .int .i64 o4, .int .i64 o5, .int .u32 wa, .int .u32 to, .slice A2 n c2, .slice B2 m d2] 29) := hw8 ▸ heap_setCells [.int .i64 kd, .int .i64 0, .int .i64 o1, .int .i64 o2, .int .i64 o3, .int .i64 o4, .int .i64 o5, .int .u32 wa, .int .u32 to, .slice A2 n c2, .slice B2 m d2] u [] [.int .i64 0, .int .i64 0, .int .i64 0, .int .i64 0, .int .i64 0, .int .i64 0, .int .i64 0, .int .u32 0, .int .u32 0, .slice none 0 0, .slice none 0 0] rfl Vy.out
    have hbb : Below _ _ w8 := hw8 ▸ below_setCells gey [.int .i64 kd, .int .i64 0, .int .i64 o1, .int .i64 o2, .int .i64 o3, .int .i64 o4, .int .i64 o5, .int .u32 wa, .int .u32 to, .slice A2 n c2, .slice B2 m d2] 0 u HB.out.1
    have hbs : w8.heap.size = u.heap.size := by rw [← hw8, size_setCells]
    have thy := Lib.hid (there_blk Vy.out (k := 11) rfl)
    replace ON1 := Lib.hid (hw8 ▸ own_setCells (by decide) [.int .i64 kd, .int .i64 0, .int .i64 o1, .int .i64 o2, .int .i64 o3, .int .i64 o4, .int .i64 o5, .int .u32 wa, .int .u32 to, .slice A2 n c2, .slice B2 m d2] 0 ON1.out Vy.out)
    replace OL1 := Lib.hid (hw8 ▸ own_setCells (by decide) [.int .i64 kd, .int .i64 0, .int .i64 o1, .int .i64 o2, .int .i64 o3, .int .i64 o4, .int .i64 o5, .int .u32 wa, .int .u32 to, .slice A2 n c2, .slice B2 m d2] 0 OL1.out Vy.out)
    replace ON2 := Lib.hid (hw8 ▸ own_setCells (by decide) [.int .i64 kd, .int .i64 0, .int .i64 o1, .int .i64 o2, .int .i64 o3, .int .i64 o4, .int .i64 o5, .int .u32 wa, .int .u32 to, .slice A2 n c2, .slice B2 m d2] 0 ON2.out Vy.out)
    replace OL2 := Lib.hid (hw8 ▸ own_setCells (by decide) [.int .i64 kd, .int .i64 0, .int .i64 o1, .int .i64 o2, .int .i64 o3, .int .i64 o4, .int .i64 o5, .int .u32 wa, .int .u32 to, .slice A2 n c2, .slice B2 m d2] 0 OL2.out Vy.out)
    replace Vo := Lib.hid Vo2
    clear Vo2
    replace Vt := Lib.hid Vt2
    clear Vt2
    replace Vx := Lib.hid Vx2
    clear Vx2
    replace Va := Lib.hid Va2
    clear Va2
    replace Vy := Lib.hid Vy2
    clear Vy2
    replace Vg := Lib.hid Vg2
    clear Vg2
    replace Vb := Lib.hid Vb2
    clear Vb2
    replace HB := Lib.hid (And.intro hbb (show _ ≤ w8.heap.size by rw [hbs]; exact HB.out.2))
    clear hbb hbs
    refine wpAnyH_ready (rs := [10]) (by kernel_rfl) (by simp) (AllReadyH.cons (o := ⟨none, .store 29 (.tmp 8) (.tmp 35), 0, "law.go:101", #[⟨7, .data⟩, ⟨4, .data⟩, ⟨2, .chain⟩, ⟨0, .phase⟩, ⟨1, .phase⟩, ⟨2, .phase⟩, ⟨3, .phase⟩, ⟨4, .phase⟩, ⟨5, .textOnly .lateStores⟩, ⟨6, .textOnly .lateStores⟩, ⟨7, .phase⟩, ⟨8, .phase⟩, ⟨9, .phase⟩], none⟩) rfl (fun K hK => ?_) AllReadyH.nil)
    refine op_storeS (by rfl) rfl rfl rfl thy.out (by kernel_rfl) (by simp [Value.oneCell']) hw8 ?_
    replace hS := hw8 ▸ below_setCells gsy [.int .i64 kd, .int .i64 0, .int .i64 o1, .int .i64 o2, .int .i64 o3, .int .i64 o4, .int .i64 o5, .int .u32 wa, .int .u32 to, .slice A2 n c2, .slice B2 m d2] 0 _ hS
    obtain ⟨w9, hw9⟩ : ∃ W, w8.setCells (sg) 0 [.int .i64 0, .int .i64 0, .int .i64 0, .int .i64 0, .int .i64 0, .int .i64 0, .bool false, .bool false, .int .i64 0, .bool false] = W := ⟨_, rfl⟩
    have Vo2 := (hw9 ▸ heap_setCells_ne neo_g [.int .i64 0, .int .i64 0, .int .i64 0, .int .i64 0, .int .i64 0, .int .i64 0, .bool false, .bool false, .int .i64 0, .bool false] 0 w8 : w9.heap[w.heap.size]? = _).trans Vo.out
    have Vt2 := (hw9 ▸ heap_setCells_ne net_g [.int .i64 0, .int .i64 0, .int .i64 0, .int .i64 0, .int .i64 0, .int .i64 0, .bool false, .bool false, .int .i64 0, .bool false] 0 w8 : w9.heap[w.heap.size + 1]? = _).trans Vt.out
    have Vx2 := (hw9 ▸ heap_setCells_ne nex_g [.int .i64 0, .int .i64 0, .int .i64 0, .int .i64 0, .int .i64 0, .int .i64 0, .bool false, .bool false, .int .i64 0, .bool false] 0 w8 : w9.heap[sx]? = _).trans Vx.out
    have Va2 := (hw9 ▸ heap_setCells_ne nea_g [.int .i64 0, .int .i64 0, .int .i64 0, .int .i64 0, .int .i64 0, .int .i64 0, .bool false, .bool false, .int .i64 0, .bool false] 0 w8 : w9.heap[sa]? = _).trans Va.out
    have Vy2 := (hw9 ▸ heap_setCells_ne ney_g [.int .i64 0, .int .i64 0, .int .i64 0, .int .i64 0, .int .i64 0, .int .i64 0, .bool false, .bool false, .int .i64 0, .bool false] 0 w8 : w9.heap[sy]? = _).trans Vy.out
    have Vb2 := (hw9 ▸ heap_setCells_ne neg_b.symm [.int .i64 0, .int .i64 0, .int .i64 0, .int .i64 0, .int .i64 0, .int .i64 0, .bool false, .bool false, .int .i64 0, .bool false] 0 w8 : w9.heap[sb]? = _).trans Vb.out
    have Vg2 : w9.heap[sg]? = some (.cells #[.int .i64 0, .int .i64 0, .int .i64 0, .int .i64 0, .int .i64 0, .int .i64 0, .bool false, .bool false, .int .i64 0, .bool false] 31) := hw9 ▸ heap_setCells [.int .i64 0, .int .i64 0, .int .i64 0, .int .i64 0, .int .i64 0, .int .i64 0, .bool false, .bool false, .int .i64 0, .bool false] w8 [] [.int .i64 0, .int .i64 0, .int .i64 0, .int .i64 0, .int .i64 0, .int .i64 0, .bool false, .bool false, .int .i64 0, .bool false] rfl Vg.out
    have hbb : Below _ _ w9 := hw9 ▸ below_setCells geg [.int .i64 0, .int .i64 0, .int .i64 0, .int .i64 0, .int .i64 0, .int .i64 0, .bool false, .bool false, .int .i64 0, .bool false] 0 w8 HB.out.1
    have hbs : w9.heap.size = w8.heap.size := by rw [← hw9, size_setCells]
    have thg := Lib.hid (there_blk Vg.out (k := 10) rfl)
    replace ON1 := Lib.hid (hw9 ▸ own_setCells (by decide) [.int .i64 0, .int .i64 0, .int .i64 0, .int .i64 0, .int .i64 0, .int .i64 0, .bool false, .bool false, .int .i64 0, .bool false] 0 ON1.out Vg.out)
    replace OL1 := Lib.hid (hw9 ▸ own_setCells (by decide) [.int .i64 0, .int .i64 0, .int .i64 0, .int .i64 0, .int .i64 0, .int .i64 0, .bool false, .bool false, .int .i64 0, .bool false] 0 OL1.out Vg.out)
    replace ON2 := Lib.hid (hw9 ▸ own_setCells (by decide) [.int .i64 0, .int .i64 0, .int .i64 0, .int .i64 0, .int .i64 0, .int .i64 0, .bool false, .bool false, .int .i64 0, .bool false] 0 ON2.out Vg.out)
    replace OL2 := Lib.hid (hw9 ▸ own_setCells (by decide) [.int .i64 0, .int .i64 0, .int .i64 0, .int .i64 0, .int .i64 0, .int .i64 0, .bool false, .bool false, .int .i64 0, .bool false] 0 OL2.out Vg.out)
    replace Vo := Lib.hid Vo2
    clear Vo2
    replace Vt := Lib.hid Vt2
    clear Vt2
    replace Vx := Lib.hid Vx2
    clear Vx2
    replace Va := Lib.hid Va2
    clear Va2
    replace Vy := Lib.hid Vy2
    clear Vy2
    replace Vg := Lib.hid Vg2
    clear Vg2
    replace Vb := Lib.hid Vb2
    clear Vb2
    replace HB := Lib.hid (And.intro hbb (show _ ≤ w9.heap.size by rw [hbs]; exact HB.out.2))
    clear hbb hbs
    refine Shut.out hK _ _ hS (fun _ => ?_)
    clear hK K
    try simp only [Act.put, List.setIfInBounds_toArray, List.set_cons_zero, List.set_cons_succ]
    refine wpAnyH_ready (rs := [11]) (by kernel_rfl) (by simp) (AllReadyH.cons (o := ⟨none, .store 31 (.tmp 9) (.tmp 36), 0, "law.go:101", #[⟨8, .data⟩, ⟨5, .data⟩, ⟨10, .chain⟩, ⟨0, .phase⟩, ⟨1, .phase⟩, ⟨2, .phase⟩, ⟨3, .phase⟩, ⟨4, .phase⟩, ⟨5, .phase⟩, ⟨6, .textOnly .lateStores⟩, ⟨7, .phase⟩, ⟨8, .phase⟩, ⟨9, .phase⟩, ⟨10, .phase⟩], none⟩) rfl (fun K hK => ?_) AllReadyH.nil)
    refine op_storeS (by rfl) rfl rfl rfl thg.out (by kernel_rfl) (by simp [Value.oneCell']) hw9 ?_
    replace hS := hw9 ▸ below_setCells gsg [.int .i64 0, .int .i64 0, .int .i64 0, .int .i64 0, .int .i64 0, .int .i64 0, .bool false, .bool false, .int .i64 0, .bool false] 0 _ hS
    obtain ⟨w10, hw10⟩ : ∃ W, w9.setCells (sb) 0 [.bool true, .bool false, .bool false, .int .i64 0, .int .i64 0, .int .u64 0, .slice WA wn wc] = W := ⟨_, rfl⟩
    have Vo2 := (hw10 ▸ heap_setCells_ne neo_b [.bool true, .bool false, .bool false, .int .i64 0, .int .i64 0, .int .u64 0, .slice WA wn wc] 0 w9 : w10.heap[w.heap.size]? = _).trans Vo.out
    have Vt2 := (hw10 ▸ heap_setCells_ne net_b [.bool true, .bool false, .bool false, .int .i64 0, .int .i64 0, .int .u64 0, .slice WA wn wc] 0 w9 : w10.heap[w.heap.size + 1]? = _).trans Vt.out
    have Vx2 := (hw10 ▸ heap_setCells_ne nex_b [.bool true, .bool false, .bool false, .int .i64 0, .int .i64 0, .int .u64 0, .slice WA wn wc] 0 w9 : w10.heap[sx]? = _).trans Vx.out
    have Va2 := (hw10 ▸ heap_setCells_ne nea_b [.bool true, .bool false, .bool false, .int .i64 0, .int .i64 0, .int .u64 0, .slice WA wn wc] 0 w9 : w10.heap[sa]? = _).trans Va.out
    have Vy2 := (hw10 ▸ heap_setCells_ne ney_b [.bool true, .bool false, .bool false, .int .i64 0, .int .i64 0, .int .u64 0, .slice WA wn wc] 0 w9 : w10.heap[sy]? = _).trans Vy.out
    have Vg2 := (hw10 ▸ heap_setCells_ne neg_b [.bool true, .bool false, .bool false, .int .i64 0, .int .i64 0, .int .u64 0, .slice WA wn wc] 0 w9 : w10.heap[sg]? = _).trans Vg.out
    have Vb2 : w10.heap[sb]? = some (.cells #[.bool true, .bool false, .bool false, .int .i64 0, .int .i64 0, .int .u64 0, .slice WA wn wc] 39) := hw10 ▸ heap_setCells [.bool true, .bool false, .bool false, .int .i64 0, .int .i64 0, .int .u64 0, .slice WA wn wc] w9 [] [.bool false, .bool false, .bool false, .int .i64 0, .int .i64 0, .int .u64 0, .slice none 0 0] rfl Vb.out
    have hbb : Below _ _ w10 := hw10 ▸ below_setCells geb [.bool true, .bool false, .bool false, .int .i64 0, .int .i64 0, .int .u64 0, .slice WA wn wc] 0 w9 HB.out.1
    have hbs : w10.heap.size = w9.heap.size := by rw [← hw10, size_setCells]
    have thb := Lib.hid (there_blk Vb.out (k := 7) rfl)
    replace ON1 := Lib.hid (hw10 ▸ own_setCells (by decide) [.bool true, .bool false, .bool false, .int .i64 0, .int .i64 0, .int .u64 0, .slice WA wn wc] 0 ON1.out Vb.out)
    replace OL1 := Lib.hid (hw10 ▸ own_setCells (by decide) [.bool true, .bool false, .bool false, .int .i64 0, .int .i64 0, .int .u64 0, .slice WA wn wc] 0 OL1.out Vb.out)
    replace ON2 := Lib.hid (hw10 ▸ own_setCells (by decide) [.bool true, .bool false, .bool false, .int .i64 0, .int .i64 0, .int .u64 0, .slice WA wn wc] 0 ON2.out Vb.out)
    replace OL2 := Lib.hid (hw10 ▸ own_setCells (by decide) [.bool true, .bool false, .bool false, .int .i64 0, .int .i64 0, .int .u64 0, .slice WA wn wc] 0 OL2.out Vb.out)
    replace Vo := Lib.hid Vo2
    clear Vo2
    replace Vt := Lib.hid Vt2
    clear Vt2
    replace Vx := Lib.hid Vx2
    clear Vx2
    replace Va := Lib.hid Va2
    clear Va2
    replace Vy := Lib.hid Vy2
    clear Vy2
    replace Vg := Lib.hid Vg2
    clear Vg2
    replace Vb := Lib.hid Vb2
    clear Vb2
    replace HB := Lib.hid (And.intro hbb (show _ ≤ w10.heap.size by rw [hbs]; exact HB.out.2))
    clear hbb hbs
    refine Shut.out hK _ _ hS (fun _ => ?_)
    clear hK K
    try simp only [Act.put, List.setIfInBounds_toArray, List.set_cons_zero, List.set_cons_succ]
    refine wpAnyH_ready (rs := [12]) (by kernel_rfl) (by simp) (AllReadyH.cons (o := ⟨none, .store 39 (.tmp 10) (.tmp 37), 0, "law.go:101", #[⟨9, .data⟩, ⟨6, .data⟩, ⟨11, .chain⟩, ⟨0, .phase⟩, ⟨1, .phase⟩, ⟨2, .phase⟩, ⟨3, .phase⟩, ⟨4, .phase⟩, ⟨5, .phase⟩, ⟨6, .phase⟩, ⟨7, .phase⟩, ⟨8, .phase⟩, ⟨9, .phase⟩, ⟨10, .phase⟩, ⟨11, .phase⟩], none⟩) rfl (fun K hK => ?_) AllReadyH.nil)
    refine op_storeS (by rfl) rfl rfl rfl thb.out (by kernel_rfl) (by simp [Value.oneCell']) hw10 ?_
    replace hS := hw10 ▸ below_setCells gsb [.bool true, .bool false, .bool false, .int .i64 0, .int .i64 0, .int .u64 0, .slice WA wn wc] 0 _ hS
    refine Shut.out hK _ _ hS (fun _ => ?_)
    clear hK K
    try simp only [Act.put, List.setIfInBounds_toArray, List.set_cons_zero, List.set_cons_succ]
    refine wpAnyH_done (by kernel_rfl) ?_ _
    refine NoPanic.normal ?_
    clear hS gsy gsg gsb thy thg thb
    clear Vg
    go_wp2
    refine wp_region_noPanic ?_
    refine wp_region_held_drew (S := (fun wv => Below w10.heap.size w10 wv)) (by kernel_rfl) ((Below.refl w10.heap.size w10).drew) (fun hS => ?_)
    refine wpAnyH_take (i := 0) (oi := ⟨some 39, .load 29 (.tmp 8), 29, "law.go:102", #[], none⟩) (v := .agg (([.int .i64 kd, .int .i64 0, .int .i64 o1, .int .i64 o2, .int .i64 o3, .int .i64 o4, .int .i64 o5, .int .u32 wa, .int .u32 to, .slice A2 n c2, .slice B2 m d2] : List Value)).toArray) rfl (by kernel_rfl) (by kernel_rfl) (by kernel_rfl) (fun _ _ _ h => h) (yieldsIf_load_mid (by rfl) _ _ (by rfl) (sy) (0) (by rfl) (([.int .i64 kd, .int .i64 0, .int .i64 o1, .int .i64 o2, .int .i64 o3, .int .i64 o4, .int .i64 o5, .int .u32 wa, .int .u32 to, .slice A2 n c2, .slice B2 m d2] : List Value)) _ (fun wv hS => blk_rngl (blk_below Vy.out hS (blk_lt Vy.out))) Try.underlying29 (by rfl) (by kernel_rfl)) hS ?_
    try simp only [Act.put, List.setIfInBounds_toArray, List.set_cons_zero, List.set_cons_succ]
    refine inv_region (fun a0 fu listed a u => ∃ (cq0 cq1 xq0 xq1 xq2 : Bool) (v40 v41 v38 v42 v43 v44 p11 p12 p13 : Value) (sz sh sc : Nat) (A3 : Option Addr) (c3 : Nat) (B3 : Option Addr) (d3 : Nat), listed = #[true, cq0, cq1, cq1, cq1, cq1, cq1, xq0, xq1, xq2, false, false, false] ∧ a = ⟨(((((((((a0.tmps.setIfInBounds 40 v40).setIfInBounds 41 v41).setIfInBounds 38 v38).setIfInBounds 42 v42).setIfInBounds 43 v43).setIfInBounds 44 v44).setIfInBounds 11 p11).setIfInBounds 12 p12).setIfInBounds 13 p13), a0.defers⟩ ∧ (bif cq0 then 0 else 1) + (bif cq1 then 0 else 5) + (bif xq0 then 0 else 1) + (bif xq1 then 0 else 1) + (bif xq2 then 0 else 1) + 3 ≤ fu ∧ (cq1 = true → cq0 = true) ∧ Below w10.heap.size w10 u ∧ (cq0 = true → v40 = .agg #[.int .i64 27, .int .i64 0, .int .i64 0, .int .i64 0, .int .i64 (-1), .int .i64 0, .bool false, .bool false, .int .i64 0, .bool false]) ∧ (cq1 = true → v42 = .agg #[.int .i64 kd, .int .i64 0, .int .i64 o1, .int .i64 o2, .int .i64 o3, .int .i64 o4, .int .i64 o5, .int .u32 wa, .int .u32 to, .slice A3 n c3, .slice B3 m d3]) ∧ (cq1 = true → v43 = .agg #[.int .i64 0, .int .i64 0, .int .i64 0, .int .i64 0, .int .i64 0, .int .i64 0, .bool false, .bool false, .int .i64 0, .bool false]) ∧ (cq1 = true → v44 = .agg #[.bool false, .bool false, .bool false, .int .i64 0, .int .i64 1, .int .u64 0, .slice WA wn wc]) ∧ (xq0 = true → p11 = .pointer (some ⟨sz, 0, none⟩) ∧ w10.heap.size ≤ sz ∧ u.heap[sz]? = some (.cells #[.int .i64 0, .int .i64 0, .int .i64 0, .int .i64 0, .int .i64 0, .int .i64 0, .int .i64 0, .int .u32 0, .int .u32 0, .slice none 0 0, .slice none 0 0] 29)) ∧ (xq1 = true → p12 = .pointer (some ⟨sh, 0, none⟩) ∧ w10.heap.size ≤ sh ∧ u.heap[sh]? = some (.cells #[.int .i64 0, .int .i64 0, .int .i64 0, .int .i64 0, .int .i64 0, .int .i64 0, .bool false, .bool false, .int .i64 0, .bool false] 31)) ∧ (xq2 = true → p13 = .pointer (some ⟨sc, 0, none⟩) ∧ w10.heap.size ≤ sc ∧ u.heap[sc]? = some (.cells #[.bool false, .bool false, .bool false, .int .i64 0, .int .i64 0, .int .u64 0, .slice none 0 0] 39)) ∧ (cq1 = true → (u.ownsRow w10.heap.size 69 2 (.slice A3 n c3) n (wtC nl) ∧ u.ownsRow w10.heap.size 64 2 (.slice B3 m d3) m (clC ll)))) ⟨false, false, false, false, false, undef, undef, undef, undef, undef, undef, undef, undef, undef, 0, 0, 0, none, 0, none, 0, rfl, (by first | (simp only [List.setIfInBounds_toArray, List.set_cons_zero, List.set_cons_succ]; done) | rfl), (by show _ + _ ≤ _; decide), (fun h => nomatch h), hS, (fun h => nomatch h), (fun h => nomatch h), (fun h => nomatch h), (fun h => nomatch h), (fun h => nomatch h), (fun h => nomatch h), (fun h => nomatch h), (fun h => nomatch h)⟩ ?_
    clear hS; rintro fu listed a u ⟨cq0, cq1, xq0, xq1, xq2, v40, v41, v38, v42, v43, v44, p11, p12, p13, sz, sh, sc, A3, c3, B3, d3, rfl, rfl, hn, hc0, hS, h40, h42, h43, h44, ksz, ksh, ksc, gf2⟩ IH
    try simp only [List.setIfInBounds_toArray, List.set_cons_zero, List.set_cons_succ]
    by_cases hall : (cq0 && (cq1 && (xq0 && (xq1 && (xq2))))) = true
    rotate_left
    · have hbad : ((cq1 && !cq0) || ((cq0 && (cq1 && (xq0 && (xq1 && (xq2))))))) = false := inv_or (inv_imp hc0) (inv_not hall)
      obtain ⟨fu, rfl⟩ : ∃ m, fu = m + 1 := ⟨fu - 1, by omega⟩
      refine inv_step (bad := ((cq1 && !cq0) || ((cq0 && (cq1 && (xq0 && (xq1 && (xq2)))))))) (fun i => ((i == 1 && !cq0) || ((i == 2 && (cq0 && !cq1)) || ((i == 7 && !xq0) || ((i == 8 && !xq1) || ((i == 9 && !xq2))))))) ((show ∀ cq0 cq1 xq0 xq1 xq2 : Bool, (((cq1 && !cq0) || ((cq0 && (cq1 && (xq0 && (xq1 && (xq2))))))) || (!(Region.ready _ _ #[true, cq0, cq1, cq1, cq1, cq1, cq1, xq0, xq1, xq2, false, false, false]).isEmpty && (Region.ready _ _ #[true, cq0, cq1, cq1, cq1, cq1, cq1, xq0, xq1, xq2, false, false, false]).all (fun i => ((i == 1 && !cq0) || ((i == 2 && (cq0 && !cq1)) || ((i == 7 && !xq0) || ((i == 8 && !xq1) || ((i == 9 && !xq2))))))))) = true from by intro cq0 cq1 xq0 xq1 xq2; cases cq0 <;> cases cq1 <;> cases xq0 <;> cases xq1 <;> cases xq2 <;> kernel_rfl) cq0 cq1 xq0 xq1 xq2) hbad (fun i hi => ?_)
      simp only [Bool.or_eq_true, Bool.and_eq_true, beq_iff_eq, Bool.not_eq_true'] at hi
      clear hall hbad
      rcases hi with ⟨rfl, rfl⟩ | ⟨rfl, rfl, rfl⟩ | ⟨rfl, rfl⟩ | ⟨rfl, rfl⟩ | ⟨rfl, rfl⟩
      · skip
        refine inv_arm (o := ⟨some 40, .call { callee := .value (.func 18), args := #[.const (Value.int IntKind.i64 27)], argTypes := #[3] }, 31, "law.go:102", #[], none⟩) rfl (fun K hK => ?_)
        go_simp
        go_wp2_with fail
        refine (N2.out _).mono ?_; rintro e u1 ⟨rfl, hb⟩
        replace hS := hS.trans (hb.mono hS.size)
        refine Shut.out hK _ _ hS (fun _ => ?_)
        clear hK K
        try simp only [Act.put, List.setIfInBounds_toArray, List.set_cons_zero, List.set_cons_succ]
        exact IH _ _ _ _ (by omega) ⟨true, cq1, xq0, xq1, xq2, _, v41, v38, v42, v43, v44, p11, p12, p13, sz, sh, sc, A3, c3, B3, d3, rfl, (by (try simp only [List.setIfInBounds_toArray, List.set_cons_zero, List.set_cons_succ]); try rfl), (by simp only [cond_true, cond_false] at hn ⊢; omega), (fun _ => rfl), hS, (fun _ => rfl), h42, h43, h44, (fun h => ⟨(ksz h).1, (ksz h).2.1, blk_below (ksz h).2.2 hb (blk_lt (ksz h).2.2)⟩), (fun h => ⟨(ksh h).1, (ksh h).2.1, blk_below (ksh h).2.2 hb (blk_lt (ksh h).2.2)⟩), (fun h => ⟨(ksc h).1, (ksc h).2.1, blk_below (ksc h).2.2 hb (blk_lt (ksc h).2.2)⟩), (fun h => ⟨own_below (gf2 h).1 hb, own_below (gf2 h).2 hb⟩)⟩
      · skip
        obtain rfl := h40 rfl
        refine inv_arm (o := ⟨some 41, .call { callee := .value (.func 16), args := #[.tmp 39, .tmp 40], argTypes := #[29, 31] }, 40, "law.go:102", #[⟨0, .data⟩, ⟨1, .data⟩, ⟨1, .chain⟩], none⟩) rfl (fun K hK => ?_)
        go_simp
        go_wp2_with fail
        have zs := hS.size
        refine (K3.out _ _ _ _ _ (Es.below (own_wts ON2.out) hS) (Es.below (own_cls OL2.out) hS)).mono ?_
        rintro e u2 ⟨A3, c3, B3, d3, rfl, hon, hol, hb⟩
        replace hon := own_base hon zs
        replace hol := own_base hol zs
        replace hS := hS.trans (hb.mono hS.size)
        obtain ⟨fu, rfl⟩ : ∃ m, fu = m + 4 := ⟨fu - 4, by simp only [cond_true, cond_false] at hn; omega⟩
        refine Shut.out hK _ _ hS (fun _ => ?_)
        clear hK K
        try simp only [Act.put, List.setIfInBounds_toArray, List.set_cons_zero, List.set_cons_succ]
        refine wpAnyH_take (i := 3) (oi := ⟨some 38, .move (.tmp 41), 40, "law.go:102", #[⟨2, .data⟩], none⟩) (v := ?_) rfl (by kernel_rfl) ((show ∀ xq0 xq1 xq2 : Bool, Region.free _ _ #[true, true, true, false, false, false, false, xq0, xq1, xq2, false, false, false] 3 = true from by intro xq0 xq1 xq2; cases xq0 <;> cases xq1 <;> cases xq2 <;> kernel_rfl) xq0 xq1 xq2) ((show ∀ xq0 xq1 xq2 : Bool, (Region.ready _ _ #[true, true, true, false, false, false, false, xq0, xq1, xq2, false, false, false]).contains 3 = true from by intro xq0 xq1 xq2; cases xq0 <;> cases xq1 <;> cases xq2 <;> kernel_rfl) xq0 xq1 xq2) (fun _ _ _ h => h) (Or.inl ⟨by rfl, ?_⟩) hS ?_
        rotate_left
        · intro wv _; go_simp; try with_reducible rfl
        try simp only [Act.put, List.setIfInBounds_toArray, List.set_cons_zero, List.set_cons_succ]
        refine wpAnyH_take (i := 4) (oi := ⟨some 42, .extract (.tmp 38) 0, 29, "law.go:102", #[⟨3, .data⟩], none⟩) (v := ?_) rfl (by kernel_rfl) ((show ∀ xq0 xq1 xq2 : Bool, Region.free _ _ #[true, true, true, true, false, false, false, xq0, xq1, xq2, false, false, false] 4 = true from by intro xq0 xq1 xq2; cases xq0 <;> cases xq1 <;> cases xq2 <;> kernel_rfl) xq0 xq1 xq2) ((show ∀ xq0 xq1 xq2 : Bool, (Region.ready _ _ #[true, true, true, true, false, false, false, xq0, xq1, xq2, false, false, false]).contains 4 = true from by intro xq0 xq1 xq2; cases xq0 <;> cases xq1 <;> cases xq2 <;> kernel_rfl) xq0 xq1 xq2) (fun _ _ _ h => h) (Or.inl ⟨by rfl, ?_⟩) hS ?_
        rotate_left
        · intro wv _; go_simp; try with_reducible rfl
        try simp only [Act.put, List.setIfInBounds_toArray, List.set_cons_zero, List.set_cons_succ]
        refine wpAnyH_take (i := 5) (oi := ⟨some 43, .extract (.tmp 38) 1, 31, "law.go:102", #[⟨3, .data⟩, ⟨10, .gcOnly .lateStores⟩], none⟩) (v := ?_) rfl (by kernel_rfl) ((show ∀ xq0 xq1 xq2 : Bool, Region.free _ _ #[true, true, true, true, true, false, false, xq0, xq1, xq2, false, false, false] 5 = true from by intro xq0 xq1 xq2; cases xq0 <;> cases xq1 <;> cases xq2 <;> kernel_rfl) xq0 xq1 xq2) ((show ∀ xq0 xq1 xq2 : Bool, (Region.ready _ _ #[true, true, true, true, true, false, false, xq0, xq1, xq2, false, false, false]).contains 5 = true from by intro xq0 xq1 xq2; cases xq0 <;> cases xq1 <;> cases xq2 <;> kernel_rfl) xq0 xq1 xq2) (fun _ _ _ h => h) (Or.inl ⟨by rfl, ?_⟩) hS ?_
        rotate_left
        · intro wv _; go_simp; try with_reducible rfl
        try simp only [Act.put, List.setIfInBounds_toArray, List.set_cons_zero, List.set_cons_succ]
        refine wpAnyH_take (i := 6) (oi := ⟨some 44, .extract (.tmp 38) 2, 39, "law.go:102", #[⟨3, .data⟩, ⟨11, .gcOnly .lateStores⟩], none⟩) (v := ?_) rfl (by kernel_rfl) ((show ∀ xq0 xq1 xq2 : Bool, Region.free _ _ #[true, true, true, true, true, true, false, xq0, xq1, xq2, false, false, false] 6 = true from by intro xq0 xq1 xq2; cases xq0 <;> cases xq1 <;> cases xq2 <;> kernel_rfl) xq0 xq1 xq2) ((show ∀ xq0 xq1 xq2 : Bool, (Region.ready _ _ #[true, true, true, true, true, true, false, xq0, xq1, xq2, false, false, false]).contains 6 = true from by intro xq0 xq1 xq2; cases xq0 <;> cases xq1 <;> cases xq2 <;> kernel_rfl) xq0 xq1 xq2) (fun _ _ _ h => h) (Or.inl ⟨by rfl, ?_⟩) hS ?_
        rotate_left
        · intro wv _; go_simp; try with_reducible rfl
        try simp only [Act.put, List.setIfInBounds_toArray, List.set_cons_zero, List.set_cons_succ]
        exact IH _ _ _ _ (by omega) ⟨true, true, xq0, xq1, xq2, _, _, _, _, _, _, p11, p12, p13, sz, sh, sc, A3, c3, B3, d3, rfl, (by (try simp only [List.setIfInBounds_toArray, List.set_cons_zero, List.set_cons_succ]); try rfl), (by simp only [cond_true, cond_false] at hn ⊢; omega), (fun _ => rfl), hS, (fun _ => rfl), (fun _ => rfl), (fun _ => rfl), (fun _ => rfl), (fun h => ⟨(ksz h).1, (ksz h).2.1, blk_below (ksz h).2.2 hb (blk_lt (ksz h).2.2)⟩), (fun h => ⟨(ksh h).1, (ksh h).2.1, blk_below (ksh h).2.2 hb (blk_lt (ksh h).2.2)⟩), (fun h => ⟨(ksc h).1, (ksc h).2.1, blk_below (ksc h).2.2 hb (blk_lt (ksc h).2.2)⟩), (fun _ => ⟨hon, hol⟩)⟩
      · skip
        refine inv_arm (o := ⟨some 11, .alloc 29, 0, "law.go:102", #[], none⟩) rfl (fun K hK => ?_)
        go_simp
        have zs := hS.size
        have hb := (Below.refl u.heap.size u).alloc (Nat.le_refl _) (.cells #[.int .i64 0, .int .i64 0, .int .i64 0, .int .i64 0, .int .i64 0, .int .i64 0, .int .i64 0, .int .u32 0, .int .u32 0, .slice none 0 0, .slice none 0 0] 29)
        replace hS := hS.trans (hb.mono hS.size)
        refine Shut.out hK _ _ hS (fun _ => ?_)
        clear hK K
        try simp only [Act.put, List.setIfInBounds_toArray, List.set_cons_zero, List.set_cons_succ]
        exact IH _ _ _ _ (by omega) ⟨cq0, cq1, true, xq1, xq2, v40, v41, v38, v42, v43, v44, _, p12, p13, u.heap.size, sh, sc, A3, c3, B3, d3, rfl, (by (try simp only [List.setIfInBounds_toArray, List.set_cons_zero, List.set_cons_succ]); try rfl), (by simp only [cond_true, cond_false] at hn ⊢; omega), hc0, hS, h40, h42, h43, h44, (fun _ => ⟨rfl, zs, heap_alloc_new _ _⟩), (fun h => ⟨(ksh h).1, (ksh h).2.1, blk_below (ksh h).2.2 hb (blk_lt (ksh h).2.2)⟩), (fun h => ⟨(ksc h).1, (ksc h).2.1, blk_below (ksc h).2.2 hb (blk_lt (ksc h).2.2)⟩), (fun h => ⟨own_below (gf2 h).1 hb, own_below (gf2 h).2 hb⟩)⟩
      · skip
        refine inv_arm (o := ⟨some 12, .alloc 31, 0, "law.go:102", #[], none⟩) rfl (fun K hK => ?_)
        go_simp
        have zs := hS.size
        have hb := (Below.refl u.heap.size u).alloc (Nat.le_refl _) (.cells #[.int .i64 0, .int .i64 0, .int .i64 0, .int .i64 0, .int .i64 0, .int .i64 0, .bool false, .bool false, .int .i64 0, .bool false] 31)
        replace hS := hS.trans (hb.mono hS.size)
        refine Shut.out hK _ _ hS (fun _ => ?_)
        clear hK K
        try simp only [Act.put, List.setIfInBounds_toArray, List.set_cons_zero, List.set_cons_succ]
        exact IH _ _ _ _ (by omega) ⟨cq0, cq1, xq0, true, xq2, v40, v41, v38, v42, v43, v44, p11, _, p13, sz, u.heap.size, sc, A3, c3, B3, d3, rfl, (by (try simp only [List.setIfInBounds_toArray, List.set_cons_zero, List.set_cons_succ]); try rfl), (by simp only [cond_true, cond_false] at hn ⊢; omega), hc0, hS, h40, h42, h43, h44, (fun h => ⟨(ksz h).1, (ksz h).2.1, blk_below (ksz h).2.2 hb (blk_lt (ksz h).2.2)⟩), (fun _ => ⟨rfl, zs, heap_alloc_new _ _⟩), (fun h => ⟨(ksc h).1, (ksc h).2.1, blk_below (ksc h).2.2 hb (blk_lt (ksc h).2.2)⟩), (fun h => ⟨own_below (gf2 h).1 hb, own_below (gf2 h).2 hb⟩)⟩
      · skip
        refine inv_arm (o := ⟨some 13, .alloc 39, 0, "law.go:102", #[], none⟩) rfl (fun K hK => ?_)
        go_simp
        have zs := hS.size
        have hb := (Below.refl u.heap.size u).alloc (Nat.le_refl _) (.cells #[.bool false, .bool false, .bool false, .int .i64 0, .int .i64 0, .int .u64 0, .slice none 0 0] 39)
        replace hS := hS.trans (hb.mono hS.size)
        refine Shut.out hK _ _ hS (fun _ => ?_)
        clear hK K
        try simp only [Act.put, List.setIfInBounds_toArray, List.set_cons_zero, List.set_cons_succ]
        exact IH _ _ _ _ (by omega) ⟨cq0, cq1, xq0, xq1, true, v40, v41, v38, v42, v43, v44, p11, p12, _, sz, sh, u.heap.size, A3, c3, B3, d3, rfl, (by (try simp only [List.setIfInBounds_toArray, List.set_cons_zero, List.set_cons_succ]); try rfl), (by simp only [cond_true, cond_false] at hn ⊢; omega), hc0, hS, h40, h42, h43, h44, (fun h => ⟨(ksz h).1, (ksz h).2.1, blk_below (ksz h).2.2 hb (blk_lt (ksz h).2.2)⟩), (fun h => ⟨(ksh h).1, (ksh h).2.1, blk_below (ksh h).2.2 hb (blk_lt (ksh h).2.2)⟩), (fun _ => ⟨rfl, zs, heap_alloc_new _ _⟩), (fun h => ⟨own_below (gf2 h).1 hb, own_below (gf2 h).2 hb⟩)⟩
    simp only [Bool.and_eq_true] at hall
    obtain ⟨rfl, rfl, rfl, rfl, rfl⟩ := hall
    obtain rfl := h40 rfl
    obtain rfl := h42 rfl
    obtain rfl := h43 rfl
    obtain rfl := h44 rfl
    obtain ⟨rfl, gsz, Vsz⟩ := ksz rfl
    obtain ⟨rfl, gsh, Vsh⟩ := ksh rfl
    obtain ⟨rfl, gsc, Vsc⟩ := ksc rfl
    replace gf2 := gf2 rfl
    obtain ⟨fu, rfl⟩ : ∃ m, fu = m + 3 := ⟨fu - 3, by simp only [cond_true] at hn; omega⟩
    clear IH hn hc0
    have neo_z := Nat.ne_of_lt (Nat.lt_of_lt_of_le (blk_lt Vo.out) gsz)
    have net_z := Nat.ne_of_lt (Nat.lt_of_lt_of_le (blk_lt Vt.out) gsz)
    have nex_z := Nat.ne_of_lt (Nat.lt_of_lt_of_le (blk_lt Vx.out) gsz)
    have nea_z := Nat.ne_of_lt (Nat.lt_of_lt_of_le (blk_lt Va.out) gsz)
    have ney_z := Nat.ne_of_lt (Nat.lt_of_lt_of_le (blk_lt Vy.out) gsz)
    have neb_z := Nat.ne_of_lt (Nat.lt_of_lt_of_le (blk_lt Vb.out) gsz)
    have neo_h := Nat.ne_of_lt (Nat.lt_of_lt_of_le (blk_lt Vo.out) gsh)
    have net_h := Nat.ne_of_lt (Nat.lt_of_lt_of_le (blk_lt Vt.out) gsh)
    have nex_h := Nat.ne_of_lt (Nat.lt_of_lt_of_le (blk_lt Vx.out) gsh)
    have nea_h := Nat.ne_of_lt (Nat.lt_of_lt_of_le (blk_lt Va.out) gsh)
    have ney_h := Nat.ne_of_lt (Nat.lt_of_lt_of_le (blk_lt Vy.out) gsh)
    have neb_h := Nat.ne_of_lt (Nat.lt_of_lt_of_le (blk_lt Vb.out) gsh)
    have neo_c := Nat.ne_of_lt (Nat.lt_of_lt_of_le (blk_lt Vo.out) gsc)
    have net_c := Nat.ne_of_lt (Nat.lt_of_lt_of_le (blk_lt Vt.out) gsc)
    have nex_c := Nat.ne_of_lt (Nat.lt_of_lt_of_le (blk_lt Vx.out) gsc)
    have nea_c := Nat.ne_of_lt (Nat.lt_of_lt_of_le (blk_lt Va.out) gsc)
    have ney_c := Nat.ne_of_lt (Nat.lt_of_lt_of_le (blk_lt Vy.out) gsc)
    have neb_c := Nat.ne_of_lt (Nat.lt_of_lt_of_le (blk_lt Vb.out) gsc)
    have nez_h : sz ≠ sh := blk_ne Vsz Vsh (by decide)
    have nez_c : sz ≠ sc := blk_ne Vsz Vsc (by decide)
    have neh_c : sh ≠ sc := blk_ne Vsh Vsc (by decide)
    have gez := Nat.le_trans HB.out.2 gsz
    have geh := Nat.le_trans HB.out.2 gsh
    have gec := Nat.le_trans HB.out.2 gsc
    replace Vo := Lib.hid (blk_below Vo.out hS (blk_lt Vo.out))
    replace Vt := Lib.hid (blk_below Vt.out hS (blk_lt Vt.out))
    replace Vx := Lib.hid (blk_below Vx.out hS (blk_lt Vx.out))
    replace Va := Lib.hid (blk_below Va.out hS (blk_lt Va.out))
    replace Vy := Lib.hid (blk_below Vy.out hS (blk_lt Vy.out))
    replace Vb := Lib.hid (blk_below Vb.out hS (blk_lt Vb.out))
    replace ON1 := Lib.hid (own_below ON1.out hS)
    replace OL1 := Lib.hid (own_below OL1.out hS)
    replace ON2 := Lib.hid (own_below ON2.out hS)
    replace OL2 := Lib.hid (own_below OL2.out hS)
    replace HB := Lib.hid (And.intro (HB.out.1.trans (hS.mono HB.out.2)) (Nat.le_trans HB.out.2 hS.size))
    have ON3 := Lib.hid gf2.1; have OL3 := Lib.hid gf2.2
    clear gf2
    have Vz := Lib.hid Vsz
    clear Vsz
    have Vh := Lib.hid Vsh
    clear Vsh
    have Vc := Lib.hid Vsc
    clear Vsc
    obtain ⟨w11, hw11⟩ : ∃ W, u.setCells (sz) 0 [.int .i64 kd, .int .i64 0, .int .i64 o1, .int .i64 o2, .int .i64 o3, .int .i64 o4, .int .i64 o5, .int .u32 wa, .int .u32 to, .slice A3 n c3, .slice B3 m d3] = W := ⟨_, rfl⟩
    have Vo2 := (hw11 ▸ heap_setCells_ne neo_z [.int .i64 kd, .int .i64 0, .int .i64 o1, .int .i64 o2, .int .i64 o3, .int .i64 o4, .int .i64 o5, .int .u32 wa, .int .u32 to, .slice A3 n c3, .slice B3 m d3] 0 u : w11.heap[w.heap.size]? = _).trans Vo.out
    have Vt2 := (hw11 ▸ heap_setCells_ne net_z [.int .i64 kd, .int .i64 0, .int .i64 o1, .int .i64 o2, .int .i64 o3, .int .i64 o4, .int .i64 o5, .int .u32 wa, .int .u32 to, .slice A3 n c3, .slice B3 m d3] 0 u : w11.heap[w.heap.size + 1]? = _).trans Vt.out
    have Vx2 := (hw11 ▸ heap_setCells_ne nex_z [.int .i64 kd, .int .i64 0, .int .i64 o1, .int .i64 o2, .int .i64 o3, .int .i64 o4, .int .i64 o5, .int .u32 wa, .int .u32 to, .slice A3 n c3, .slice B3 m d3] 0 u : w11.heap[sx]? = _).trans Vx.out
    have Va2 := (hw11 ▸ heap_setCells_ne nea_z [.int .i64 kd, .int .i64 0, .int .i64 o1, .int .i64 o2, .int .i64 o3, .int .i64 o4, .int .i64 o5, .int .u32 wa, .int .u32 to, .slice A3 n c3, .slice B3 m d3] 0 u : w11.heap[sa]? = _).trans Va.out
    have Vy2 := (hw11 ▸ heap_setCells_ne ney_z [.int .i64 kd, .int .i64 0, .int .i64 o1, .int .i64 o2, .int .i64 o3, .int .i64 o4, .int .i64 o5, .int .u32 wa, .int .u32 to, .slice A3 n c3, .slice B3 m d3] 0 u : w11.heap[sy]? = _).trans Vy.out
    have Vb2 := (hw11 ▸ heap_setCells_ne neb_z [.int .i64 kd, .int .i64 0, .int .i64 o1, .int .i64 o2, .int .i64 o3, .int .i64 o4, .int .i64 o5, .int .u32 wa, .int .u32 to, .slice A3 n c3, .slice B3 m d3] 0 u : w11.heap[sb]? = _).trans Vb.out
    have Vh2 := (hw11 ▸ heap_setCells_ne nez_h.symm [.int .i64 kd, .int .i64 0, .int .i64 o1, .int .i64 o2, .int .i64 o3, .int .i64 o4, .int .i64 o5, .int .u32 wa, .int .u32 to, .slice A3 n c3, .slice B3 m d3] 0 u : w11.heap[sh]? = _).trans Vh.out
    have Vc2 := (hw11 ▸ heap_setCells_ne nez_c.symm [.int .i64 kd, .int .i64 0, .int .i64 o1, .int .i64 o2, .int .i64 o3, .int .i64 o4, .int .i64 o5, .int .u32 wa, .int .u32 to, .slice A3 n c3, .slice B3 m d3] 0 u : w11.heap[sc]? = _).trans Vc.out
    have Vz2 : w11.heap[sz]? = some (.cells #[.int .i64 kd, .int .i64 0, .int .i64 o1, .int .i64 o2, .int .i64 o3, .int .i64 o4, .int .i64 o5, .int .u32 wa, .int .u32 to, .slice A3 n c3, .slice B3 m d3] 29) := hw11 ▸ heap_setCells [.int .i64 kd, .int .i64 0, .int .i64 o1, .int .i64 o2, .int .i64 o3, .int .i64 o4, .int .i64 o5, .int .u32 wa, .int .u32 to, .slice A3 n c3, .slice B3 m d3] u [] [.int .i64 0, .int .i64 0, .int .i64 0, .int .i64 0, .int .i64 0, .int .i64 0, .int .i64 0, .int .u32 0, .int .u32 0, .slice none 0 0, .slice none 0 0] rfl Vz.out
    have hbb : Below _ _ w11 := hw11 ▸ below_setCells gez [.int .i64 kd, .int .i64 0, .int .i64 o1, .int .i64 o2, .int .i64 o3, .int .i64 o4, .int .i64 o5, .int .u32 wa, .int .u32 to, .slice A3 n c3, .slice B3 m d3] 0 u HB.out.1
    have hbs : w11.heap.size = u.heap.size := by rw [← hw11, size_setCells]
    have thz := Lib.hid (there_blk Vz.out (k := 11) rfl)
    replace ON1 := Lib.hid (hw11 ▸ own_setCells (by decide) [.int .i64 kd, .int .i64 0, .int .i64 o1, .int .i64 o2, .int .i64 o3, .int .i64 o4, .int .i64 o5, .int .u32 wa, .int .u32 to, .slice A3 n c3, .slice B3 m d3] 0 ON1.out Vz.out)
    replace OL1 := Lib.hid (hw11 ▸ own_setCells (by decide) [.int .i64 kd, .int .i64 0, .int .i64 o1, .int .i64 o2, .int .i64 o3, .int .i64 o4, .int .i64 o5, .int .u32 wa, .int .u32 to, .slice A3 n c3, .slice B3 m d3] 0 OL1.out Vz.out)
    replace ON2 := Lib.hid (hw11 ▸ own_setCells (by decide) [.int .i64 kd, .int .i64 0, .int .i64 o1, .int .i64 o2, .int .i64 o3, .int .i64 o4, .int .i64 o5, .int .u32 wa, .int .u32 to, .slice A3 n c3, .slice B3 m d3] 0 ON2.out Vz.out)
    replace OL2 := Lib.hid (hw11 ▸ own_setCells (by decide) [.int .i64 kd, .int .i64 0, .int .i64 o1, .int .i64 o2, .int .i64 o3, .int .i64 o4, .int .i64 o5, .int .u32 wa, .int .u32 to, .slice A3 n c3, .slice B3 m d3] 0 OL2.out Vz.out)
    replace ON3 := Lib.hid (hw11 ▸ own_setCells (by decide) [.int .i64 kd, .int .i64 0, .int .i64 o1, .int .i64 o2, .int .i64 o3, .int .i64 o4, .int .i64 o5, .int .u32 wa, .int .u32 to, .slice A3 n c3, .slice B3 m d3] 0 ON3.out Vz.out)
    replace OL3 := Lib.hid (hw11 ▸ own_setCells (by decide) [.int .i64 kd, .int .i64 0, .int .i64 o1, .int .i64 o2, .int .i64 o3, .int .i64 o4, .int .i64 o5, .int .u32 wa, .int .u32 to, .slice A3 n c3, .slice B3 m d3] 0 OL3.out Vz.out)
    replace Vo := Lib.hid Vo2
    clear Vo2
    replace Vt := Lib.hid Vt2
    clear Vt2
    replace Vx := Lib.hid Vx2
    clear Vx2
    replace Va := Lib.hid Va2
    clear Va2
    replace Vy := Lib.hid Vy2
    clear Vy2
    replace Vb := Lib.hid Vb2
    clear Vb2
    replace Vz := Lib.hid Vz2
    clear Vz2
    replace Vh := Lib.hid Vh2
    clear Vh2
    replace Vc := Lib.hid Vc2
    clear Vc2
    replace HB := Lib.hid (And.intro hbb (show _ ≤ w11.heap.size by rw [hbs]; exact HB.out.2))
    clear hbb hbs
    refine wpAnyH_ready (rs := [10]) (by kernel_rfl) (by simp) (AllReadyH.cons (o := ⟨none, .store 29 (.tmp 11) (.tmp 42), 0, "law.go:102", #[⟨7, .data⟩, ⟨4, .data⟩, ⟨2, .chain⟩, ⟨0, .phase⟩, ⟨1, .phase⟩, ⟨2, .phase⟩, ⟨3, .phase⟩, ⟨4, .phase⟩, ⟨5, .textOnly .lateStores⟩, ⟨6, .textOnly .lateStores⟩, ⟨7, .phase⟩, ⟨8, .phase⟩, ⟨9, .phase⟩], none⟩) rfl (fun K hK => ?_) AllReadyH.nil)
    refine op_storeS (by rfl) rfl rfl rfl thz.out (by kernel_rfl) (by simp [Value.oneCell']) hw11 ?_
    replace hS := hw11 ▸ below_setCells gsz [.int .i64 kd, .int .i64 0, .int .i64 o1, .int .i64 o2, .int .i64 o3, .int .i64 o4, .int .i64 o5, .int .u32 wa, .int .u32 to, .slice A3 n c3, .slice B3 m d3] 0 _ hS
    obtain ⟨w12, hw12⟩ : ∃ W, w11.setCells (sh) 0 [.int .i64 0, .int .i64 0, .int .i64 0, .int .i64 0, .int .i64 0, .int .i64 0, .bool false, .bool false, .int .i64 0, .bool false] = W := ⟨_, rfl⟩
    have Vo2 := (hw12 ▸ heap_setCells_ne neo_h [.int .i64 0, .int .i64 0, .int .i64 0, .int .i64 0, .int .i64 0, .int .i64 0, .bool false, .bool false, .int .i64 0, .bool false] 0 w11 : w12.heap[w.heap.size]? = _).trans Vo.out
    have Vt2 := (hw12 ▸ heap_setCells_ne net_h [.int .i64 0, .int .i64 0, .int .i64 0, .int .i64 0, .int .i64 0, .int .i64 0, .bool false, .bool false, .int .i64 0, .bool false] 0 w11 : w12.heap[w.heap.size + 1]? = _).trans Vt.out
    have Vx2 := (hw12 ▸ heap_setCells_ne nex_h [.int .i64 0, .int .i64 0, .int .i64 0, .int .i64 0, .int .i64 0, .int .i64 0, .bool false, .bool false, .int .i64 0, .bool false] 0 w11 : w12.heap[sx]? = _).trans Vx.out
    have Va2 := (hw12 ▸ heap_setCells_ne nea_h [.int .i64 0, .int .i64 0, .int .i64 0, .int .i64 0, .int .i64 0, .int .i64 0, .bool false, .bool false, .int .i64 0, .bool false] 0 w11 : w12.heap[sa]? = _).trans Va.out
    have Vy2 := (hw12 ▸ heap_setCells_ne ney_h [.int .i64 0, .int .i64 0, .int .i64 0, .int .i64 0, .int .i64 0, .int .i64 0, .bool false, .bool false, .int .i64 0, .bool false] 0 w11 : w12.heap[sy]? = _).trans Vy.out
    have Vb2 := (hw12 ▸ heap_setCells_ne neb_h [.int .i64 0, .int .i64 0, .int .i64 0, .int .i64 0, .int .i64 0, .int .i64 0, .bool false, .bool false, .int .i64 0, .bool false] 0 w11 : w12.heap[sb]? = _).trans Vb.out
    have Vz2 := (hw12 ▸ heap_setCells_ne nez_h [.int .i64 0, .int .i64 0, .int .i64 0, .int .i64 0, .int .i64 0, .int .i64 0, .bool false, .bool false, .int .i64 0, .bool false] 0 w11 : w12.heap[sz]? = _).trans Vz.out
    have Vc2 := (hw12 ▸ heap_setCells_ne neh_c.symm [.int .i64 0, .int .i64 0, .int .i64 0, .int .i64 0, .int .i64 0, .int .i64 0, .bool false, .bool false, .int .i64 0, .bool false] 0 w11 : w12.heap[sc]? = _).trans Vc.out
    have Vh2 : w12.heap[sh]? = some (.cells #[.int .i64 0, .int .i64 0, .int .i64 0, .int .i64 0, .int .i64 0, .int .i64 0, .bool false, .bool false, .int .i64 0, .bool false] 31) := hw12 ▸ heap_setCells [.int .i64 0, .int .i64 0, .int .i64 0, .int .i64 0, .int .i64 0, .int .i64 0, .bool false, .bool false, .int .i64 0, .bool false] w11 [] [.int .i64 0, .int .i64 0, .int .i64 0, .int .i64 0, .int .i64 0, .int .i64 0, .bool false, .bool false, .int .i64 0, .bool false] rfl Vh.out
    have hbb : Below _ _ w12 := hw12 ▸ below_setCells geh [.int .i64 0, .int .i64 0, .int .i64 0, .int .i64 0, .int .i64 0, .int .i64 0, .bool false, .bool false, .int .i64 0, .bool false] 0 w11 HB.out.1
    have hbs : w12.heap.size = w11.heap.size := by rw [← hw12, size_setCells]
    have thh := Lib.hid (there_blk Vh.out (k := 10) rfl)
    replace ON1 := Lib.hid (hw12 ▸ own_setCells (by decide) [.int .i64 0, .int .i64 0, .int .i64 0, .int .i64 0, .int .i64 0, .int .i64 0, .bool false, .bool false, .int .i64 0, .bool false] 0 ON1.out Vh.out)
    replace OL1 := Lib.hid (hw12 ▸ own_setCells (by decide) [.int .i64 0, .int .i64 0, .int .i64 0, .int .i64 0, .int .i64 0, .int .i64 0, .bool false, .bool false, .int .i64 0, .bool false] 0 OL1.out Vh.out)
    replace ON2 := Lib.hid (hw12 ▸ own_setCells (by decide) [.int .i64 0, .int .i64 0, .int .i64 0, .int .i64 0, .int .i64 0, .int .i64 0, .bool false, .bool false, .int .i64 0, .bool false] 0 ON2.out Vh.out)
    replace OL2 := Lib.hid (hw12 ▸ own_setCells (by decide) [.int .i64 0, .int .i64 0, .int .i64 0, .int .i64 0, .int .i64 0, .int .i64 0, .bool false, .bool false, .int .i64 0, .bool false] 0 OL2.out Vh.out)
    replace ON3 := Lib.hid (hw12 ▸ own_setCells (by decide) [.int .i64 0, .int .i64 0, .int .i64 0, .int .i64 0, .int .i64 0, .int .i64 0, .bool false, .bool false, .int .i64 0, .bool false] 0 ON3.out Vh.out)
    replace OL3 := Lib.hid (hw12 ▸ own_setCells (by decide) [.int .i64 0, .int .i64 0, .int .i64 0, .int .i64 0, .int .i64 0, .int .i64 0, .bool false, .bool false, .int .i64 0, .bool false] 0 OL3.out Vh.out)
    replace Vo := Lib.hid Vo2
    clear Vo2
    replace Vt := Lib.hid Vt2
    clear Vt2
    replace Vx := Lib.hid Vx2
    clear Vx2
    replace Va := Lib.hid Va2
    clear Va2
    replace Vy := Lib.hid Vy2
    clear Vy2
    replace Vb := Lib.hid Vb2
    clear Vb2
    replace Vz := Lib.hid Vz2
    clear Vz2
    replace Vh := Lib.hid Vh2
    clear Vh2
    replace Vc := Lib.hid Vc2
    clear Vc2
    replace HB := Lib.hid (And.intro hbb (show _ ≤ w12.heap.size by rw [hbs]; exact HB.out.2))
    clear hbb hbs
    refine Shut.out hK _ _ hS (fun _ => ?_)
    clear hK K
    try simp only [Act.put, List.setIfInBounds_toArray, List.set_cons_zero, List.set_cons_succ]
    refine wpAnyH_ready (rs := [11]) (by kernel_rfl) (by simp) (AllReadyH.cons (o := ⟨none, .store 31 (.tmp 12) (.tmp 43), 0, "law.go:102", #[⟨8, .data⟩, ⟨5, .data⟩, ⟨10, .chain⟩, ⟨0, .phase⟩, ⟨1, .phase⟩, ⟨2, .phase⟩, ⟨3, .phase⟩, ⟨4, .phase⟩, ⟨5, .phase⟩, ⟨6, .textOnly .lateStores⟩, ⟨7, .phase⟩, ⟨8, .phase⟩, ⟨9, .phase⟩, ⟨10, .phase⟩], none⟩) rfl (fun K hK => ?_) AllReadyH.nil)
    refine op_storeS (by rfl) rfl rfl rfl thh.out (by kernel_rfl) (by simp [Value.oneCell']) hw12 ?_
    replace hS := hw12 ▸ below_setCells gsh [.int .i64 0, .int .i64 0, .int .i64 0, .int .i64 0, .int .i64 0, .int .i64 0, .bool false, .bool false, .int .i64 0, .bool false] 0 _ hS
    obtain ⟨w13, hw13⟩ : ∃ W, w12.setCells (sc) 0 [.bool false, .bool false, .bool false, .int .i64 0, .int .i64 1, .int .u64 0, .slice WA wn wc] = W := ⟨_, rfl⟩
    have Vo2 := (hw13 ▸ heap_setCells_ne neo_c [.bool false, .bool false, .bool false, .int .i64 0, .int .i64 1, .int .u64 0, .slice WA wn wc] 0 w12 : w13.heap[w.heap.size]? = _).trans Vo.out
    have Vt2 := (hw13 ▸ heap_setCells_ne net_c [.bool false, .bool false, .bool false, .int .i64 0, .int .i64 1, .int .u64 0, .slice WA wn wc] 0 w12 : w13.heap[w.heap.size + 1]? = _).trans Vt.out
    have Vx2 := (hw13 ▸ heap_setCells_ne nex_c [.bool false, .bool false, .bool false, .int .i64 0, .int .i64 1, .int .u64 0, .slice WA wn wc] 0 w12 : w13.heap[sx]? = _).trans Vx.out
    have Va2 := (hw13 ▸ heap_setCells_ne nea_c [.bool false, .bool false, .bool false, .int .i64 0, .int .i64 1, .int .u64 0, .slice WA wn wc] 0 w12 : w13.heap[sa]? = _).trans Va.out
    have Vy2 := (hw13 ▸ heap_setCells_ne ney_c [.bool false, .bool false, .bool false, .int .i64 0, .int .i64 1, .int .u64 0, .slice WA wn wc] 0 w12 : w13.heap[sy]? = _).trans Vy.out
    have Vb2 := (hw13 ▸ heap_setCells_ne neb_c [.bool false, .bool false, .bool false, .int .i64 0, .int .i64 1, .int .u64 0, .slice WA wn wc] 0 w12 : w13.heap[sb]? = _).trans Vb.out
    have Vz2 := (hw13 ▸ heap_setCells_ne nez_c [.bool false, .bool false, .bool false, .int .i64 0, .int .i64 1, .int .u64 0, .slice WA wn wc] 0 w12 : w13.heap[sz]? = _).trans Vz.out
    have Vh2 := (hw13 ▸ heap_setCells_ne neh_c [.bool false, .bool false, .bool false, .int .i64 0, .int .i64 1, .int .u64 0, .slice WA wn wc] 0 w12 : w13.heap[sh]? = _).trans Vh.out
    have Vc2 : w13.heap[sc]? = some (.cells #[.bool false, .bool false, .bool false, .int .i64 0, .int .i64 1, .int .u64 0, .slice WA wn wc] 39) := hw13 ▸ heap_setCells [.bool false, .bool false, .bool false, .int .i64 0, .int .i64 1, .int .u64 0, .slice WA wn wc] w12 [] [.bool false, .bool false, .bool false, .int .i64 0, .int .i64 0, .int .u64 0, .slice none 0 0] rfl Vc.out
    have hbb : Below _ _ w13 := hw13 ▸ below_setCells gec [.bool false, .bool false, .bool false, .int .i64 0, .int .i64 1, .int .u64 0, .slice WA wn wc] 0 w12 HB.out.1
    have hbs : w13.heap.size = w12.heap.size := by rw [← hw13, size_setCells]
    have thc := Lib.hid (there_blk Vc.out (k := 7) rfl)
    replace ON1 := Lib.hid (hw13 ▸ own_setCells (by decide) [.bool false, .bool false, .bool false, .int .i64 0, .int .i64 1, .int .u64 0, .slice WA wn wc] 0 ON1.out Vc.out)
    replace OL1 := Lib.hid (hw13 ▸ own_setCells (by decide) [.bool false, .bool false, .bool false, .int .i64 0, .int .i64 1, .int .u64 0, .slice WA wn wc] 0 OL1.out Vc.out)
    replace ON2 := Lib.hid (hw13 ▸ own_setCells (by decide) [.bool false, .bool false, .bool false, .int .i64 0, .int .i64 1, .int .u64 0, .slice WA wn wc] 0 ON2.out Vc.out)
    replace OL2 := Lib.hid (hw13 ▸ own_setCells (by decide) [.bool false, .bool false, .bool false, .int .i64 0, .int .i64 1, .int .u64 0, .slice WA wn wc] 0 OL2.out Vc.out)
    replace ON3 := Lib.hid (hw13 ▸ own_setCells (by decide) [.bool false, .bool false, .bool false, .int .i64 0, .int .i64 1, .int .u64 0, .slice WA wn wc] 0 ON3.out Vc.out)
    replace OL3 := Lib.hid (hw13 ▸ own_setCells (by decide) [.bool false, .bool false, .bool false, .int .i64 0, .int .i64 1, .int .u64 0, .slice WA wn wc] 0 OL3.out Vc.out)
    replace Vo := Lib.hid Vo2
    clear Vo2
    replace Vt := Lib.hid Vt2
    clear Vt2
    replace Vx := Lib.hid Vx2
    clear Vx2
    replace Va := Lib.hid Va2
    clear Va2
    replace Vy := Lib.hid Vy2
    clear Vy2
    replace Vb := Lib.hid Vb2
    clear Vb2
    replace Vz := Lib.hid Vz2
    clear Vz2
    replace Vh := Lib.hid Vh2
    clear Vh2
    replace Vc := Lib.hid Vc2
    clear Vc2
    replace HB := Lib.hid (And.intro hbb (show _ ≤ w13.heap.size by rw [hbs]; exact HB.out.2))
    clear hbb hbs
    refine Shut.out hK _ _ hS (fun _ => ?_)
    clear hK K
    try simp only [Act.put, List.setIfInBounds_toArray, List.set_cons_zero, List.set_cons_succ]
    refine wpAnyH_ready (rs := [12]) (by kernel_rfl) (by simp) (AllReadyH.cons (o := ⟨none, .store 39 (.tmp 13) (.tmp 44), 0, "law.go:102", #[⟨9, .data⟩, ⟨6, .data⟩, ⟨11, .chain⟩, ⟨0, .phase⟩, ⟨1, .phase⟩, ⟨2, .phase⟩, ⟨3, .phase⟩, ⟨4, .phase⟩, ⟨5, .phase⟩, ⟨6, .phase⟩, ⟨7, .phase⟩, ⟨8, .phase⟩, ⟨9, .phase⟩, ⟨10, .phase⟩, ⟨11, .phase⟩], none⟩) rfl (fun K hK => ?_) AllReadyH.nil)
    refine op_storeS (by rfl) rfl rfl rfl thc.out (by kernel_rfl) (by simp [Value.oneCell']) hw13 ?_
    replace hS := hw13 ▸ below_setCells gsc [.bool false, .bool false, .bool false, .int .i64 0, .int .i64 1, .int .u64 0, .slice WA wn wc] 0 _ hS
    refine Shut.out hK _ _ hS (fun _ => ?_)
    clear hK K
    try simp only [Act.put, List.setIfInBounds_toArray, List.set_cons_zero, List.set_cons_succ]
    refine wpAnyH_done (by kernel_rfl) ?_ _
    refine NoPanic.normal ?_
    clear hS gsz gsh gsc thz thh thc
    clear Vh
    clear Vz
    clear Vt
    obtain ⟨co0, co1, co2, co3, co4, co5, co6, co7, co8, co9, co10⟩ := row11 Vo.out
    obtain ⟨cx0, cx1, cx2, cx3, cx4, cx5, cx6, cx7, cx8, cx9, cx10⟩ := row11 Vx.out
    obtain ⟨cy0, cy1, cy2, cy3, cy4, cy5, cy6, cy7, cy8, cy9, cy10⟩ := row11 Vy.out
    obtain ⟨ca0, ca1, ca2, ca3, ca4, ca5, ca6⟩ := row7 Va.out
    obtain ⟨cb0, cb1, cb2, cb3, cb4, cb5, cb6⟩ := row7 Vb.out
    obtain ⟨cc0, cc1, cc2, cc3, cc4, cc5, cc6⟩ := row7 Vc.out
    go_wp2_with fail
    refine (OE.out _ _ _ _ _ (own_wts ON2.out) (own_cls OL2.out) (Es.below RX.out HB.out.1) (Es.below RY.out HB.out.1)).mono ?_
    rintro e w14 ⟨rfl, hb⟩
    clear co0 co1 co2 co3 co4 co5 co6 co7 co8 co9 co10 cx0 cx1 cx2 cx3 cx4 cx5 cx6 cx7 cx8 cx9 cx10 cy0 cy1 cy2 cy3 cy4 cy5 cy6 cy7 cy8 cy9 cy10 ca0 ca1 ca2 ca3 ca4 ca5 ca6 cb0 cb1 cb2 cb3 cb4 cb5 cb6 cc0 cc1 cc2 cc3 cc4 cc5 cc6
    replace Vo := Lib.hid (blk_below Vo.out hb (blk_lt Vo.out))
    replace Vx := Lib.hid (blk_below Vx.out hb (blk_lt Vx.out))
    replace Va := Lib.hid (blk_below Va.out hb (blk_lt Va.out))
    replace Vy := Lib.hid (blk_below Vy.out hb (blk_lt Vy.out))
    replace Vb := Lib.hid (blk_below Vb.out hb (blk_lt Vb.out))
    replace Vc := Lib.hid (blk_below Vc.out hb (blk_lt Vc.out))
    replace ON1 := Lib.hid (own_below ON1.out hb)
    replace OL1 := Lib.hid (own_below OL1.out hb)
    replace ON2 := Lib.hid (own_below ON2.out hb)
    replace OL2 := Lib.hid (own_below OL2.out hb)
    replace ON3 := Lib.hid (own_below ON3.out hb)
    replace OL3 := Lib.hid (own_below OL3.out hb)
    replace HB := Lib.hid (And.intro (HB.out.1.trans (hb.mono HB.out.2)) (Nat.le_trans HB.out.2 hb.size))
    clear hb
    obtain ⟨ca0, ca1, ca2, ca3, ca4, ca5, ca6⟩ := row7 Va.out
    obtain ⟨cb0, cb1, cb2, cb3, cb4, cb5, cb6⟩ := row7 Vb.out
    obtain ⟨cc0, cc1, cc2, cc3, cc4, cc5, cc6⟩ := row7 Vc.out
    go_wp2
    go_ret
    exact ⟨rfl, HB.out.1⟩
end Go.Proofs.Ytagaijghfikdoaa
