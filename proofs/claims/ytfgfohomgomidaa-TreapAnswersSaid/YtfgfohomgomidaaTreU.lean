/- The walk of TreapHangs: it answers true, over any world; no condition. -/
import Derived.Test.YtfgfohomgomidaaTreS
namespace Go.Proofs.Ytfgfohomgomidaa
set_option linter.unusedVariables false
set_option linter.unusedSimpArgs false
open Go.RowKit
theorem makeT_len (n : Int) : (makeT n).1.1.length ≤ 64 := by
  unfold makeT
  split
  · simp
  · rename_i h
    rw [freshT_map]; simp; omega
set_option maxRecDepth 100000 in
set_option maxHeartbeats 8000000 in
theorem hangs9_walk (A : Option Addr) (n c : Nat) (ns : List Nd) (rt fr i0 i1 qh qt : Int) (w : World) (hx : Ns w A n c ns) (h0 : -9223372036854775808 ≤ i1) (h1 : i1 ≤ 9223372036854775807) :
    Calls Try.prog 4 #[.agg #[.slice A n c, .int .i64 rt, .int .i64 fr], .agg #[.int .i64 i0, .int .i64 i1], .agg #[.int .i64 qh, .int .i64 qt]] w fun e w' => e = .returned (.bool true) ∧ Below w.heap.size w w' := by
  have hlen := hx.len
  have RX := Lib.hid hx
  clear hx
  have HB := Lib.hid (And.intro (Below.refl w.heap.size w) (Nat.le_refl w.heap.size))
  have gq := HB.out.2
  obtain ⟨w1, hw1⟩ : ∃ W, (((w.alloc (.cells #[.slice A n c, .int .i64 rt, .int .i64 fr] 24)).alloc (.cells #[.int .i64 i0, .int .i64 i1] 41)).alloc (.cells #[.int .i64 qh, .int .i64 qt] 43)) = W := ⟨_, rfl⟩
  have hb : Below w.heap.size w w1 := hw1 ▸ ((((Below.refl _ _).alloc (Nat.le_refl _) _).alloc (by first | (simp; done) | (simp; omega)) _).alloc (by first | (simp; done) | (simp; omega)) _)
  have hv0 : w1.heap[w.heap.size]? = some (.cells #[.slice A n c, .int .i64 rt, .int .i64 fr] 24) := by
    have h0 := heap_alloc_new w (.cells #[.slice A n c, .int .i64 rt, .int .i64 fr] 24)
    rw [show w.heap.size = w.heap.size by simp [Nat.add_assoc]] at h0
    rw [← hw1]
    rw [heap_alloc_old _ _ (by simp <;> omega), heap_alloc_old _ _ (by simp <;> omega)]; exact h0
  have hv1 : w1.heap[w.heap.size + 1]? = some (.cells #[.int .i64 i0, .int .i64 i1] 41) := by
    have h0 := heap_alloc_new (w.alloc (.cells #[.slice A n c, .int .i64 rt, .int .i64 fr] 24)) (.cells #[.int .i64 i0, .int .i64 i1] 41)
    rw [show (w.alloc (.cells #[.slice A n c, .int .i64 rt, .int .i64 fr] 24)).heap.size = w.heap.size + 1 by simp [Nat.add_assoc]] at h0
    rw [← hw1]
    rw [heap_alloc_old _ _ (by simp <;> omega)]; exact h0
  have hv2 : w1.heap[w.heap.size + 2]? = some (.cells #[.int .i64 qh, .int .i64 qt] 43) := by
    have h0 := heap_alloc_new ((w.alloc (.cells #[.slice A n c, .int .i64 rt, .int .i64 fr] 24)).alloc (.cells #[.int .i64 i0, .int .i64 i1] 41)) (.cells #[.int .i64 qh, .int .i64 qt] 43)
    rw [show ((w.alloc (.cells #[.slice A n c, .int .i64 rt, .int .i64 fr] 24)).alloc (.cells #[.int .i64 i0, .int .i64 i1] 41)).heap.size = w.heap.size + 2 by simp [Nat.add_assoc]] at h0
    rw [← hw1]
    exact h0
  replace RX := Lib.hid (Es.below RX.out hb)
  replace HB := Lib.hid (And.intro (HB.out.1.trans (hb.mono HB.out.2)) (Nat.le_trans HB.out.2 hb.size))
  have Vt := Lib.hid hv0
  have get := gq
  have Vi := Lib.hid hv1
  have net_i : w.heap.size ≠ w.heap.size + 1 := by omega
  have gei : _ ≤ w.heap.size + 1 := Nat.le_trans gq (Nat.le_add_right _ 1)
  have Vq := Lib.hid hv2
  have net_q : w.heap.size ≠ w.heap.size + 2 := by omega
  have nei_q : w.heap.size + 1 ≠ w.heap.size + 2 := by omega
  have geq : _ ≤ w.heap.size + 2 := Nat.le_trans gq (Nat.le_add_right _ 2)
  generalize hst : w.heap.size = st at *
  clear hb gq hv0 hv1 hv2
  by_cases hn : (70 : Int) < (n : Int)
  · have b0 : decide ((70 : Int) < (n : Int)) = true := decide_eq_true hn
    clear hn
    go_enter Try.func4, Try.ntmps4
    go_wp2_with fail
    refine (alive9 _).mono ?_
    rintro e w2 ⟨rfl, hb⟩
    replace Vt := Lib.hid (blk_below Vt.out hb (blk_lt Vt.out))
    replace Vi := Lib.hid (blk_below Vi.out hb (blk_lt Vi.out))
    replace Vq := Lib.hid (blk_below Vq.out hb (blk_lt Vq.out))
    replace RX := Lib.hid (Es.below RX.out hb)
    replace HB := Lib.hid (And.intro (HB.out.1.trans (hb.mono HB.out.2)) (Nat.le_trans HB.out.2 hb.size))
    clear hb
    have ct0 : w2.cell? ⟨st, 0, none⟩ = some (.slice A n c) := (blk_cell Vt.out 0).trans rfl
    have ct1 : w2.cell? ⟨st, 1, none⟩ = some (.int .i64 rt) := (blk_cell Vt.out 1).trans rfl
    have ct2 : w2.cell? ⟨st, 2, none⟩ = some (.int .i64 fr) := (blk_cell Vt.out 2).trans rfl
    go_wp2
    go_ret
    exact ⟨rfl, HB.out.1⟩
  · have b0 : decide ((70 : Int) < (n : Int)) = false := decide_eq_false hn
    have hn1 : n ≤ 70 := by omega
    clear hn
    obtain ⟨⟨⟨ds, dr, df⟩, de⟩, hD⟩ : ∃ P, hangT (ns, rt, fr) i0 qh qt = P := ⟨_, rfl⟩
    obtain ⟨⟨⟨ms, mr, mf⟩, me⟩, hM⟩ : ∃ P, makeT i1 = P := ⟨_, rfl⟩
    have hdl : ds.length = n := by have := hang_len (ns, rt, fr) i0 qh qt; rw [hD] at this; simp only at this; omega
    have hml : ms.length ≤ 64 := by have := makeT_len i1; rw [hM] at this; exact this
    have c1 := Lib.hid (show ∀ B d W, Ns W B n d ns → Calls Try.prog 21 #[.agg #[.slice B n d, .int .i64 rt, .int .i64 fr], .int .i64 i0, .agg #[.int .i64 qh, .int .i64 qt]] W (fun e w' => ∃ B m d, e = .returned (.tuple #[.agg #[.slice B m d, .int .i64 dr, .int .i64 df], .int .i64 de]) ∧ Ns w' B m d ds ∧ Below W.heap.size W w') from fun B d W h => (tpHang_any B n d ns rt fr W i0 qh qt h (by omega)).mono (fun e w' ⟨B, m, d, h1, h2, h3, _⟩ => ⟨B, m, d, by rw [hD] at h1; exact h1, by rw [hD] at h2; exact h2, h3⟩))
    have c2 := Lib.hid (show ∀ B d W, Ns W B n d ns → Calls Try.prog 22 #[.agg #[.slice B n d, .int .i64 rt, .int .i64 fr], .int .i64 i0, .agg #[.int .i64 qh, .int .i64 qt]] W (fun e w' => ∃ B m d, e = .returned (.tuple #[.agg #[.slice B m d, .int .i64 dr, .int .i64 df], .int .i64 de]) ∧ Ns w' B m d ds ∧ Below W.heap.size W w') from fun B d W h => (refHang9_any B n d ns rt fr i0 qh qt W h (by omega)).mono (fun e w' ⟨B, m, d, h1, h2, h3, _⟩ => ⟨B, m, d, by rw [hD] at h1; exact h1, by rw [hD] at h2; exact h2, h3⟩))
    have c3 := Lib.hid (show ∀ W, Calls Try.prog 23 #[.int .i64 i1] W (fun e w' => ∃ B m d, e = .returned (.tuple #[.agg #[.slice B m d, .int .i64 mr, .int .i64 mf], .int .i64 me]) ∧ Ns w' B m d ms ∧ Below W.heap.size W w') from fun W => (tpMake_all i1 W h0 h1).mono (fun e w' ⟨B, m, d, h1, h2, h3⟩ => ⟨B, m, d, by rw [hM] at h1; exact h1, by rw [hM] at h2; exact ns_own h2, h3⟩))
    have c4 := Lib.hid (show ∀ W, Calls Try.prog 24 #[.int .i64 i1] W (fun e w' => ∃ B m d, e = .returned (.tuple #[.agg #[.slice B m d, .int .i64 mr, .int .i64 mf], .int .i64 me]) ∧ Ns w' B m d ms ∧ Below W.heap.size W w') from fun W => (refMake9_all i1 W h0 h1).mono (fun e w' ⟨B, m, d, h1, h2, h3⟩ => ⟨B, m, d, by rw [hM] at h1; exact h1, by rw [hM] at h2; exact ns_own h2, h3⟩))
    have c11 := Lib.hid (show ∀ B d W, Ns W B n d ns → Calls Try.prog 8 #[.agg #[.slice B n d, .int .i64 rt, .int .i64 fr]] W (CopyPost9 W n ns rt fr) from fun B d W h => refCopy9_any B n d ns rt fr W h (by omega))
    have c12 := Lib.hid (show ∀ (xs : List Nd) (r f : Int) (A B : Option Addr) (m d m2 d2 : Nat) W, xs.length ≤ 70 → Ns W A m d xs → Ns W B m2 d2 xs → Calls Try.prog 15 #[.agg #[.slice A m d, .int .i64 r, .int .i64 f], .agg #[.slice B m2 d2, .int .i64 r, .int .i64 f]] W (Yes9 W true) from fun xs r f A B m d m2 d2 W hl h1 h2 => same9 h1 h2 (by have := Ns.len h1; omega))
    clear hD hM
    go_enter Try.func4, Try.ntmps4
    go_wp2_with fail
    refine (alive9 _).mono ?_
    rintro e w2 ⟨rfl, hb⟩
    replace Vt := Lib.hid (blk_below Vt.out hb (blk_lt Vt.out))
    replace Vi := Lib.hid (blk_below Vi.out hb (blk_lt Vi.out))
    replace Vq := Lib.hid (blk_below Vq.out hb (blk_lt Vq.out))
    replace RX := Lib.hid (Es.below RX.out hb)
    replace HB := Lib.hid (And.intro (HB.out.1.trans (hb.mono HB.out.2)) (Nat.le_trans HB.out.2 hb.size))
    clear hb
    have ct0 : w2.cell? ⟨st, 0, none⟩ = some (.slice A n c) := (blk_cell Vt.out 0).trans rfl
    have ct1 : w2.cell? ⟨st, 1, none⟩ = some (.int .i64 rt) := (blk_cell Vt.out 1).trans rfl
    have ct2 : w2.cell? ⟨st, 2, none⟩ = some (.int .i64 fr) := (blk_cell Vt.out 2).trans rfl
    go_wp2_with fail
    refine (c11.out _ _ _ RX.out).mono ?_
    rintro e w3 ⟨B1, d1, rfl, hown, hb⟩
    clear ct0 ct1 ct2
    replace Vt := Lib.hid (blk_below Vt.out hb (blk_lt Vt.out))
    replace Vi := Lib.hid (blk_below Vi.out hb (blk_lt Vi.out))
    replace Vq := Lib.hid (blk_below Vq.out hb (blk_lt Vq.out))
    replace RX := Lib.hid (Es.below RX.out hb)
    replace HB := Lib.hid (And.intro (HB.out.1.trans (hb.mono HB.out.2)) (Nat.le_trans HB.out.2 hb.size))
    clear hb
    have R1 := Lib.hid (ns_own hown)
    clear hown
    have ltt := blk_lt Vt.out
    have lti := blk_lt Vi.out
    have ltq := blk_lt Vq.out
    have gq := HB.out.2
    obtain ⟨w4, hw4⟩ : ∃ W, (w3.alloc (.cells #[.slice B1 n d1, .int .i64 rt, .int .i64 fr] 24)) = W := ⟨_, rfl⟩
    have hb : Below w3.heap.size w3 w4 := hw4 ▸ ((Below.refl _ _).alloc (Nat.le_refl _) _)
    have hv0 : w4.heap[w3.heap.size]? = some (.cells #[.slice B1 n d1, .int .i64 rt, .int .i64 fr] 24) := by
      have h0 := heap_alloc_new w3 (.cells #[.slice B1 n d1, .int .i64 rt, .int .i64 fr] 24)
      rw [show w3.heap.size = w3.heap.size by simp [Nat.add_assoc]] at h0
      rw [← hw4]
      exact h0
    replace Vt := Lib.hid (blk_below Vt.out hb (blk_lt Vt.out))
    replace Vi := Lib.hid (blk_below Vi.out hb (blk_lt Vi.out))
    replace Vq := Lib.hid (blk_below Vq.out hb (blk_lt Vq.out))
    replace RX := Lib.hid (Es.below RX.out hb)
    replace R1 := Lib.hid (Es.below R1.out hb)
    replace HB := Lib.hid (And.intro (HB.out.1.trans (hb.mono HB.out.2)) (Nat.le_trans HB.out.2 hb.size))
    have Vo := Lib.hid hv0
    have net_o := Nat.ne_of_lt ltt
    have nei_o := Nat.ne_of_lt lti
    have neq_o := Nat.ne_of_lt ltq
    have geo := gq
    generalize hso : w3.heap.size = so at *
    clear hb gq hv0 ltt lti ltq
    have co0 : w4.cell? ⟨so, 0, none⟩ = some (.slice B1 n d1) := (blk_cell Vo.out 0).trans rfl
    have co1 : w4.cell? ⟨so, 1, none⟩ = some (.int .i64 rt) := (blk_cell Vo.out 1).trans rfl
    have co2 : w4.cell? ⟨so, 2, none⟩ = some (.int .i64 fr) := (blk_cell Vo.out 2).trans rfl
    have ci0 : w4.cell? ⟨st + 1, 0, none⟩ = some (.int .i64 i0) := (blk_cell Vi.out 0).trans rfl
    have ci1 : w4.cell? ⟨st + 1, 1, none⟩ = some (.int .i64 i1) := (blk_cell Vi.out 1).trans rfl
    have cq0 : w4.cell? ⟨st + 2, 0, none⟩ = some (.int .i64 qh) := (blk_cell Vq.out 0).trans rfl
    have cq1 : w4.cell? ⟨st + 2, 1, none⟩ = some (.int .i64 qt) := (blk_cell Vq.out 1).trans rfl
    go_wp2_with fail
    refine (c1.out _ _ _ R1.out).mono ?_
    rintro e w5 ⟨B2, m2, d2, rfl, hrs, hb⟩
    clear co0 co1 co2 ci0 ci1 cq0 cq1
    replace Vt := Lib.hid (blk_below Vt.out hb (blk_lt Vt.out))
    replace Vi := Lib.hid (blk_below Vi.out hb (blk_lt Vi.out))
    replace Vq := Lib.hid (blk_below Vq.out hb (blk_lt Vq.out))
    replace Vo := Lib.hid (blk_below Vo.out hb (blk_lt Vo.out))
    replace RX := Lib.hid (Es.below RX.out hb)
    replace R1 := Lib.hid (Es.below R1.out hb)
    replace HB := Lib.hid (And.intro (HB.out.1.trans (hb.mono HB.out.2)) (Nat.le_trans HB.out.2 hb.size))
    clear hb
    have R2 := Lib.hid hrs
    clear hrs
    have ltt := blk_lt Vt.out
    have lti := blk_lt Vi.out
    have ltq := blk_lt Vq.out
    have lto := blk_lt Vo.out
    have gq := HB.out.2
    obtain ⟨w6, hw6⟩ : ∃ W, (w5.alloc (.cells #[.slice B2 m2 d2, .int .i64 dr, .int .i64 df] 24)) = W := ⟨_, rfl⟩
    have hb : Below w5.heap.size w5 w6 := hw6 ▸ ((Below.refl _ _).alloc (Nat.le_refl _) _)
    have hv0 : w6.heap[w5.heap.size]? = some (.cells #[.slice B2 m2 d2, .int .i64 dr, .int .i64 df] 24) := by
      have h0 := heap_alloc_new w5 (.cells #[.slice B2 m2 d2, .int .i64 dr, .int .i64 df] 24)
      rw [show w5.heap.size = w5.heap.size by simp [Nat.add_assoc]] at h0
      rw [← hw6]
      exact h0
    replace Vt := Lib.hid (blk_below Vt.out hb (blk_lt Vt.out))
    replace Vi := Lib.hid (blk_below Vi.out hb (blk_lt Vi.out))
    replace Vq := Lib.hid (blk_below Vq.out hb (blk_lt Vq.out))
    replace Vo := Lib.hid (blk_below Vo.out hb (blk_lt Vo.out))
    replace RX := Lib.hid (Es.below RX.out hb)
    replace R1 := Lib.hid (Es.below R1.out hb)
    replace R2 := Lib.hid (Es.below R2.out hb)
    replace HB := Lib.hid (And.intro (HB.out.1.trans (hb.mono HB.out.2)) (Nat.le_trans HB.out.2 hb.size))
    have Vx := Lib.hid hv0
    have net_x := Nat.ne_of_lt ltt
    have nei_x := Nat.ne_of_lt lti
    have neq_x := Nat.ne_of_lt ltq
    have neo_x := Nat.ne_of_lt lto
    have gex := gq
    generalize hsx : w5.heap.size = sx at *
    clear hb gq hv0 ltt lti ltq lto
    have ct0 : w6.cell? ⟨st, 0, none⟩ = some (.slice A n c) := (blk_cell Vt.out 0).trans rfl
    have ct1 : w6.cell? ⟨st, 1, none⟩ = some (.int .i64 rt) := (blk_cell Vt.out 1).trans rfl
    have ct2 : w6.cell? ⟨st, 2, none⟩ = some (.int .i64 fr) := (blk_cell Vt.out 2).trans rfl
    have ci0 : w6.cell? ⟨st + 1, 0, none⟩ = some (.int .i64 i0) := (blk_cell Vi.out 0).trans rfl
    have ci1 : w6.cell? ⟨st + 1, 1, none⟩ = some (.int .i64 i1) := (blk_cell Vi.out 1).trans rfl
    have cq0 : w6.cell? ⟨st + 2, 0, none⟩ = some (.int .i64 qh) := (blk_cell Vq.out 0).trans rfl
    have cq1 : w6.cell? ⟨st + 2, 1, none⟩ = some (.int .i64 qt) := (blk_cell Vq.out 1).trans rfl
    go_wp2_with fail
    refine (c2.out _ _ _ RX.out).mono ?_
    rintro e w7 ⟨B3, m3, d3, rfl, hrs, hb⟩
    clear ct0 ct1 ct2 ci0 ci1 cq0 cq1
    replace Vt := Lib.hid (blk_below Vt.out hb (blk_lt Vt.out))
    replace Vi := Lib.hid (blk_below Vi.out hb (blk_lt Vi.out))
    replace Vq := Lib.hid (blk_below Vq.out hb (blk_lt Vq.out))
    replace Vo := Lib.hid (blk_below Vo.out hb (blk_lt Vo.out))
    replace Vx := Lib.hid (blk_below Vx.out hb (blk_lt Vx.out))
    replace RX := Lib.hid (Es.below RX.out hb)
    replace R1 := Lib.hid (Es.below R1.out hb)
    replace R2 := Lib.hid (Es.below R2.out hb)
    replace HB := Lib.hid (And.intro (HB.out.1.trans (hb.mono HB.out.2)) (Nat.le_trans HB.out.2 hb.size))
    clear hb
    have R3 := Lib.hid hrs
    clear hrs
    have ltt := blk_lt Vt.out
    have lti := blk_lt Vi.out
    have ltq := blk_lt Vq.out
    have lto := blk_lt Vo.out
    have ltx := blk_lt Vx.out
    have gq := HB.out.2
    obtain ⟨w8, hw8⟩ : ∃ W, (w7.alloc (.cells #[.slice B3 m3 d3, .int .i64 dr, .int .i64 df] 24)) = W := ⟨_, rfl⟩
    have hb : Below w7.heap.size w7 w8 := hw8 ▸ ((Below.refl _ _).alloc (Nat.le_refl _) _)
    have hv0 : w8.heap[w7.heap.size]? = some (.cells #[.slice B3 m3 d3, .int .i64 dr, .int .i64 df] 24) := by
      have h0 := heap_alloc_new w7 (.cells #[.slice B3 m3 d3, .int .i64 dr, .int .i64 df] 24)
      rw [show w7.heap.size = w7.heap.size by simp [Nat.add_assoc]] at h0
      rw [← hw8]
      exact h0
    replace Vt := Lib.hid (blk_below Vt.out hb (blk_lt Vt.out))
    replace Vi := Lib.hid (blk_below Vi.out hb (blk_lt Vi.out))
    replace Vq := Lib.hid (blk_below Vq.out hb (blk_lt Vq.out))
    replace Vo := Lib.hid (blk_below Vo.out hb (blk_lt Vo.out))
    replace Vx := Lib.hid (blk_below Vx.out hb (blk_lt Vx.out))
    replace RX := Lib.hid (Es.below RX.out hb)
    replace R1 := Lib.hid (Es.below R1.out hb)
    replace R2 := Lib.hid (Es.below R2.out hb)
    replace R3 := Lib.hid (Es.below R3.out hb)
    replace HB := Lib.hid (And.intro (HB.out.1.trans (hb.mono HB.out.2)) (Nat.le_trans HB.out.2 hb.size))
    have Vy := Lib.hid hv0
    have net_y := Nat.ne_of_lt ltt
    have nei_y := Nat.ne_of_lt lti
    have neq_y := Nat.ne_of_lt ltq
    have neo_y := Nat.ne_of_lt lto
    have nex_y := Nat.ne_of_lt ltx
    have gey := gq
    generalize hsy : w7.heap.size = sy at *
    clear hb gq hv0 ltt lti ltq lto ltx
    have ci0 : w8.cell? ⟨st + 1, 0, none⟩ = some (.int .i64 i0) := (blk_cell Vi.out 0).trans rfl
    have ci1 : w8.cell? ⟨st + 1, 1, none⟩ = some (.int .i64 i1) := (blk_cell Vi.out 1).trans rfl
    go_wp2_with fail
    refine (c3.out _).mono ?_
    rintro e w9 ⟨B4, m4, d4, rfl, hrs, hb⟩
    clear ci0 ci1
    replace Vt := Lib.hid (blk_below Vt.out hb (blk_lt Vt.out))
    replace Vi := Lib.hid (blk_below Vi.out hb (blk_lt Vi.out))
    replace Vq := Lib.hid (blk_below Vq.out hb (blk_lt Vq.out))
    replace Vo := Lib.hid (blk_below Vo.out hb (blk_lt Vo.out))
    replace Vx := Lib.hid (blk_below Vx.out hb (blk_lt Vx.out))
    replace Vy := Lib.hid (blk_below Vy.out hb (blk_lt Vy.out))
    replace RX := Lib.hid (Es.below RX.out hb)
    replace R1 := Lib.hid (Es.below R1.out hb)
    replace R2 := Lib.hid (Es.below R2.out hb)
    replace R3 := Lib.hid (Es.below R3.out hb)
    replace HB := Lib.hid (And.intro (HB.out.1.trans (hb.mono HB.out.2)) (Nat.le_trans HB.out.2 hb.size))
    clear hb
    have R4 := Lib.hid hrs
    clear hrs
    have ltt := blk_lt Vt.out
    have lti := blk_lt Vi.out
    have ltq := blk_lt Vq.out
    have lto := blk_lt Vo.out
    have ltx := blk_lt Vx.out
    have lty := blk_lt Vy.out
    have gq := HB.out.2
    obtain ⟨w10, hw10⟩ : ∃ W, (w9.alloc (.cells #[.slice B4 m4 d4, .int .i64 mr, .int .i64 mf] 24)) = W := ⟨_, rfl⟩
    have hb : Below w9.heap.size w9 w10 := hw10 ▸ ((Below.refl _ _).alloc (Nat.le_refl _) _)
    have hv0 : w10.heap[w9.heap.size]? = some (.cells #[.slice B4 m4 d4, .int .i64 mr, .int .i64 mf] 24) := by
      have h0 := heap_alloc_new w9 (.cells #[.slice B4 m4 d4, .int .i64 mr, .int .i64 mf] 24)
      rw [show w9.heap.size = w9.heap.size by simp [Nat.add_assoc]] at h0
      rw [← hw10]
      exact h0
    replace Vt := Lib.hid (blk_below Vt.out hb (blk_lt Vt.out))
    replace Vi := Lib.hid (blk_below Vi.out hb (blk_lt Vi.out))
    replace Vq := Lib.hid (blk_below Vq.out hb (blk_lt Vq.out))
    replace Vo := Lib.hid (blk_below Vo.out hb (blk_lt Vo.out))
    replace Vx := Lib.hid (blk_below Vx.out hb (blk_lt Vx.out))
    replace Vy := Lib.hid (blk_below Vy.out hb (blk_lt Vy.out))
    replace RX := Lib.hid (Es.below RX.out hb)
    replace R1 := Lib.hid (Es.below R1.out hb)
    replace R2 := Lib.hid (Es.below R2.out hb)
    replace R3 := Lib.hid (Es.below R3.out hb)
    replace R4 := Lib.hid (Es.below R4.out hb)
    replace HB := Lib.hid (And.intro (HB.out.1.trans (hb.mono HB.out.2)) (Nat.le_trans HB.out.2 hb.size))
    have Va := Lib.hid hv0
    have net_a := Nat.ne_of_lt ltt
    have nei_a := Nat.ne_of_lt lti
    have neq_a := Nat.ne_of_lt ltq
    have neo_a := Nat.ne_of_lt lto
    have nex_a := Nat.ne_of_lt ltx
    have ney_a := Nat.ne_of_lt lty
    have gea := gq
    generalize hsa : w9.heap.size = sa at *
    clear hb gq hv0 ltt lti ltq lto ltx lty
    have ci0 : w10.cell? ⟨st + 1, 0, none⟩ = some (.int .i64 i0) := (blk_cell Vi.out 0).trans rfl
    have ci1 : w10.cell? ⟨st + 1, 1, none⟩ = some (.int .i64 i1) := (blk_cell Vi.out 1).trans rfl
    go_wp2_with fail
    refine (c4.out _).mono ?_
    rintro e w11 ⟨B5, m5, d5, rfl, hrs, hb⟩
    clear ci0 ci1
    replace Vt := Lib.hid (blk_below Vt.out hb (blk_lt Vt.out))
    replace Vi := Lib.hid (blk_below Vi.out hb (blk_lt Vi.out))
    replace Vq := Lib.hid (blk_below Vq.out hb (blk_lt Vq.out))
    replace Vo := Lib.hid (blk_below Vo.out hb (blk_lt Vo.out))
    replace Vx := Lib.hid (blk_below Vx.out hb (blk_lt Vx.out))
    replace Vy := Lib.hid (blk_below Vy.out hb (blk_lt Vy.out))
    replace Va := Lib.hid (blk_below Va.out hb (blk_lt Va.out))
    replace RX := Lib.hid (Es.below RX.out hb)
    replace R1 := Lib.hid (Es.below R1.out hb)
    replace R2 := Lib.hid (Es.below R2.out hb)
    replace R3 := Lib.hid (Es.below R3.out hb)
    replace R4 := Lib.hid (Es.below R4.out hb)
    replace HB := Lib.hid (And.intro (HB.out.1.trans (hb.mono HB.out.2)) (Nat.le_trans HB.out.2 hb.size))
    clear hb
    have R5 := Lib.hid hrs
    clear hrs
    have ltt := blk_lt Vt.out
    have lti := blk_lt Vi.out
    have ltq := blk_lt Vq.out
    have lto := blk_lt Vo.out
    have ltx := blk_lt Vx.out
    have lty := blk_lt Vy.out
    have lta := blk_lt Va.out
    have gq := HB.out.2
    obtain ⟨w12, hw12⟩ : ∃ W, (w11.alloc (.cells #[.slice B5 m5 d5, .int .i64 mr, .int .i64 mf] 24)) = W := ⟨_, rfl⟩
    have hb : Below w11.heap.size w11 w12 := hw12 ▸ ((Below.refl _ _).alloc (Nat.le_refl _) _)
    have hv0 : w12.heap[w11.heap.size]? = some (.cells #[.slice B5 m5 d5, .int .i64 mr, .int .i64 mf] 24) := by
      have h0 := heap_alloc_new w11 (.cells #[.slice B5 m5 d5, .int .i64 mr, .int .i64 mf] 24)
      rw [show w11.heap.size = w11.heap.size by simp [Nat.add_assoc]] at h0
      rw [← hw12]
      exact h0
    replace Vt := Lib.hid (blk_below Vt.out hb (blk_lt Vt.out))
    replace Vi := Lib.hid (blk_below Vi.out hb (blk_lt Vi.out))
    replace Vq := Lib.hid (blk_below Vq.out hb (blk_lt Vq.out))
    replace Vo := Lib.hid (blk_below Vo.out hb (blk_lt Vo.out))
    replace Vx := Lib.hid (blk_below Vx.out hb (blk_lt Vx.out))
    replace Vy := Lib.hid (blk_below Vy.out hb (blk_lt Vy.out))
    replace Va := Lib.hid (blk_below Va.out hb (blk_lt Va.out))
    replace RX := Lib.hid (Es.below RX.out hb)
    replace R1 := Lib.hid (Es.below R1.out hb)
    replace R2 := Lib.hid (Es.below R2.out hb)
    replace R3 := Lib.hid (Es.below R3.out hb)
    replace R4 := Lib.hid (Es.below R4.out hb)
    replace R5 := Lib.hid (Es.below R5.out hb)
    replace HB := Lib.hid (And.intro (HB.out.1.trans (hb.mono HB.out.2)) (Nat.le_trans HB.out.2 hb.size))
    have Vb := Lib.hid hv0
    have net_b := Nat.ne_of_lt ltt
    have nei_b := Nat.ne_of_lt lti
    have neq_b := Nat.ne_of_lt ltq
    have neo_b := Nat.ne_of_lt lto
    have nex_b := Nat.ne_of_lt ltx
    have ney_b := Nat.ne_of_lt lty
    have nea_b := Nat.ne_of_lt lta
    have geb := gq
    generalize hsb : w11.heap.size = sb at *
    clear hb gq hv0 ltt lti ltq lto ltx lty lta
    have cx0 : w12.cell? ⟨sx, 0, none⟩ = some (.slice B2 m2 d2) := (blk_cell Vx.out 0).trans rfl
    have cx1 : w12.cell? ⟨sx, 1, none⟩ = some (.int .i64 dr) := (blk_cell Vx.out 1).trans rfl
    have cx2 : w12.cell? ⟨sx, 2, none⟩ = some (.int .i64 df) := (blk_cell Vx.out 2).trans rfl
    have cy0 : w12.cell? ⟨sy, 0, none⟩ = some (.slice B3 m3 d3) := (blk_cell Vy.out 0).trans rfl
    have cy1 : w12.cell? ⟨sy, 1, none⟩ = some (.int .i64 dr) := (blk_cell Vy.out 1).trans rfl
    have cy2 : w12.cell? ⟨sy, 2, none⟩ = some (.int .i64 df) := (blk_cell Vy.out 2).trans rfl
    go_wp2_with fail
    refine (c12.out _ _ _ _ _ _ _ _ _ _ (show ds.length ≤ 70 by omega) R2.out R3.out).mono ?_
    rintro e w13 ⟨rfl, hb⟩
    clear cx0 cx1 cx2 cy0 cy1 cy2
    replace Vt := Lib.hid (blk_below Vt.out hb (blk_lt Vt.out))
    replace Vi := Lib.hid (blk_below Vi.out hb (blk_lt Vi.out))
    replace Vq := Lib.hid (blk_below Vq.out hb (blk_lt Vq.out))
    replace Vo := Lib.hid (blk_below Vo.out hb (blk_lt Vo.out))
    replace Vx := Lib.hid (blk_below Vx.out hb (blk_lt Vx.out))
    replace Vy := Lib.hid (blk_below Vy.out hb (blk_lt Vy.out))
    replace Va := Lib.hid (blk_below Va.out hb (blk_lt Va.out))
    replace Vb := Lib.hid (blk_below Vb.out hb (blk_lt Vb.out))
    replace RX := Lib.hid (Es.below RX.out hb)
    replace R1 := Lib.hid (Es.below R1.out hb)
    replace R2 := Lib.hid (Es.below R2.out hb)
    replace R3 := Lib.hid (Es.below R3.out hb)
    replace R4 := Lib.hid (Es.below R4.out hb)
    replace R5 := Lib.hid (Es.below R5.out hb)
    replace HB := Lib.hid (And.intro (HB.out.1.trans (hb.mono HB.out.2)) (Nat.le_trans HB.out.2 hb.size))
    clear hb
    have ca0 : w13.cell? ⟨sa, 0, none⟩ = some (.slice B4 m4 d4) := (blk_cell Va.out 0).trans rfl
    have ca1 : w13.cell? ⟨sa, 1, none⟩ = some (.int .i64 mr) := (blk_cell Va.out 1).trans rfl
    have ca2 : w13.cell? ⟨sa, 2, none⟩ = some (.int .i64 mf) := (blk_cell Va.out 2).trans rfl
    have cb0 : w13.cell? ⟨sb, 0, none⟩ = some (.slice B5 m5 d5) := (blk_cell Vb.out 0).trans rfl
    have cb1 : w13.cell? ⟨sb, 1, none⟩ = some (.int .i64 mr) := (blk_cell Vb.out 1).trans rfl
    have cb2 : w13.cell? ⟨sb, 2, none⟩ = some (.int .i64 mf) := (blk_cell Vb.out 2).trans rfl
    go_wp2_with fail
    refine (c12.out _ _ _ _ _ _ _ _ _ _ (show ms.length ≤ 70 by omega) R4.out R5.out).mono ?_
    rintro e w14 ⟨rfl, hb⟩
    clear ca0 ca1 ca2 cb0 cb1 cb2
    replace Vt := Lib.hid (blk_below Vt.out hb (blk_lt Vt.out))
    replace Vi := Lib.hid (blk_below Vi.out hb (blk_lt Vi.out))
    replace Vq := Lib.hid (blk_below Vq.out hb (blk_lt Vq.out))
    replace Vo := Lib.hid (blk_below Vo.out hb (blk_lt Vo.out))
    replace Vx := Lib.hid (blk_below Vx.out hb (blk_lt Vx.out))
    replace Vy := Lib.hid (blk_below Vy.out hb (blk_lt Vy.out))
    replace Va := Lib.hid (blk_below Va.out hb (blk_lt Va.out))
    replace Vb := Lib.hid (blk_below Vb.out hb (blk_lt Vb.out))
    replace RX := Lib.hid (Es.below RX.out hb)
    replace R1 := Lib.hid (Es.below R1.out hb)
    replace R2 := Lib.hid (Es.below R2.out hb)
    replace R3 := Lib.hid (Es.below R3.out hb)
    replace R4 := Lib.hid (Es.below R4.out hb)
    replace R5 := Lib.hid (Es.below R5.out hb)
    replace HB := Lib.hid (And.intro (HB.out.1.trans (hb.mono HB.out.2)) (Nat.le_trans HB.out.2 hb.size))
    clear hb
    have co0 : w14.cell? ⟨so, 0, none⟩ = some (.slice B1 n d1) := (blk_cell Vo.out 0).trans rfl
    have co1 : w14.cell? ⟨so, 1, none⟩ = some (.int .i64 rt) := (blk_cell Vo.out 1).trans rfl
    have co2 : w14.cell? ⟨so, 2, none⟩ = some (.int .i64 fr) := (blk_cell Vo.out 2).trans rfl
    have ct0 : w14.cell? ⟨st, 0, none⟩ = some (.slice A n c) := (blk_cell Vt.out 0).trans rfl
    have ct1 : w14.cell? ⟨st, 1, none⟩ = some (.int .i64 rt) := (blk_cell Vt.out 1).trans rfl
    have ct2 : w14.cell? ⟨st, 2, none⟩ = some (.int .i64 fr) := (blk_cell Vt.out 2).trans rfl
    go_wp2_with fail
    refine (c12.out _ _ _ _ _ _ _ _ _ _ (show ns.length ≤ 70 by omega) R1.out RX.out).mono ?_
    rintro e w15 ⟨rfl, hb⟩
    clear co0 co1 co2 ct0 ct1 ct2
    replace Vt := Lib.hid (blk_below Vt.out hb (blk_lt Vt.out))
    replace Vi := Lib.hid (blk_below Vi.out hb (blk_lt Vi.out))
    replace Vq := Lib.hid (blk_below Vq.out hb (blk_lt Vq.out))
    replace Vo := Lib.hid (blk_below Vo.out hb (blk_lt Vo.out))
    replace Vx := Lib.hid (blk_below Vx.out hb (blk_lt Vx.out))
    replace Vy := Lib.hid (blk_below Vy.out hb (blk_lt Vy.out))
    replace Va := Lib.hid (blk_below Va.out hb (blk_lt Va.out))
    replace Vb := Lib.hid (blk_below Vb.out hb (blk_lt Vb.out))
    replace RX := Lib.hid (Es.below RX.out hb)
    replace R1 := Lib.hid (Es.below R1.out hb)
    replace R2 := Lib.hid (Es.below R2.out hb)
    replace R3 := Lib.hid (Es.below R3.out hb)
    replace R4 := Lib.hid (Es.below R4.out hb)
    replace R5 := Lib.hid (Es.below R5.out hb)
    replace HB := Lib.hid (And.intro (HB.out.1.trans (hb.mono HB.out.2)) (Nat.le_trans HB.out.2 hb.size))
    clear hb
    go_wp2
    go_ret
    exact ⟨rfl, HB.out.1⟩
end Go.Proofs.Ytfgfohomgomidaa
