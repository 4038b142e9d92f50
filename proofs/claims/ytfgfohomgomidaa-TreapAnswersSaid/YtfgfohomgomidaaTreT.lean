/- The walk of TreapAnswers: it answers true, over any world; no condition. -/
import Derived.Test.YtfgfohomgomidaaTreS
namespace Go.Proofs.Ytfgfohomgomidaa
set_option linter.unusedVariables false
set_option linter.unusedSimpArgs false
open Go.RowKit
set_option maxRecDepth 100000 in
set_option maxHeartbeats 8000000 in
theorem answers9_walk (A : Option Addr) (n c : Nat) (ns : List Nd) (rt fr key prio : Int) (w : World) (hx : Ns w A n c ns) :
    Calls Try.prog 3 #[.agg #[.slice A n c, .int .i64 rt, .int .i64 fr], .int .i64 key, .int .u32 prio] w fun e w' => e = .returned (.bool true) ∧ Below w.heap.size w w' := by
  have hlen := hx.len
  have RX := Lib.hid hx
  clear hx
  have HB := Lib.hid (And.intro (Below.refl w.heap.size w) (Nat.le_refl w.heap.size))
  have gq := HB.out.2
  obtain ⟨w1, hw1⟩ : ∃ W, (w.alloc (.cells #[.slice A n c, .int .i64 rt, .int .i64 fr] 24)) = W := ⟨_, rfl⟩
  have hb : Below w.heap.size w w1 := hw1 ▸ ((Below.refl _ _).alloc (Nat.le_refl _) _)
  have hv0 : w1.heap[w.heap.size]? = some (.cells #[.slice A n c, .int .i64 rt, .int .i64 fr] 24) := by
    have h0 := heap_alloc_new w (.cells #[.slice A n c, .int .i64 rt, .int .i64 fr] 24)
    rw [show w.heap.size = w.heap.size by simp [Nat.add_assoc]] at h0
    rw [← hw1]
    exact h0
  replace RX := Lib.hid (Es.below RX.out hb)
  replace HB := Lib.hid (And.intro (HB.out.1.trans (hb.mono HB.out.2)) (Nat.le_trans HB.out.2 hb.size))
  have Vt := Lib.hid hv0
  have get := gq
  generalize hst : w.heap.size = st at *
  clear hb gq hv0
  by_cases hn : (70 : Int) < (n : Int)
  · have b0 : decide ((70 : Int) < (n : Int)) = true := decide_eq_true hn
    clear hn
    go_enter Try.func3, Try.ntmps3
    go_wp2_with fail
    refine (alive9 _).mono ?_
    rintro e w2 ⟨rfl, hb⟩
    replace Vt := Lib.hid (blk_below Vt.out hb (blk_lt Vt.out))
    replace RX := Lib.hid (Es.below RX.out hb)
    replace HB := Lib.hid (And.intro (HB.out.1.trans (hb.mono HB.out.2)) (Nat.le_trans HB.out.2 hb.size))
    clear hb
    have ct0 : w2.cell? ⟨st, 0, none⟩ = some (.slice A n c) := (blk_cell Vt.out 0).trans rfl
    have ct1 : w2.cell? ⟨st, 1, none⟩ = some (.int .i64 rt) := (blk_cell Vt.out 1).trans rfl
    have ct2 : w2.cell? ⟨st, 2, none⟩ = some (.int .i64 fr) := (blk_cell Vt.out 2).trans rfl
    go_wp2
    go_ret
    exact ⟨rfl, HB.out.1⟩
  · have b0 : decide ((70 : Int) < (n : Int)) = false := decide_eq_false hn
    have hn1 : n ≤ 70 := by omega
    clear hn
    obtain ⟨⟨⟨is_, ir, if_⟩, ip, ie⟩, hI⟩ : ∃ P, insT (ns, rt, fr) key prio = P := ⟨_, rfl⟩
    obtain ⟨⟨⟨ds, dr, df⟩, de⟩, hD⟩ : ∃ P, delT (ns, rt, fr) key = P := ⟨_, rfl⟩
    obtain ⟨⟨fp, fn, fo⟩, hF⟩ : ∃ P, findT (ns, rt, fr) key = P := ⟨_, rfl⟩
    obtain ⟨KL, hK⟩ : ∃ K, keysT (ns, rt, fr) = K := ⟨_, rfl⟩
    obtain ⟨yb, hyb⟩ : ∃ b, rightT (ns, rt, fr) = b := ⟨_, rfl⟩
    have hil : is_.length = n := by have := ins_len (ns, rt, fr) key prio; rw [hI] at this; simp only at this; omega
    have hdl : ds.length = n := by have := del_len (ns, rt, fr) key; rw [hD] at this; simp only at this; omega
    have hkl : KL.length ≤ 70 := by rw [← hK]; have := keysT_len (ns, rt, fr); simp only at this; omega
    have c1 := Lib.hid (show ∀ B d W, Ns W B n d ns → Calls Try.prog 9 #[.agg #[.slice B n d, .int .i64 rt, .int .i64 fr], .int .i64 key, .int .u32 prio] W (fun e w' => ∃ B m d, e = .returned (.tuple #[.agg #[.slice B m d, .int .i64 ir, .int .i64 if_], .int .i64 ip, .int .i64 ie]) ∧ Ns w' B m d is_ ∧ Below W.heap.size W w') from fun B d W h => (tpInsert_any B n d ns rt fr W key prio h (by omega)).mono (fun e w' ⟨B, m, d, h1, h2, h3, _⟩ => ⟨B, m, d, by rw [hI] at h1; exact h1, by rw [hI] at h2; exact h2, h3⟩))
    have c2 := Lib.hid (show ∀ B d W, Ns W B n d ns → Calls Try.prog 10 #[.agg #[.slice B n d, .int .i64 rt, .int .i64 fr], .int .i64 key, .int .u32 prio] W (fun e w' => ∃ B m d, e = .returned (.tuple #[.agg #[.slice B m d, .int .i64 ir, .int .i64 if_], .int .i64 ip, .int .i64 ie]) ∧ Ns w' B m d is_ ∧ Below W.heap.size W w') from fun B d W h => (refInsert9_any B n d ns rt fr key prio W h (by omega)).mono (fun e w' ⟨B, m, d, h1, h2, h3, _⟩ => ⟨B, m, d, by rw [hI] at h1; exact h1, by rw [hI] at h2; exact h2, h3⟩))
    have c3 := Lib.hid (show ∀ B d W, Ns W B n d ns → Calls Try.prog 11 #[.agg #[.slice B n d, .int .i64 rt, .int .i64 fr], .int .i64 key] W (fun e w' => ∃ B m d, e = .returned (.tuple #[.agg #[.slice B m d, .int .i64 dr, .int .i64 df], .int .i64 de]) ∧ Ns w' B m d ds ∧ Below W.heap.size W w') from fun B d W h => (tpDelete_any B n d ns rt fr W key h (by omega)).mono (fun e w' ⟨B, m, d, h1, h2, h3, _⟩ => ⟨B, m, d, by rw [hD] at h1; exact h1, by rw [hD] at h2; exact h2, h3⟩))
    have c4 := Lib.hid (show ∀ B d W, Ns W B n d ns → Calls Try.prog 12 #[.agg #[.slice B n d, .int .i64 rt, .int .i64 fr], .int .i64 key] W (fun e w' => ∃ B m d, e = .returned (.tuple #[.agg #[.slice B m d, .int .i64 dr, .int .i64 df], .int .i64 de]) ∧ Ns w' B m d ds ∧ Below W.heap.size W w') from fun B d W h => (refDelete9_any B n d ns rt fr key W h (by omega)).mono (fun e w' ⟨B, m, d, h1, h2, h3, _⟩ => ⟨B, m, d, by rw [hD] at h1; exact h1, by rw [hD] at h2; exact h2, h3⟩))
    have c5 := Lib.hid (show ∀ B d W, Ns W B n d ns → Calls Try.prog 13 #[.agg #[.slice B n d, .int .i64 rt, .int .i64 fr], .int .i64 key] W (fun e w' => e = .returned (.tuple #[.int .i64 fp, .int .i64 fn, .bool fo]) ∧ Below W.heap.size W w') from fun B d W h => (tpFind_any B n d ns rt fr W key h (by omega)).mono (fun e w' ⟨h1, h2⟩ => ⟨by rw [hF] at h1; exact h1, h2⟩))
    have c6 := Lib.hid (show ∀ B d W, Ns W B n d ns → Calls Try.prog 14 #[.agg #[.slice B n d, .int .i64 rt, .int .i64 fr], .int .i64 key] W (fun e w' => e = .returned (.tuple #[.int .i64 fp, .int .i64 fn, .bool fo]) ∧ Below W.heap.size W w') from fun B d W h => (refFind9_any B n d ns rt fr key W h (by omega)).mono (fun e w' ⟨h1, h2⟩ => ⟨by rw [hF] at h1; exact h1, h2⟩))
    have c7 := Lib.hid (show ∀ B d W, Ns W B n d ns → Calls Try.prog 16 #[.agg #[.slice B n d, .int .i64 rt, .int .i64 fr]] W (Yes9 W yb) from fun B d W h => hyb ▸ tpRight_any B n d ns rt fr W h (by omega))
    have c8 := Lib.hid (show ∀ B d W, Ns W B n d ns → Calls Try.prog 17 #[.agg #[.slice B n d, .int .i64 rt, .int .i64 fr]] W (Yes9 W yb) from fun B d W h => hyb ▸ refRight9_any B n d ns rt fr W h (by omega))
    have c9 := Lib.hid (show ∀ B d W, Ns W B n d ns → Calls Try.prog 19 #[.agg #[.slice B n d, .int .i64 rt, .int .i64 fr]] W (OwnI W KL) from fun B d W h => hK ▸ tpKeys_any B n d ns rt fr W h (by omega))
    have c10 := Lib.hid (show ∀ B d W, Ns W B n d ns → Calls Try.prog 20 #[.agg #[.slice B n d, .int .i64 rt, .int .i64 fr]] W (OwnI W KL) from fun B d W h => hK ▸ refKeys9_any B n d ns rt fr W h (by omega))
    have c11 := Lib.hid (show ∀ B d W, Ns W B n d ns → Calls Try.prog 8 #[.agg #[.slice B n d, .int .i64 rt, .int .i64 fr]] W (CopyPost9 W n ns rt fr) from fun B d W h => refCopy9_any B n d ns rt fr W h (by omega))
    have c12 := Lib.hid (show ∀ (xs : List Nd) (r f : Int) (A B : Option Addr) (m d m2 d2 : Nat) W, xs.length = n → Ns W A m d xs → Ns W B m2 d2 xs → Calls Try.prog 15 #[.agg #[.slice A m d, .int .i64 r, .int .i64 f], .agg #[.slice B m2 d2, .int .i64 r, .int .i64 f]] W (Yes9 W true) from fun xs r f A B m d m2 d2 W hl h1 h2 => same9 h1 h2 (by have := Ns.len h1; omega))
    have c13 := Lib.hid (show ∀ (xs : List Int) (A B : Option Addr) (n c m d : Nat) W, Is W A n c xs → Is W B m d xs → xs.length ≤ 70 → Calls Try.prog 18 #[.slice A n c, .slice B m d] W (Yes9 W true) from fun xs A B n c m d W h1 h2 h3 => by have h := refInts_any A n c xs B m d xs W h1 h2 (by have := Is.len h1; omega); rwa [decide_eq_true rfl] at h)
    clear hI hD hF hK hyb
    go_enter Try.func3, Try.ntmps3
    go_wp2_with fail
    refine (alive9 _).mono ?_
    rintro e w2 ⟨rfl, hb⟩
    replace Vt := Lib.hid (blk_below Vt.out hb (blk_lt Vt.out))
    replace RX := Lib.hid (Es.below RX.out hb)
    replace HB := Lib.hid (And.intro (HB.out.1.trans (hb.mono HB.out.2)) (Nat.le_trans HB.out.2 hb.size))
    clear hb
    have ct0 : w2.cell? ⟨st, 0, none⟩ = some (.slice A n c) := (blk_cell Vt.out 0).trans rfl
    have ct1 : w2.cell? ⟨st, 1, none⟩ = some (.int .i64 rt) := (blk_cell Vt.out 1).trans rfl
    have ct2 : w2.cell? ⟨st, 2, none⟩ = some (.int .i64 fr) := (blk_cell Vt.out 2).trans rfl
    go_wp2_with fail
    refine (c11.out _ _ _ RX.out).mono ?_
    rintro e w3 ⟨B1, d1, rfl, hown, hb⟩
    clear ct0 ct1 ct2
    replace Vt := Lib.hid (blk_below Vt.out hb (blk_lt Vt.out))
    replace RX := Lib.hid (Es.below RX.out hb)
    replace HB := Lib.hid (And.intro (HB.out.1.trans (hb.mono HB.out.2)) (Nat.le_trans HB.out.2 hb.size))
    clear hb
    have R1 := Lib.hid (ns_own hown)
    clear hown
    have ltt := blk_lt Vt.out
    have gq := HB.out.2
    obtain ⟨w4, hw4⟩ : ∃ W, (w3.alloc (.cells #[.slice B1 n d1, .int .i64 rt, .int .i64 fr] 24)) = W := ⟨_, rfl⟩
    have hb : Below w3.heap.size w3 w4 := hw4 ▸ ((Below.refl _ _).alloc (Nat.le_refl _) _)
    have hv0 : w4.heap[w3.heap.size]? = some (.cells #[.slice B1 n d1, .int .i64 rt, .int .i64 fr] 24) := by
      have h0 := heap_alloc_new w3 (.cells #[.slice B1 n d1, .int .i64 rt, .int .i64 fr] 24)
      rw [show w3.heap.size = w3.heap.size by simp [Nat.add_assoc]] at h0
      rw [← hw4]
      exact h0
    replace Vt := Lib.hid (blk_below Vt.out hb (blk_lt Vt.out))
    replace RX := Lib.hid (Es.below RX.out hb)
    replace R1 := Lib.hid (Es.below R1.out hb)
    replace HB := Lib.hid (And.intro (HB.out.1.trans (hb.mono HB.out.2)) (Nat.le_trans HB.out.2 hb.size))
    have Vo := Lib.hid hv0
    have net_o := Nat.ne_of_lt ltt
    have geo := gq
    generalize hso : w3.heap.size = so at *
    clear hb gq hv0 ltt
    have co0 : w4.cell? ⟨so, 0, none⟩ = some (.slice B1 n d1) := (blk_cell Vo.out 0).trans rfl
    have co1 : w4.cell? ⟨so, 1, none⟩ = some (.int .i64 rt) := (blk_cell Vo.out 1).trans rfl
    have co2 : w4.cell? ⟨so, 2, none⟩ = some (.int .i64 fr) := (blk_cell Vo.out 2).trans rfl
    go_wp2_with fail
    refine (c1.out _ _ _ R1.out).mono ?_
    rintro e w5 ⟨B2, m2, d2, rfl, hrs, hb⟩
    clear co0 co1 co2
    replace Vt := Lib.hid (blk_below Vt.out hb (blk_lt Vt.out))
    replace Vo := Lib.hid (blk_below Vo.out hb (blk_lt Vo.out))
    replace RX := Lib.hid (Es.below RX.out hb)
    replace R1 := Lib.hid (Es.below R1.out hb)
    replace HB := Lib.hid (And.intro (HB.out.1.trans (hb.mono HB.out.2)) (Nat.le_trans HB.out.2 hb.size))
    clear hb
    have R2 := Lib.hid hrs
    clear hrs
    have ltt := blk_lt Vt.out
    have lto := blk_lt Vo.out
    have gq := HB.out.2
    obtain ⟨w6, hw6⟩ : ∃ W, (w5.alloc (.cells #[.slice B2 m2 d2, .int .i64 ir, .int .i64 if_] 24)) = W := ⟨_, rfl⟩
    have hb : Below w5.heap.size w5 w6 := hw6 ▸ ((Below.refl _ _).alloc (Nat.le_refl _) _)
    have hv0 : w6.heap[w5.heap.size]? = some (.cells #[.slice B2 m2 d2, .int .i64 ir, .int .i64 if_] 24) := by
      have h0 := heap_alloc_new w5 (.cells #[.slice B2 m2 d2, .int .i64 ir, .int .i64 if_] 24)
      rw [show w5.heap.size = w5.heap.size by simp [Nat.add_assoc]] at h0
      rw [← hw6]
      exact h0
    replace Vt := Lib.hid (blk_below Vt.out hb (blk_lt Vt.out))
    replace Vo := Lib.hid (blk_below Vo.out hb (blk_lt Vo.out))
    replace RX := Lib.hid (Es.below RX.out hb)
    replace R1 := Lib.hid (Es.below R1.out hb)
    replace R2 := Lib.hid (Es.below R2.out hb)
    replace HB := Lib.hid (And.intro (HB.out.1.trans (hb.mono HB.out.2)) (Nat.le_trans HB.out.2 hb.size))
    have Vx := Lib.hid hv0
    have net_x := Nat.ne_of_lt ltt
    have neo_x := Nat.ne_of_lt lto
    have gex := gq
    generalize hsx : w5.heap.size = sx at *
    clear hb gq hv0 ltt lto
    have ct0 : w6.cell? ⟨st, 0, none⟩ = some (.slice A n c) := (blk_cell Vt.out 0).trans rfl
    have ct1 : w6.cell? ⟨st, 1, none⟩ = some (.int .i64 rt) := (blk_cell Vt.out 1).trans rfl
    have ct2 : w6.cell? ⟨st, 2, none⟩ = some (.int .i64 fr) := (blk_cell Vt.out 2).trans rfl
    go_wp2_with fail
    refine (c2.out _ _ _ RX.out).mono ?_
    rintro e w7 ⟨B3, m3, d3, rfl, hrs, hb⟩
    clear ct0 ct1 ct2
    replace Vt := Lib.hid (blk_below Vt.out hb (blk_lt Vt.out))
    replace Vo := Lib.hid (blk_below Vo.out hb (blk_lt Vo.out))
    replace Vx := Lib.hid (blk_below Vx.out hb (blk_lt Vx.out))
    replace RX := Lib.hid (Es.below RX.out hb)
    replace R1 := Lib.hid (Es.below R1.out hb)
    replace R2 := Lib.hid (Es.below R2.out hb)
    replace HB := Lib.hid (And.intro (HB.out.1.trans (hb.mono HB.out.2)) (Nat.le_trans HB.out.2 hb.size))
    clear hb
    have R3 := Lib.hid hrs
    clear hrs
    have ltt := blk_lt Vt.out
    have lto := blk_lt Vo.out
    have ltx := blk_lt Vx.out
    have gq := HB.out.2
    obtain ⟨w8, hw8⟩ : ∃ W, (w7.alloc (.cells #[.slice B3 m3 d3, .int .i64 ir, .int .i64 if_] 24)) = W := ⟨_, rfl⟩
    have hb : Below w7.heap.size w7 w8 := hw8 ▸ ((Below.refl _ _).alloc (Nat.le_refl _) _)
    have hv0 : w8.heap[w7.heap.size]? = some (.cells #[.slice B3 m3 d3, .int .i64 ir, .int .i64 if_] 24) := by
      have h0 := heap_alloc_new w7 (.cells #[.slice B3 m3 d3, .int .i64 ir, .int .i64 if_] 24)
      rw [show w7.heap.size = w7.heap.size by simp [Nat.add_assoc]] at h0
      rw [← hw8]
      exact h0
    replace Vt := Lib.hid (blk_below Vt.out hb (blk_lt Vt.out))
    replace Vo := Lib.hid (blk_below Vo.out hb (blk_lt Vo.out))
    replace Vx := Lib.hid (blk_below Vx.out hb (blk_lt Vx.out))
    replace RX := Lib.hid (Es.below RX.out hb)
    replace R1 := Lib.hid (Es.below R1.out hb)
    replace R2 := Lib.hid (Es.below R2.out hb)
    replace R3 := Lib.hid (Es.below R3.out hb)
    replace HB := Lib.hid (And.intro (HB.out.1.trans (hb.mono HB.out.2)) (Nat.le_trans HB.out.2 hb.size))
    have Vy := Lib.hid hv0
    have net_y := Nat.ne_of_lt ltt
    have neo_y := Nat.ne_of_lt lto
    have nex_y := Nat.ne_of_lt ltx
    have gey := gq
    generalize hsy : w7.heap.size = sy at *
    clear hb gq hv0 ltt lto ltx
    have co0 : w8.cell? ⟨so, 0, none⟩ = some (.slice B1 n d1) := (blk_cell Vo.out 0).trans rfl
    have co1 : w8.cell? ⟨so, 1, none⟩ = some (.int .i64 rt) := (blk_cell Vo.out 1).trans rfl
    have co2 : w8.cell? ⟨so, 2, none⟩ = some (.int .i64 fr) := (blk_cell Vo.out 2).trans rfl
    go_wp2_with fail
    refine (c3.out _ _ _ R1.out).mono ?_
    rintro e w9 ⟨B4, m4, d4, rfl, hrs, hb⟩
    clear co0 co1 co2
    replace Vt := Lib.hid (blk_below Vt.out hb (blk_lt Vt.out))
    replace Vo := Lib.hid (blk_below Vo.out hb (blk_lt Vo.out))
    replace Vx := Lib.hid (blk_below Vx.out hb (blk_lt Vx.out))
    replace Vy := Lib.hid (blk_below Vy.out hb (blk_lt Vy.out))
    replace RX := Lib.hid (Es.below RX.out hb)
    replace R1 := Lib.hid (Es.below R1.out hb)
    replace R2 := Lib.hid (Es.below R2.out hb)
    replace R3 := Lib.hid (Es.below R3.out hb)
    replace HB := Lib.hid (And.intro (HB.out.1.trans (hb.mono HB.out.2)) (Nat.le_trans HB.out.2 hb.size))
    clear hb
    have R4 := Lib.hid hrs
    clear hrs
    have ltt := blk_lt Vt.out
    have lto := blk_lt Vo.out
    have ltx := blk_lt Vx.out
    have lty := blk_lt Vy.out
    have gq := HB.out.2
    obtain ⟨w10, hw10⟩ : ∃ W, (w9.alloc (.cells #[.slice B4 m4 d4, .int .i64 dr, .int .i64 df] 24)) = W := ⟨_, rfl⟩
    have hb : Below w9.heap.size w9 w10 := hw10 ▸ ((Below.refl _ _).alloc (Nat.le_refl _) _)
    have hv0 : w10.heap[w9.heap.size]? = some (.cells #[.slice B4 m4 d4, .int .i64 dr, .int .i64 df] 24) := by
      have h0 := heap_alloc_new w9 (.cells #[.slice B4 m4 d4, .int .i64 dr, .int .i64 df] 24)
      rw [show w9.heap.size = w9.heap.size by simp [Nat.add_assoc]] at h0
      rw [← hw10]
      exact h0
    replace Vt := Lib.hid (blk_below Vt.out hb (blk_lt Vt.out))
    replace Vo := Lib.hid (blk_below Vo.out hb (blk_lt Vo.out))
    replace Vx := Lib.hid (blk_below Vx.out hb (blk_lt Vx.out))
    replace Vy := Lib.hid (blk_below Vy.out hb (blk_lt Vy.out))
    replace RX := Lib.hid (Es.below RX.out hb)
    replace R1 := Lib.hid (Es.below R1.out hb)
    replace R2 := Lib.hid (Es.below R2.out hb)
    replace R3 := Lib.hid (Es.below R3.out hb)
    replace R4 := Lib.hid (Es.below R4.out hb)
    replace HB := Lib.hid (And.intro (HB.out.1.trans (hb.mono HB.out.2)) (Nat.le_trans HB.out.2 hb.size))
    have Vu := Lib.hid hv0
    have net_u := Nat.ne_of_lt ltt
    have neo_u := Nat.ne_of_lt lto
    have nex_u := Nat.ne_of_lt ltx
    have ney_u := Nat.ne_of_lt lty
    have geu := gq
    generalize hsu : w9.heap.size = su at *
    clear hb gq hv0 ltt lto ltx lty
    have ct0 : w10.cell? ⟨st, 0, none⟩ = some (.slice A n c) := (blk_cell Vt.out 0).trans rfl
    have ct1 : w10.cell? ⟨st, 1, none⟩ = some (.int .i64 rt) := (blk_cell Vt.out 1).trans rfl
    have ct2 : w10.cell? ⟨st, 2, none⟩ = some (.int .i64 fr) := (blk_cell Vt.out 2).trans rfl
    go_wp2_with fail
    refine (c4.out _ _ _ RX.out).mono ?_
    rintro e w11 ⟨B5, m5, d5, rfl, hrs, hb⟩
    clear ct0 ct1 ct2
    replace Vt := Lib.hid (blk_below Vt.out hb (blk_lt Vt.out))
    replace Vo := Lib.hid (blk_below Vo.out hb (blk_lt Vo.out))
    replace Vx := Lib.hid (blk_below Vx.out hb (blk_lt Vx.out))
    replace Vy := Lib.hid (blk_below Vy.out hb (blk_lt Vy.out))
    replace Vu := Lib.hid (blk_below Vu.out hb (blk_lt Vu.out))
    replace RX := Lib.hid (Es.below RX.out hb)
    replace R1 := Lib.hid (Es.below R1.out hb)
    replace R2 := Lib.hid (Es.below R2.out hb)
    replace R3 := Lib.hid (Es.below R3.out hb)
    replace R4 := Lib.hid (Es.below R4.out hb)
    replace HB := Lib.hid (And.intro (HB.out.1.trans (hb.mono HB.out.2)) (Nat.le_trans HB.out.2 hb.size))
    clear hb
    have R5 := Lib.hid hrs
    clear hrs
    have ltt := blk_lt Vt.out
    have lto := blk_lt Vo.out
    have ltx := blk_lt Vx.out
    have lty := blk_lt Vy.out
    have ltu := blk_lt Vu.out
    have gq := HB.out.2
    obtain ⟨w12, hw12⟩ : ∃ W, (w11.alloc (.cells #[.slice B5 m5 d5, .int .i64 dr, .int .i64 df] 24)) = W := ⟨_, rfl⟩
    have hb : Below w11.heap.size w11 w12 := hw12 ▸ ((Below.refl _ _).alloc (Nat.le_refl _) _)
    have hv0 : w12.heap[w11.heap.size]? = some (.cells #[.slice B5 m5 d5, .int .i64 dr, .int .i64 df] 24) := by
      have h0 := heap_alloc_new w11 (.cells #[.slice B5 m5 d5, .int .i64 dr, .int .i64 df] 24)
      rw [show w11.heap.size = w11.heap.size by simp [Nat.add_assoc]] at h0
      rw [← hw12]
      exact h0
    replace Vt := Lib.hid (blk_below Vt.out hb (blk_lt Vt.out))
    replace Vo := Lib.hid (blk_below Vo.out hb (blk_lt Vo.out))
    replace Vx := Lib.hid (blk_below Vx.out hb (blk_lt Vx.out))
    replace Vy := Lib.hid (blk_below Vy.out hb (blk_lt Vy.out))
    replace Vu := Lib.hid (blk_below Vu.out hb (blk_lt Vu.out))
    replace RX := Lib.hid (Es.below RX.out hb)
    replace R1 := Lib.hid (Es.below R1.out hb)
    replace R2 := Lib.hid (Es.below R2.out hb)
    replace R3 := Lib.hid (Es.below R3.out hb)
    replace R4 := Lib.hid (Es.below R4.out hb)
    replace R5 := Lib.hid (Es.below R5.out hb)
    replace HB := Lib.hid (And.intro (HB.out.1.trans (hb.mono HB.out.2)) (Nat.le_trans HB.out.2 hb.size))
    have Vv := Lib.hid hv0
    have net_v := Nat.ne_of_lt ltt
    have neo_v := Nat.ne_of_lt lto
    have nex_v := Nat.ne_of_lt ltx
    have ney_v := Nat.ne_of_lt lty
    have neu_v := Nat.ne_of_lt ltu
    have gev := gq
    generalize hsv : w11.heap.size = sv at *
    clear hb gq hv0 ltt lto ltx lty ltu
    have ct0 : w12.cell? ⟨st, 0, none⟩ = some (.slice A n c) := (blk_cell Vt.out 0).trans rfl
    have ct1 : w12.cell? ⟨st, 1, none⟩ = some (.int .i64 rt) := (blk_cell Vt.out 1).trans rfl
    have ct2 : w12.cell? ⟨st, 2, none⟩ = some (.int .i64 fr) := (blk_cell Vt.out 2).trans rfl
    go_wp2_with fail
    refine (c5.out _ _ _ RX.out).mono ?_
    rintro e w13 ⟨rfl, hb⟩
    clear ct0 ct1 ct2
    replace Vt := Lib.hid (blk_below Vt.out hb (blk_lt Vt.out))
    replace Vo := Lib.hid (blk_below Vo.out hb (blk_lt Vo.out))
    replace Vx := Lib.hid (blk_below Vx.out hb (blk_lt Vx.out))
    replace Vy := Lib.hid (blk_below Vy.out hb (blk_lt Vy.out))
    replace Vu := Lib.hid (blk_below Vu.out hb (blk_lt Vu.out))
    replace Vv := Lib.hid (blk_below Vv.out hb (blk_lt Vv.out))
    replace RX := Lib.hid (Es.below RX.out hb)
    replace R1 := Lib.hid (Es.below R1.out hb)
    replace R2 := Lib.hid (Es.below R2.out hb)
    replace R3 := Lib.hid (Es.below R3.out hb)
    replace R4 := Lib.hid (Es.below R4.out hb)
    replace R5 := Lib.hid (Es.below R5.out hb)
    replace HB := Lib.hid (And.intro (HB.out.1.trans (hb.mono HB.out.2)) (Nat.le_trans HB.out.2 hb.size))
    clear hb
    have ct0 : w13.cell? ⟨st, 0, none⟩ = some (.slice A n c) := (blk_cell Vt.out 0).trans rfl
    have ct1 : w13.cell? ⟨st, 1, none⟩ = some (.int .i64 rt) := (blk_cell Vt.out 1).trans rfl
    have ct2 : w13.cell? ⟨st, 2, none⟩ = some (.int .i64 fr) := (blk_cell Vt.out 2).trans rfl
    go_wp2_with fail
    refine (c6.out _ _ _ RX.out).mono ?_
    rintro e w14 ⟨rfl, hb⟩
    clear ct0 ct1 ct2
    replace Vt := Lib.hid (blk_below Vt.out hb (blk_lt Vt.out))
    replace Vo := Lib.hid (blk_below Vo.out hb (blk_lt Vo.out))
    replace Vx := Lib.hid (blk_below Vx.out hb (blk_lt Vx.out))
    replace Vy := Lib.hid (blk_below Vy.out hb (blk_lt Vy.out))
    replace Vu := Lib.hid (blk_below Vu.out hb (blk_lt Vu.out))
    replace Vv := Lib.hid (blk_below Vv.out hb (blk_lt Vv.out))
    replace RX := Lib.hid (Es.below RX.out hb)
    replace R1 := Lib.hid (Es.below R1.out hb)
    replace R2 := Lib.hid (Es.below R2.out hb)
    replace R3 := Lib.hid (Es.below R3.out hb)
    replace R4 := Lib.hid (Es.below R4.out hb)
    replace R5 := Lib.hid (Es.below R5.out hb)
    replace HB := Lib.hid (And.intro (HB.out.1.trans (hb.mono HB.out.2)) (Nat.le_trans HB.out.2 hb.size))
    clear hb
    go_wp2
    refine wp_region_noPanic ?_
    refine wp_region_held_drew (S := (fun wv => Below w14.heap.size w14 wv)) (by kernel_rfl) ((Below.refl w14.heap.size w14).drew) (fun hS => ?_)
    refine wpAnyH_take (i := 0) (oi := ⟨some 74, .load 24 (.tmp 8), 24, "law.go:42", #[], none⟩) (v := .agg (([.slice B2 m2 d2, .int .i64 ir, .int .i64 if_] : List Value)).toArray) rfl (by kernel_rfl) (by kernel_rfl) (by kernel_rfl) (fun _ _ _ h => h) (yieldsIf_load_mid (by rfl) _ _ (by rfl) (sx) (0) (by rfl) (([.slice B2 m2 d2, .int .i64 ir, .int .i64 if_] : List Value)) _ (fun wv hS => blk_rngl (blk_below Vx.out hS (blk_lt Vx.out))) Try.underlying24 (by rfl) (by kernel_rfl)) hS ?_
    try simp only [Act.put, List.setIfInBounds_toArray, List.set_cons_zero, List.set_cons_succ]
    refine wpAnyH_take (i := 1) (oi := ⟨some 75, .load 24 (.tmp 11), 24, "law.go:42", #[], none⟩) (v := .agg (([.slice B3 m3 d3, .int .i64 ir, .int .i64 if_] : List Value)).toArray) rfl (by kernel_rfl) (by kernel_rfl) (by kernel_rfl) (fun _ _ _ h => h) (yieldsIf_load_mid (by rfl) _ _ (by rfl) (sy) (0) (by rfl) (([.slice B3 m3 d3, .int .i64 ir, .int .i64 if_] : List Value)) _ (fun wv hS => blk_rngl (blk_below Vy.out hS (blk_lt Vy.out))) Try.underlying24 (by rfl) (by kernel_rfl)) hS ?_
    try simp only [Act.put, List.setIfInBounds_toArray, List.set_cons_zero, List.set_cons_succ]
    refine wpAnyH_ready (rs := [2]) (by kernel_rfl) (by simp) (AllReadyH.cons (o := ⟨some 76, .call { callee := .value (.func 15), args := #[.tmp 74, .tmp 75], argTypes := #[24, 24] }, 4, "law.go:42", #[⟨0, .data⟩, ⟨1, .data⟩], none⟩) rfl (fun K hK => ?_) AllReadyH.nil)
    go_simp
    refine (c12.out _ _ _ _ _ _ _ _ _ _ hil (Es.below R2.out hS) (Es.below R3.out hS)).mono ?_; rintro e u2 ⟨rfl, hb⟩
    replace hS := hS.trans (hb.mono hS.size)
    clear hb
    go_wp2_with fail
    refine Shut.out hK _ _ hS (fun _ => ?_)
    clear hK K
    try simp only [Act.put, List.setIfInBounds_toArray, List.set_cons_zero, List.set_cons_succ]
    refine wpAnyH_take (i := 3) (oi := ⟨some 77, .move (.tmp 76), 4, "law.go:42", #[⟨2, .data⟩, ⟨2, .chain⟩], none⟩) (v := ?_) rfl (by kernel_rfl) (by kernel_rfl) (by kernel_rfl) (fun _ _ _ h => h) (Or.inl ⟨by rfl, ?_⟩) hS ?_
    rotate_left
    · intro wv _; go_simp; try with_reducible rfl
    try simp only [Act.put, List.setIfInBounds_toArray, List.set_cons_zero, List.set_cons_succ]
    refine wpAnyH_take (i := 4) (oi := ⟨some 78, .move (.tmp 9), 3, "law.go:42", #[⟨3, .guard⟩], some (3, true)⟩) (v := ?_) rfl (by kernel_rfl) (by kernel_rfl) (by kernel_rfl) (fun _ _ _ h => h) (Or.inl ⟨by rfl, ?_⟩) hS ?_
    rotate_left
    · intro wv _; go_simp; try with_reducible rfl
    try simp only [Act.put, List.setIfInBounds_toArray, List.set_cons_zero, List.set_cons_succ]
    refine wpAnyH_take (i := 5) (oi := ⟨some 79, .move (.tmp 12), 3, "law.go:42", #[⟨3, .guard⟩], some (3, true)⟩) (v := ?_) rfl (by kernel_rfl) (by kernel_rfl) (by kernel_rfl) (fun _ _ _ h => h) (Or.inl ⟨by rfl, ?_⟩) hS ?_
    rotate_left
    · intro wv _; go_simp; try with_reducible rfl
    try simp only [Act.put, List.setIfInBounds_toArray, List.set_cons_zero, List.set_cons_succ]
    refine wpAnyH_take (i := 6) (oi := ⟨some 80, .binOp .eql 3 (.tmp 78) (.tmp 79) 3, 4, "law.go:42", #[⟨4, .data⟩, ⟨5, .data⟩, ⟨3, .guard⟩], some (3, true)⟩) (v := ?_) rfl (by kernel_rfl) (by kernel_rfl) (by kernel_rfl) (fun _ _ _ h => h) (Or.inl ⟨by rfl, ?_⟩) hS ?_
    rotate_left
    · intro wv _; go_simp; try with_reducible rfl
    try simp only [Act.put, List.setIfInBounds_toArray, List.set_cons_zero, List.set_cons_succ]
    refine wpAnyH_take (i := 7) (oi := ⟨some 81, .pick (.tmp 77) (.tmp 80) (.const (Value.bool false)), 4, "law.go:42", #[⟨3, .data⟩, ⟨6, .data⟩], none⟩) (v := ?_) rfl (by kernel_rfl) (by kernel_rfl) (by kernel_rfl) (fun _ _ _ h => h) (Or.inl ⟨by rfl, ?_⟩) hS ?_
    rotate_left
    · intro wv _; go_simp; try with_reducible rfl
    try simp only [Act.put, List.setIfInBounds_toArray, List.set_cons_zero, List.set_cons_succ]
    refine wpAnyH_take (i := 8) (oi := ⟨some 82, .move (.tmp 81), 4, "law.go:42", #[⟨7, .data⟩, ⟨3, .chain⟩], none⟩) (v := ?_) rfl (by kernel_rfl) (by kernel_rfl) (by kernel_rfl) (fun _ _ _ h => h) (Or.inl ⟨by rfl, ?_⟩) hS ?_
    rotate_left
    · intro wv _; go_simp; try with_reducible rfl
    try simp only [Act.put, List.setIfInBounds_toArray, List.set_cons_zero, List.set_cons_succ]
    refine wpAnyH_take (i := 9) (oi := ⟨some 83, .move (.tmp 10), 28, "law.go:42", #[⟨8, .guard⟩], some (8, true)⟩) (v := ?_) rfl (by kernel_rfl) (by kernel_rfl) (by kernel_rfl) (fun _ _ _ h => h) (Or.inl ⟨by rfl, ?_⟩) hS ?_
    rotate_left
    · intro wv _; go_simp; try with_reducible rfl
    try simp only [Act.put, List.setIfInBounds_toArray, List.set_cons_zero, List.set_cons_succ]
    refine wpAnyH_take (i := 10) (oi := ⟨some 84, .move (.tmp 13), 28, "law.go:42", #[⟨8, .guard⟩], some (8, true)⟩) (v := ?_) rfl (by kernel_rfl) (by kernel_rfl) (by kernel_rfl) (fun _ _ _ h => h) (Or.inl ⟨by rfl, ?_⟩) hS ?_
    rotate_left
    · intro wv _; go_simp; try with_reducible rfl
    try simp only [Act.put, List.setIfInBounds_toArray, List.set_cons_zero, List.set_cons_succ]
    refine wpAnyH_take (i := 11) (oi := ⟨some 85, .binOp .eql 28 (.tmp 83) (.tmp 84) 28, 4, "law.go:42", #[⟨9, .data⟩, ⟨10, .data⟩, ⟨8, .guard⟩], some (8, true)⟩) (v := ?_) rfl (by kernel_rfl) (by kernel_rfl) (by kernel_rfl) (fun _ _ _ h => h) (Or.inl ⟨by rfl, ?_⟩) hS ?_
    rotate_left
    · intro wv _; go_simp; try with_reducible rfl
    try simp only [Act.put, List.setIfInBounds_toArray, List.set_cons_zero, List.set_cons_succ]
    refine wpAnyH_take (i := 12) (oi := ⟨some 86, .pick (.tmp 82) (.tmp 85) (.const (Value.bool false)), 4, "law.go:42", #[⟨8, .data⟩, ⟨11, .data⟩], none⟩) (v := ?_) rfl (by kernel_rfl) (by kernel_rfl) (by kernel_rfl) (fun _ _ _ h => h) (Or.inl ⟨by rfl, ?_⟩) hS ?_
    rotate_left
    · intro wv _; go_simp; try with_reducible rfl
    try simp only [Act.put, List.setIfInBounds_toArray, List.set_cons_zero, List.set_cons_succ]
    refine wpAnyH_take (i := 13) (oi := ⟨some 87, .move (.tmp 86), 4, "law.go:42", #[⟨12, .data⟩, ⟨8, .chain⟩], none⟩) (v := ?_) rfl (by kernel_rfl) (by kernel_rfl) (by kernel_rfl) (fun _ _ _ h => h) (Or.inl ⟨by rfl, ?_⟩) hS ?_
    rotate_left
    · intro wv _; go_simp; try with_reducible rfl
    try simp only [Act.put, List.setIfInBounds_toArray, List.set_cons_zero, List.set_cons_succ]
    refine wpAnyH_take (i := 14) (oi := ⟨some 88, .load 24 (.tmp 14), 24, "law.go:42", #[⟨13, .guard⟩], some (13, true)⟩) (v := .agg (([.slice B4 m4 d4, .int .i64 dr, .int .i64 df] : List Value)).toArray) rfl (by kernel_rfl) (by kernel_rfl) (by kernel_rfl) (fun _ _ _ h => h) (yieldsIf_load_mid (by rfl) _ _ (by rfl) (su) (0) (by rfl) (([.slice B4 m4 d4, .int .i64 dr, .int .i64 df] : List Value)) _ (fun wv hS => blk_rngl (blk_below Vu.out hS (blk_lt Vu.out))) Try.underlying24 (by rfl) (by kernel_rfl)) hS ?_
    try simp only [Act.put, List.setIfInBounds_toArray, List.set_cons_zero, List.set_cons_succ]
    refine wpAnyH_take (i := 15) (oi := ⟨some 89, .load 24 (.tmp 16), 24, "law.go:42", #[⟨13, .guard⟩], some (13, true)⟩) (v := .agg (([.slice B5 m5 d5, .int .i64 dr, .int .i64 df] : List Value)).toArray) rfl (by kernel_rfl) (by kernel_rfl) (by kernel_rfl) (fun _ _ _ h => h) (yieldsIf_load_mid (by rfl) _ _ (by rfl) (sv) (0) (by rfl) (([.slice B5 m5 d5, .int .i64 dr, .int .i64 df] : List Value)) _ (fun wv hS => blk_rngl (blk_below Vv.out hS (blk_lt Vv.out))) Try.underlying24 (by rfl) (by kernel_rfl)) hS ?_
    try simp only [Act.put, List.setIfInBounds_toArray, List.set_cons_zero, List.set_cons_succ]
    refine wpAnyH_ready (rs := [16]) (by kernel_rfl) (by simp) (AllReadyH.cons (o := ⟨some 90, .call { callee := .value (.func 15), args := #[.tmp 88, .tmp 89], argTypes := #[24, 24] }, 4, "law.go:42", #[⟨14, .data⟩, ⟨15, .data⟩, ⟨13, .chain⟩, ⟨13, .guard⟩], some (13, true)⟩) rfl (fun K hK => ?_) AllReadyH.nil)
    go_simp
    refine (c12.out _ _ _ _ _ _ _ _ _ _ hdl (Es.below R4.out hS) (Es.below R5.out hS)).mono ?_; rintro e u16 ⟨rfl, hb⟩
    replace hS := hS.trans (hb.mono hS.size)
    clear hb
    go_wp2_with fail
    refine Shut.out hK _ _ hS (fun _ => ?_)
    clear hK K
    try simp only [Act.put, List.setIfInBounds_toArray, List.set_cons_zero, List.set_cons_succ]
    refine wpAnyH_take (i := 17) (oi := ⟨some 91, .pick (.tmp 87) (.tmp 90) (.const (Value.bool false)), 4, "law.go:42", #[⟨13, .data⟩, ⟨16, .data⟩], none⟩) (v := ?_) rfl (by kernel_rfl) (by kernel_rfl) (by kernel_rfl) (fun _ _ _ h => h) (Or.inl ⟨by rfl, ?_⟩) hS ?_
    rotate_left
    · intro wv _; go_simp; try with_reducible rfl
    try simp only [Act.put, List.setIfInBounds_toArray, List.set_cons_zero, List.set_cons_succ]
    refine wpAnyH_take (i := 18) (oi := ⟨some 92, .move (.tmp 91), 4, "law.go:42", #[⟨17, .data⟩, ⟨16, .chain⟩], none⟩) (v := ?_) rfl (by kernel_rfl) (by kernel_rfl) (by kernel_rfl) (fun _ _ _ h => h) (Or.inl ⟨by rfl, ?_⟩) hS ?_
    rotate_left
    · intro wv _; go_simp; try with_reducible rfl
    try simp only [Act.put, List.setIfInBounds_toArray, List.set_cons_zero, List.set_cons_succ]
    refine wpAnyH_take (i := 19) (oi := ⟨some 93, .move (.tmp 15), 28, "law.go:42", #[⟨18, .guard⟩], some (18, true)⟩) (v := ?_) rfl (by kernel_rfl) (by kernel_rfl) (by kernel_rfl) (fun _ _ _ h => h) (Or.inl ⟨by rfl, ?_⟩) hS ?_
    rotate_left
    · intro wv _; go_simp; try with_reducible rfl
    try simp only [Act.put, List.setIfInBounds_toArray, List.set_cons_zero, List.set_cons_succ]
    refine wpAnyH_take (i := 20) (oi := ⟨some 94, .move (.tmp 17), 28, "law.go:42", #[⟨18, .guard⟩], some (18, true)⟩) (v := ?_) rfl (by kernel_rfl) (by kernel_rfl) (by kernel_rfl) (fun _ _ _ h => h) (Or.inl ⟨by rfl, ?_⟩) hS ?_
    rotate_left
    · intro wv _; go_simp; try with_reducible rfl
    try simp only [Act.put, List.setIfInBounds_toArray, List.set_cons_zero, List.set_cons_succ]
    refine wpAnyH_take (i := 21) (oi := ⟨some 95, .binOp .eql 28 (.tmp 93) (.tmp 94) 28, 4, "law.go:42", #[⟨19, .data⟩, ⟨20, .data⟩, ⟨18, .guard⟩], some (18, true)⟩) (v := ?_) rfl (by kernel_rfl) (by kernel_rfl) (by kernel_rfl) (fun _ _ _ h => h) (Or.inl ⟨by rfl, ?_⟩) hS ?_
    rotate_left
    · intro wv _; go_simp; try with_reducible rfl
    try simp only [Act.put, List.setIfInBounds_toArray, List.set_cons_zero, List.set_cons_succ]
    refine wpAnyH_take (i := 22) (oi := ⟨some 96, .pick (.tmp 92) (.tmp 95) (.const (Value.bool false)), 4, "law.go:42", #[⟨18, .data⟩, ⟨21, .data⟩], none⟩) (v := ?_) rfl (by kernel_rfl) (by kernel_rfl) (by kernel_rfl) (fun _ _ _ h => h) (Or.inl ⟨by rfl, ?_⟩) hS ?_
    rotate_left
    · intro wv _; go_simp; try with_reducible rfl
    try simp only [Act.put, List.setIfInBounds_toArray, List.set_cons_zero, List.set_cons_succ]
    refine wpAnyH_take (i := 23) (oi := ⟨some 97, .move (.tmp 96), 4, "law.go:42", #[⟨22, .data⟩, ⟨18, .chain⟩], none⟩) (v := ?_) rfl (by kernel_rfl) (by kernel_rfl) (by kernel_rfl) (fun _ _ _ h => h) (Or.inl ⟨by rfl, ?_⟩) hS ?_
    rotate_left
    · intro wv _; go_simp; try with_reducible rfl
    try simp only [Act.put, List.setIfInBounds_toArray, List.set_cons_zero, List.set_cons_succ]
    refine wpAnyH_take (i := 24) (oi := ⟨some 98, .move (.tmp 18), 3, "law.go:42", #[⟨23, .guard⟩], some (23, true)⟩) (v := ?_) rfl (by kernel_rfl) (by kernel_rfl) (by kernel_rfl) (fun _ _ _ h => h) (Or.inl ⟨by rfl, ?_⟩) hS ?_
    rotate_left
    · intro wv _; go_simp; try with_reducible rfl
    try simp only [Act.put, List.setIfInBounds_toArray, List.set_cons_zero, List.set_cons_succ]
    refine wpAnyH_take (i := 25) (oi := ⟨some 99, .move (.tmp 21), 3, "law.go:42", #[⟨23, .guard⟩], some (23, true)⟩) (v := ?_) rfl (by kernel_rfl) (by kernel_rfl) (by kernel_rfl) (fun _ _ _ h => h) (Or.inl ⟨by rfl, ?_⟩) hS ?_
    rotate_left
    · intro wv _; go_simp; try with_reducible rfl
    try simp only [Act.put, List.setIfInBounds_toArray, List.set_cons_zero, List.set_cons_succ]
    refine wpAnyH_take (i := 26) (oi := ⟨some 100, .binOp .eql 3 (.tmp 98) (.tmp 99) 3, 4, "law.go:42", #[⟨24, .data⟩, ⟨25, .data⟩, ⟨23, .guard⟩], some (23, true)⟩) (v := ?_) rfl (by kernel_rfl) (by kernel_rfl) (by kernel_rfl) (fun _ _ _ h => h) (Or.inl ⟨by rfl, ?_⟩) hS ?_
    rotate_left
    · intro wv _; go_simp; try with_reducible rfl
    try simp only [Act.put, List.setIfInBounds_toArray, List.set_cons_zero, List.set_cons_succ]
    refine wpAnyH_take (i := 27) (oi := ⟨some 101, .pick (.tmp 97) (.tmp 100) (.const (Value.bool false)), 4, "law.go:42", #[⟨23, .data⟩, ⟨26, .data⟩], none⟩) (v := ?_) rfl (by kernel_rfl) (by kernel_rfl) (by kernel_rfl) (fun _ _ _ h => h) (Or.inl ⟨by rfl, ?_⟩) hS ?_
    rotate_left
    · intro wv _; go_simp; try with_reducible rfl
    try simp only [Act.put, List.setIfInBounds_toArray, List.set_cons_zero, List.set_cons_succ]
    refine wpAnyH_take (i := 28) (oi := ⟨some 102, .move (.tmp 101), 4, "law.go:42", #[⟨27, .data⟩, ⟨23, .chain⟩], none⟩) (v := ?_) rfl (by kernel_rfl) (by kernel_rfl) (by kernel_rfl) (fun _ _ _ h => h) (Or.inl ⟨by rfl, ?_⟩) hS ?_
    rotate_left
    · intro wv _; go_simp; try with_reducible rfl
    try simp only [Act.put, List.setIfInBounds_toArray, List.set_cons_zero, List.set_cons_succ]
    refine wpAnyH_take (i := 29) (oi := ⟨some 103, .move (.tmp 19), 3, "law.go:42", #[⟨28, .guard⟩], some (28, true)⟩) (v := ?_) rfl (by kernel_rfl) (by kernel_rfl) (by kernel_rfl) (fun _ _ _ h => h) (Or.inl ⟨by rfl, ?_⟩) hS ?_
    rotate_left
    · intro wv _; go_simp; try with_reducible rfl
    try simp only [Act.put, List.setIfInBounds_toArray, List.set_cons_zero, List.set_cons_succ]
    refine wpAnyH_take (i := 30) (oi := ⟨some 104, .move (.tmp 22), 3, "law.go:42", #[⟨28, .guard⟩], some (28, true)⟩) (v := ?_) rfl (by kernel_rfl) (by kernel_rfl) (by kernel_rfl) (fun _ _ _ h => h) (Or.inl ⟨by rfl, ?_⟩) hS ?_
    rotate_left
    · intro wv _; go_simp; try with_reducible rfl
    try simp only [Act.put, List.setIfInBounds_toArray, List.set_cons_zero, List.set_cons_succ]
    refine wpAnyH_take (i := 31) (oi := ⟨some 105, .binOp .eql 3 (.tmp 103) (.tmp 104) 3, 4, "law.go:42", #[⟨29, .data⟩, ⟨30, .data⟩, ⟨28, .guard⟩], some (28, true)⟩) (v := ?_) rfl (by kernel_rfl) (by kernel_rfl) (by kernel_rfl) (fun _ _ _ h => h) (Or.inl ⟨by rfl, ?_⟩) hS ?_
    rotate_left
    · intro wv _; go_simp; try with_reducible rfl
    try simp only [Act.put, List.setIfInBounds_toArray, List.set_cons_zero, List.set_cons_succ]
    refine wpAnyH_take (i := 32) (oi := ⟨some 106, .pick (.tmp 102) (.tmp 105) (.const (Value.bool false)), 4, "law.go:42", #[⟨28, .data⟩, ⟨31, .data⟩], none⟩) (v := ?_) rfl (by kernel_rfl) (by kernel_rfl) (by kernel_rfl) (fun _ _ _ h => h) (Or.inl ⟨by rfl, ?_⟩) hS ?_
    rotate_left
    · intro wv _; go_simp; try with_reducible rfl
    try simp only [Act.put, List.setIfInBounds_toArray, List.set_cons_zero, List.set_cons_succ]
    refine wpAnyH_take (i := 33) (oi := ⟨some 107, .move (.tmp 106), 4, "law.go:42", #[⟨32, .data⟩, ⟨28, .chain⟩], none⟩) (v := ?_) rfl (by kernel_rfl) (by kernel_rfl) (by kernel_rfl) (fun _ _ _ h => h) (Or.inl ⟨by rfl, ?_⟩) hS ?_
    rotate_left
    · intro wv _; go_simp; try with_reducible rfl
    try simp only [Act.put, List.setIfInBounds_toArray, List.set_cons_zero, List.set_cons_succ]
    refine wpAnyH_take (i := 34) (oi := ⟨some 108, .move (.tmp 20), 4, "law.go:42", #[⟨33, .guard⟩], some (33, true)⟩) (v := ?_) rfl (by kernel_rfl) (by kernel_rfl) (by kernel_rfl) (fun _ _ _ h => h) (Or.inl ⟨by rfl, ?_⟩) hS ?_
    rotate_left
    · intro wv _; go_simp; try with_reducible rfl
    try simp only [Act.put, List.setIfInBounds_toArray, List.set_cons_zero, List.set_cons_succ]
    refine wpAnyH_take (i := 35) (oi := ⟨some 109, .move (.tmp 23), 4, "law.go:42", #[⟨33, .guard⟩], some (33, true)⟩) (v := ?_) rfl (by kernel_rfl) (by kernel_rfl) (by kernel_rfl) (fun _ _ _ h => h) (Or.inl ⟨by rfl, ?_⟩) hS ?_
    rotate_left
    · intro wv _; go_simp; try with_reducible rfl
    try simp only [Act.put, List.setIfInBounds_toArray, List.set_cons_zero, List.set_cons_succ]
    refine wpAnyH_take (i := 36) (oi := ⟨some 110, .binOp .eql 4 (.tmp 108) (.tmp 109) 4, 4, "law.go:42", #[⟨34, .data⟩, ⟨35, .data⟩, ⟨33, .guard⟩], some (33, true)⟩) (v := ?_) rfl (by kernel_rfl) (by kernel_rfl) (by kernel_rfl) (fun _ _ _ h => h) (Or.inl ⟨by rfl, ?_⟩) hS ?_
    rotate_left
    · intro wv _; go_simp; try with_reducible rfl
    try simp only [Act.put, List.setIfInBounds_toArray, List.set_cons_zero, List.set_cons_succ]
    refine wpAnyH_take (i := 37) (oi := ⟨some 111, .pick (.tmp 107) (.tmp 110) (.const (Value.bool false)), 4, "law.go:42", #[⟨33, .data⟩, ⟨36, .data⟩], none⟩) (v := ?_) rfl (by kernel_rfl) (by kernel_rfl) (by kernel_rfl) (fun _ _ _ h => h) (Or.inl ⟨by rfl, ?_⟩) hS ?_
    rotate_left
    · intro wv _; go_simp; try with_reducible rfl
    try simp only [Act.put, List.setIfInBounds_toArray, List.set_cons_zero, List.set_cons_succ]
    refine wpAnyH_take (i := 38) (oi := ⟨some 112, .move (.tmp 111), 4, "law.go:42", #[⟨37, .data⟩, ⟨33, .chain⟩], none⟩) (v := ?_) rfl (by kernel_rfl) (by kernel_rfl) (by kernel_rfl) (fun _ _ _ h => h) (Or.inl ⟨by rfl, ?_⟩) hS ?_
    rotate_left
    · intro wv _; go_simp; try with_reducible rfl
    try simp only [Act.put, List.setIfInBounds_toArray, List.set_cons_zero, List.set_cons_succ]
    refine wpAnyH_take (i := 39) (oi := ⟨some 113, .load 24 (.tmp 3), 24, "law.go:42", #[⟨38, .guard⟩], some (38, true)⟩) (v := .agg (([.slice A n c, .int .i64 rt, .int .i64 fr] : List Value)).toArray) rfl (by kernel_rfl) (by kernel_rfl) (by kernel_rfl) (fun _ _ _ h => h) (yieldsIf_load_mid (by rfl) _ _ (by rfl) (st) (0) (by rfl) (([.slice A n c, .int .i64 rt, .int .i64 fr] : List Value)) _ (fun wv hS => blk_rngl (blk_below Vt.out hS (blk_lt Vt.out))) Try.underlying24 (by rfl) (by kernel_rfl)) hS ?_
    try simp only [Act.put, List.setIfInBounds_toArray, List.set_cons_zero, List.set_cons_succ]
    refine wpAnyH_take (i := 41) (oi := ⟨some 115, .load 24 (.tmp 3), 24, "law.go:42", #[⟨38, .guard⟩], some (38, true)⟩) (v := .agg (([.slice A n c, .int .i64 rt, .int .i64 fr] : List Value)).toArray) rfl (by kernel_rfl) (by kernel_rfl) (by kernel_rfl) (fun _ _ _ h => h) (yieldsIf_load_mid (by rfl) _ _ (by rfl) (st) (0) (by rfl) (([.slice A n c, .int .i64 rt, .int .i64 fr] : List Value)) _ (fun wv hS => blk_rngl (blk_below Vt.out hS (blk_lt Vt.out))) Try.underlying24 (by rfl) (by kernel_rfl)) hS ?_
    try simp only [Act.put, List.setIfInBounds_toArray, List.set_cons_zero, List.set_cons_succ]
    refine wpAnyH_ready (rs := [40]) (by kernel_rfl) (by simp) (AllReadyH.cons (o := ⟨some 114, .call { callee := .value (.func 16), args := #[.tmp 113], argTypes := #[24] }, 4, "law.go:42", #[⟨39, .data⟩, ⟨38, .chain⟩, ⟨38, .guard⟩], some (38, true)⟩) rfl (fun K hK => ?_) AllReadyH.nil)
    go_simp
    refine (c7.out _ _ _ (Es.below RX.out hS)).mono ?_; rintro e u40 ⟨rfl, hb⟩
    replace hS := hS.trans (hb.mono hS.size)
    clear hb
    go_wp2_with fail
    refine Shut.out hK _ _ hS (fun _ => ?_)
    clear hK K
    try simp only [Act.put, List.setIfInBounds_toArray, List.set_cons_zero, List.set_cons_succ]
    refine wpAnyH_ready (rs := [42]) (by kernel_rfl) (by simp) (AllReadyH.cons (o := ⟨some 116, .call { callee := .value (.func 17), args := #[.tmp 115], argTypes := #[24] }, 4, "law.go:42", #[⟨41, .data⟩, ⟨40, .chain⟩, ⟨38, .guard⟩], some (38, true)⟩) rfl (fun K hK => ?_) AllReadyH.nil)
    go_simp
    refine (c8.out _ _ _ (Es.below RX.out hS)).mono ?_; rintro e u42 ⟨rfl, hb⟩
    replace hS := hS.trans (hb.mono hS.size)
    clear hb
    go_wp2_with fail
    refine Shut.out hK _ _ hS (fun _ => ?_)
    clear hK K
    try simp only [Act.put, List.setIfInBounds_toArray, List.set_cons_zero, List.set_cons_succ]
    refine wpAnyH_take (i := 43) (oi := ⟨some 117, .binOp .eql 4 (.tmp 114) (.tmp 116) 4, 4, "law.go:42", #[⟨40, .data⟩, ⟨42, .data⟩, ⟨38, .guard⟩], some (38, true)⟩) (v := ?_) rfl (by kernel_rfl) (by kernel_rfl) (by kernel_rfl) (fun _ _ _ h => h) (Or.inl ⟨by rfl, ?_⟩) hS ?_
    rotate_left
    · intro wv _; go_simp; try with_reducible rfl
    try simp only [Act.put, List.setIfInBounds_toArray, List.set_cons_zero, List.set_cons_succ]
    refine wpAnyH_take (i := 44) (oi := ⟨some 118, .pick (.tmp 112) (.tmp 117) (.const (Value.bool false)), 4, "law.go:42", #[⟨38, .data⟩, ⟨43, .data⟩], none⟩) (v := ?_) rfl (by kernel_rfl) (by kernel_rfl) (by kernel_rfl) (fun _ _ _ h => h) (Or.inl ⟨by rfl, ?_⟩) hS ?_
    rotate_left
    · intro wv _; go_simp; try with_reducible rfl
    try simp only [Act.put, List.setIfInBounds_toArray, List.set_cons_zero, List.set_cons_succ]
    refine wpAnyH_take (i := 45) (oi := ⟨some 119, .move (.tmp 118), 4, "law.go:42", #[⟨44, .data⟩, ⟨42, .chain⟩], none⟩) (v := ?_) rfl (by kernel_rfl) (by kernel_rfl) (by kernel_rfl) (fun _ _ _ h => h) (Or.inl ⟨by rfl, ?_⟩) hS ?_
    rotate_left
    · intro wv _; go_simp; try with_reducible rfl
    try simp only [Act.put, List.setIfInBounds_toArray, List.set_cons_zero, List.set_cons_succ]
    refine wpAnyH_take (i := 46) (oi := ⟨some 120, .load 24 (.tmp 3), 24, "law.go:42", #[⟨45, .guard⟩], some (45, true)⟩) (v := .agg (([.slice A n c, .int .i64 rt, .int .i64 fr] : List Value)).toArray) rfl (by kernel_rfl) (by kernel_rfl) (by kernel_rfl) (fun _ _ _ h => h) (yieldsIf_load_mid (by rfl) _ _ (by rfl) (st) (0) (by rfl) (([.slice A n c, .int .i64 rt, .int .i64 fr] : List Value)) _ (fun wv hS => blk_rngl (blk_below Vt.out hS (blk_lt Vt.out))) Try.underlying24 (by rfl) (by kernel_rfl)) hS ?_
    try simp only [Act.put, List.setIfInBounds_toArray, List.set_cons_zero, List.set_cons_succ]
    refine wpAnyH_take (i := 48) (oi := ⟨some 122, .load 24 (.tmp 3), 24, "law.go:42", #[⟨45, .guard⟩], some (45, true)⟩) (v := .agg (([.slice A n c, .int .i64 rt, .int .i64 fr] : List Value)).toArray) rfl (by kernel_rfl) (by kernel_rfl) (by kernel_rfl) (fun _ _ _ h => h) (yieldsIf_load_mid (by rfl) _ _ (by rfl) (st) (0) (by rfl) (([.slice A n c, .int .i64 rt, .int .i64 fr] : List Value)) _ (fun wv hS => blk_rngl (blk_below Vt.out hS (blk_lt Vt.out))) Try.underlying24 (by rfl) (by kernel_rfl)) hS ?_
    try simp only [Act.put, List.setIfInBounds_toArray, List.set_cons_zero, List.set_cons_succ]
    refine wpAnyH_ready (rs := [47]) (by kernel_rfl) (by simp) (AllReadyH.cons (o := ⟨some 121, .call { callee := .value (.func 19), args := #[.tmp 120], argTypes := #[24] }, 38, "law.go:42", #[⟨46, .data⟩, ⟨45, .chain⟩, ⟨45, .guard⟩], some (45, true)⟩) rfl (fun K hK => ?_) AllReadyH.nil)
    go_simp
    refine (c9.out _ _ _ (Es.below RX.out hS)).mono ?_; rintro e u47 ⟨A6, n6, e6, rfl, hown, hb⟩
    obtain ⟨_, _, he, his⟩ := Es.of_own hown (intC_one _)
    injection he with he1 he2 he3; subst he1; subst he3
    have J1 := Lib.hid (show Is _ _ _ _ KL from his)
    clear hown his
    replace hS := hS.trans (hb.mono hS.size)
    clear hb
    go_wp2_with fail
    refine Shut.out hK _ _ hS (fun _ => ?_)
    clear hK K
    try simp only [Act.put, List.setIfInBounds_toArray, List.set_cons_zero, List.set_cons_succ]
    refine wpAnyH_ready (rs := [49]) (by kernel_rfl) (by simp) (AllReadyH.cons (o := ⟨some 123, .call { callee := .value (.func 20), args := #[.tmp 122], argTypes := #[24] }, 38, "law.go:42", #[⟨48, .data⟩, ⟨47, .chain⟩, ⟨45, .guard⟩], some (45, true)⟩) rfl (fun K hK => ?_) AllReadyH.nil)
    go_simp
    refine (c10.out _ _ _ (Es.below RX.out hS)).mono ?_; rintro e u49 ⟨A7, n7, e7, rfl, hown, hb⟩
    obtain ⟨_, _, he, his⟩ := Es.of_own hown (intC_one _)
    injection he with he1 he2 he3; subst he1; subst he3
    have J2 := Lib.hid (show Is _ _ _ _ KL from his)
    clear hown his
    replace J1 := Lib.hid (Es.below J1.out hb)
    replace hS := hS.trans (hb.mono hS.size)
    clear hb
    go_wp2_with fail
    refine Shut.out hK _ _ hS (fun _ => ?_)
    clear hK K
    try simp only [Act.put, List.setIfInBounds_toArray, List.set_cons_zero, List.set_cons_succ]
    refine wpAnyH_ready (rs := [50]) (by kernel_rfl) (by simp) (AllReadyH.cons (o := ⟨some 124, .call { callee := .value (.func 18), args := #[.tmp 121, .tmp 123], argTypes := #[38, 38] }, 4, "law.go:42", #[⟨47, .data⟩, ⟨49, .data⟩, ⟨49, .chain⟩, ⟨45, .guard⟩], some (45, true)⟩) rfl (fun K hK => ?_) AllReadyH.nil)
    go_simp
    refine (c13.out _ _ _ _ _ _ _ _ J1.out J2.out hkl).mono ?_; rintro e u50 ⟨rfl, hb⟩
    replace hS := hS.trans (hb.mono hS.size)
    clear hb
    go_wp2_with fail
    refine Shut.out hK _ _ hS (fun _ => ?_)
    clear hK K
    try simp only [Act.put, List.setIfInBounds_toArray, List.set_cons_zero, List.set_cons_succ]
    refine wpAnyH_take (i := 51) (oi := ⟨some 125, .pick (.tmp 119) (.tmp 124) (.const (Value.bool false)), 4, "law.go:42", #[⟨45, .data⟩, ⟨50, .data⟩], none⟩) (v := ?_) rfl (by kernel_rfl) (by kernel_rfl) (by kernel_rfl) (fun _ _ _ h => h) (Or.inl ⟨by rfl, ?_⟩) hS ?_
    rotate_left
    · intro wv _; go_simp; try with_reducible rfl
    try simp only [Act.put, List.setIfInBounds_toArray, List.set_cons_zero, List.set_cons_succ]
    refine wpAnyH_take (i := 52) (oi := ⟨some 126, .move (.tmp 125), 4, "law.go:42", #[⟨51, .data⟩, ⟨50, .chain⟩], none⟩) (v := ?_) rfl (by kernel_rfl) (by kernel_rfl) (by kernel_rfl) (fun _ _ _ h => h) (Or.inl ⟨by rfl, ?_⟩) hS ?_
    rotate_left
    · intro wv _; go_simp; try with_reducible rfl
    try simp only [Act.put, List.setIfInBounds_toArray, List.set_cons_zero, List.set_cons_succ]
    refine wpAnyH_take (i := 53) (oi := ⟨some 127, .load 24 (.tmp 7), 24, "law.go:42", #[⟨52, .guard⟩], some (52, true)⟩) (v := .agg (([.slice B1 n d1, .int .i64 rt, .int .i64 fr] : List Value)).toArray) rfl (by kernel_rfl) (by kernel_rfl) (by kernel_rfl) (fun _ _ _ h => h) (yieldsIf_load_mid (by rfl) _ _ (by rfl) (so) (0) (by rfl) (([.slice B1 n d1, .int .i64 rt, .int .i64 fr] : List Value)) _ (fun wv hS => blk_rngl (blk_below Vo.out hS (blk_lt Vo.out))) Try.underlying24 (by rfl) (by kernel_rfl)) hS ?_
    try simp only [Act.put, List.setIfInBounds_toArray, List.set_cons_zero, List.set_cons_succ]
    refine wpAnyH_take (i := 54) (oi := ⟨some 128, .load 24 (.tmp 3), 24, "law.go:42", #[⟨52, .guard⟩], some (52, true)⟩) (v := .agg (([.slice A n c, .int .i64 rt, .int .i64 fr] : List Value)).toArray) rfl (by kernel_rfl) (by kernel_rfl) (by kernel_rfl) (fun _ _ _ h => h) (yieldsIf_load_mid (by rfl) _ _ (by rfl) (st) (0) (by rfl) (([.slice A n c, .int .i64 rt, .int .i64 fr] : List Value)) _ (fun wv hS => blk_rngl (blk_below Vt.out hS (blk_lt Vt.out))) Try.underlying24 (by rfl) (by kernel_rfl)) hS ?_
    try simp only [Act.put, List.setIfInBounds_toArray, List.set_cons_zero, List.set_cons_succ]
    refine wpAnyH_ready (rs := [55]) (by kernel_rfl) (by simp) (AllReadyH.cons (o := ⟨some 129, .call { callee := .value (.func 15), args := #[.tmp 127, .tmp 128], argTypes := #[24, 24] }, 4, "law.go:42", #[⟨53, .data⟩, ⟨54, .data⟩, ⟨52, .chain⟩, ⟨52, .guard⟩], some (52, true)⟩) rfl (fun K hK => ?_) AllReadyH.nil)
    go_simp
    refine (c12.out _ _ _ _ _ _ _ _ _ _ hlen (Es.below R1.out hS) (Es.below RX.out hS)).mono ?_; rintro e u55 ⟨rfl, hb⟩
    replace hS := hS.trans (hb.mono hS.size)
    clear hb
    go_wp2_with fail
    refine Shut.out hK _ _ hS (fun _ => ?_)
    clear hK K
    try simp only [Act.put, List.setIfInBounds_toArray, List.set_cons_zero, List.set_cons_succ]
    refine wpAnyH_take (i := 56) (oi := ⟨some 130, .pick (.tmp 126) (.tmp 129) (.const (Value.bool false)), 4, "law.go:42", #[⟨52, .data⟩, ⟨55, .data⟩], none⟩) (v := ?_) rfl (by kernel_rfl) (by kernel_rfl) (by kernel_rfl) (fun _ _ _ h => h) (Or.inl ⟨by rfl, ?_⟩) hS ?_
    rotate_left
    · intro wv _; go_simp; try with_reducible rfl
    try simp only [Act.put, List.setIfInBounds_toArray, List.set_cons_zero, List.set_cons_succ]
    refine wpAnyH_take (i := 57) (oi := ⟨some 6, .assign (.tmp 130), 4, "law.go:42", #[⟨56, .data⟩, ⟨55, .chain⟩, ⟨0, .phase⟩, ⟨1, .phase⟩, ⟨2, .phase⟩, ⟨3, .phase⟩, ⟨4, .phase⟩, ⟨5, .phase⟩, ⟨6, .phase⟩, ⟨7, .phase⟩, ⟨8, .phase⟩, ⟨9, .phase⟩, ⟨10, .phase⟩, ⟨11, .phase⟩, ⟨12, .phase⟩, ⟨13, .phase⟩, ⟨14, .phase⟩, ⟨15, .phase⟩, ⟨16, .phase⟩, ⟨17, .phase⟩, ⟨18, .phase⟩, ⟨19, .phase⟩, ⟨20, .phase⟩, ⟨21, .phase⟩, ⟨22, .phase⟩, ⟨23, .phase⟩, ⟨24, .phase⟩, ⟨25, .phase⟩, ⟨26, .phase⟩, ⟨27, .phase⟩, ⟨28, .phase⟩, ⟨29, .phase⟩, ⟨30, .phase⟩, ⟨31, .phase⟩, ⟨32, .phase⟩, ⟨33, .phase⟩, ⟨34, .phase⟩, ⟨35, .phase⟩, ⟨36, .phase⟩, ⟨37, .phase⟩, ⟨38, .phase⟩, ⟨39, .phase⟩, ⟨40, .phase⟩, ⟨41, .phase⟩, ⟨42, .phase⟩, ⟨43, .phase⟩, ⟨44, .phase⟩, ⟨45, .phase⟩, ⟨46, .phase⟩, ⟨47, .phase⟩, ⟨48, .phase⟩, ⟨49, .phase⟩, ⟨50, .phase⟩, ⟨51, .phase⟩, ⟨52, .phase⟩, ⟨53, .phase⟩, ⟨54, .phase⟩, ⟨55, .phase⟩, ⟨56, .phase⟩], none⟩) (v := ?_) rfl (by kernel_rfl) (by kernel_rfl) (by kernel_rfl) (fun _ _ _ h => h) (Or.inl ⟨by rfl, ?_⟩) hS ?_
    rotate_left
    · intro wv _; go_simp; try with_reducible rfl
    try simp only [Act.put, List.setIfInBounds_toArray, List.set_cons_zero, List.set_cons_succ]
    refine wpAnyH_done (by kernel_rfl) ?_ _
    refine NoPanic.normal ?_
    go_wp2
    go_ret
    exact ⟨rfl, HB.out.1.trans (hS.mono HB.out.2)⟩
end Go.Proofs.Ytfgfohomgomidaa
