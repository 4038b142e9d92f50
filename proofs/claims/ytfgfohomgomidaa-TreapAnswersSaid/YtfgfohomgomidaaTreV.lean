/- The walk of TreapBack: it answers true, over any world; no condition. -/
import Derived.Test.YtfgfohomgomidaaTreS
namespace Go.Proofs.Ytfgfohomgomidaa
set_option linter.unusedVariables false
set_option linter.unusedSimpArgs false
open Go.RowKit
theorem ins_err9 {p : Trp} {k q : Int} (h : (insT p k q).2.2 ≠ 0) : (insT p k q).1 = p ∧ (insT p k q).2.1 = 0 := by
  unfold insT at h ⊢
  split
  · exact ⟨rfl, rfl⟩
  · rename_i h1
    rw [if_neg h1] at h
    split
    · exact ⟨rfl, rfl⟩
    · rename_i h2
      rw [if_neg h2] at h
      split
      · exact ⟨rfl, rfl⟩
      · rename_i h3; rw [if_neg h3] at h; exact absurd rfl h
theorem back9 {p : Trp} {k q : Int} (h : (insT p k q).2.2 = 0) : ∃ c : Nat, 1 ≤ c ∧ c ≤ p.1.length ∧ findT (insT p k q).1 k = ((insT p k q).2.1, (c : Int), true) ∧ delT (insT p k q).1 k = (p, 0) ∧ delT p k = (p, 7) ∧ rightT (insT p k q).1 = true := by
  have h1 : ¬ (rightT p = false ∨ k < 0) := fun hh => by unfold insT at h; rw [if_pos hh] at h; simp at h
  have hr : rightT p = true := by
    cases hh : rightT p with
    | true => rfl
    | false => exact absurd (Or.inl hh) h1
  have hk : 0 ≤ k := by
    rcases Int.lt_or_le k 0 with hh | hh
    · exact absurd (Or.inr hh) h1
    · exact hh
  obtain ⟨fl, l, hok⟩ := TOk.of hr
  have hnew : ∀ x ∈ l, keyT p.1 x ≠ k := fun x hx e => by
    have hp := hok.place_some hx e
    have hb := hok.inN x hx
    unfold insT at h; rw [if_neg h1, hp, if_pos hb.1] at h; simp at h
  rcases ins_ok (prio := q) hok hk hnew with ⟨_, he⟩ | ⟨i, fl', p2, rfl, hil, i0, i1, hp⟩
  · rw [he] at h; simp at h
  · rw [hp.eq]
    simp only
    have hd := ins_del hok hil i0 i1 hp
    rcases hp.ok.find k with ⟨x, hx, hkx, c, c1, c2, hf⟩ | ⟨hno, _⟩
    · have hi : i ∈ sortT (putIn p k q) := (hp.mem i).2 (Or.inl rfl)
      have hxi : x = i := key_one hp.ok.rise hx hi (by rw [hkx]; exact hp.new.1.symm)
      subst hxi
      have hl := hp.ok.len
      rw [hp.lenE] at hl
      exact ⟨c, c1, by omega, hf, hd, del_none hok hnew, hp.ok.right⟩
    · exact absurd hp.new.1 (hno i ((hp.mem i).2 (Or.inl rfl)))
set_option maxRecDepth 100000 in
set_option maxHeartbeats 8000000 in
theorem back9_walk (A : Option Addr) (n c : Nat) (ns : List Nd) (rt fr key prio : Int) (w : World) (hx : Ns w A n c ns) :
    Calls Try.prog 5 #[.agg #[.slice A n c, .int .i64 rt, .int .i64 fr], .int .i64 key, .int .u32 prio] w fun e w' => e = .returned (.bool true) ∧ Below w.heap.size w w' := by
  have hlen := hx.len
  have RX := Lib.hid hx
  clear hx
  have HB := Lib.hid (And.intro (Below.refl w.heap.size w) (Nat.le_refl w.heap.size))
  have gq := HB.out.2
  obtain ⟨w1, hw1⟩ : ∃ W, (w.alloc (.cells #[.slice A n c, .int .i64 rt, .int .i64 fr] 24)) = W := ⟨_, rfl⟩
  have hb : Below w.heap.size w w1 := hw1 ▸ ((Below.refl _ _).alloc (Nat.le_refl _) _)
  have hv0 : w1.heap[w.heap.size]? = some (.cells #[.slice A n c, .int .i64 rt, .int .i64 fr] 24) := by
    have h0 := heap_alloc_new w (.cells #[.slice A n c, .int .i64 rt, .int .i64 fr] 24)
    rw [show w.heap.size = w.heap.size by simp [Nat.add_assoc]] at h0
    rw [← hw1]
    exact h0
  replace RX := Lib.hid (Es.below RX.out hb)
  replace HB := Lib.hid (And.intro (HB.out.1.trans (hb.mono HB.out.2)) (Nat.le_trans HB.out.2 hb.size))
  have Vt := Lib.hid hv0
  have get := gq
  generalize hst : w.heap.size = st at *
  clear hb gq hv0
  by_cases hn : (70 : Int) < (n : Int)
  · have b0 : decide ((70 : Int) < (n : Int)) = true := decide_eq_true hn
    clear hn
    go_enter Try.func5, Try.ntmps5
    go_wp2_with fail
    refine (alive9 _).mono ?_
    rintro e w2 ⟨rfl, hb⟩
    replace Vt := Lib.hid (blk_below Vt.out hb (blk_lt Vt.out))
    replace RX := Lib.hid (Es.below RX.out hb)
    replace HB := Lib.hid (And.intro (HB.out.1.trans (hb.mono HB.out.2)) (Nat.le_trans HB.out.2 hb.size))
    clear hb
    have ct0 : w2.cell? ⟨st, 0, none⟩ = some (.slice A n c) := (blk_cell Vt.out 0).trans rfl
    have ct1 : w2.cell? ⟨st, 1, none⟩ = some (.int .i64 rt) := (blk_cell Vt.out 1).trans rfl
    have ct2 : w2.cell? ⟨st, 2, none⟩ = some (.int .i64 fr) := (blk_cell Vt.out 2).trans rfl
    go_wp2
    go_ret
    exact ⟨rfl, HB.out.1⟩
  · have b0 : decide ((70 : Int) < (n : Int)) = false := decide_eq_false hn
    have hn1 : n ≤ 70 := by omega
    clear hn
    have hbk := @back9 (ns, rt, fr) key prio
    have hbe := @ins_err9 (ns, rt, fr) key prio
    obtain ⟨⟨⟨is_, ir, if_⟩, ip, ie⟩, hI⟩ : ∃ P, insT (ns, rt, fr) key prio = P := ⟨_, rfl⟩
    have hil : is_.length = n := by have := ins_len (ns, rt, fr) key prio; rw [hI] at this; simp only at this; omega
    rw [hI] at hbk hbe
    simp only at hbk hbe
    have c1 := Lib.hid (show ∀ B d W, Ns W B n d ns → Calls Try.prog 9 #[.agg #[.slice B n d, .int .i64 rt, .int .i64 fr], .int .i64 key, .int .u32 prio] W (fun e w' => ∃ B m d, e = .returned (.tuple #[.agg #[.slice B m d, .int .i64 ir, .int .i64 if_], .int .i64 ip, .int .i64 ie]) ∧ Ns w' B m d is_ ∧ Below W.heap.size W w') from fun B d W h => (tpInsert_any B n d ns rt fr W key prio h (by omega)).mono (fun e w' ⟨B, m, d, h1, h2, h3, _⟩ => ⟨B, m, d, by rw [hI] at h1; exact h1, by rw [hI] at h2; exact h2, h3⟩))
    have c12 := Lib.hid (show ∀ (xs : List Nd) (r f : Int) (A B : Option Addr) (m d m2 d2 : Nat) W, xs.length = n → Ns W A m d xs → Ns W B m2 d2 xs → Calls Try.prog 15 #[.agg #[.slice A m d, .int .i64 r, .int .i64 f], .agg #[.slice B m2 d2, .int .i64 r, .int .i64 f]] W (Yes9 W true) from fun xs r f A B m d m2 d2 W hl h1 h2 => same9 h1 h2 (by have := Ns.len h1; omega))
    clear hI
    by_cases he0 : ie = 0
    · obtain ⟨cc, c1_, c2_, hF, hD1, hD2, hR⟩ := hbk he0
      simp only [hlen] at c2_
      have b1 : (ie != 0) = false := by simp [he0]
      have c2 := Lib.hid (show ∀ B m d W, Ns W B m d is_ → Calls Try.prog 13 #[.agg #[.slice B m d, .int .i64 ir, .int .i64 if_], .int .i64 key] W (fun e w' => e = .returned (.tuple #[.int .i64 ip, .int .i64 (cc : Int), .bool true]) ∧ Below W.heap.size W w') from fun B m d W h => (tpFind_any B m d is_ ir if_ W key h (by have := Ns.len h; omega)).mono (fun e w' ⟨h1, h2⟩ => ⟨by rw [hF] at h1; exact h1, h2⟩))
      have c3 := Lib.hid (show ∀ B m d W, Ns W B m d is_ → Calls Try.prog 11 #[.agg #[.slice B m d, .int .i64 ir, .int .i64 if_], .int .i64 key] W (fun e w' => ∃ B m d, e = .returned (.tuple #[.agg #[.slice B m d, .int .i64 rt, .int .i64 fr], .int .i64 0]) ∧ Ns w' B m d ns ∧ Below W.heap.size W w') from fun B m d W h => (tpDelete_any B m d is_ ir if_ W key h (by have := Ns.len h; omega)).mono (fun e w' ⟨B, m, d, h1, h2, h3, _⟩ => ⟨B, m, d, by rw [hD1] at h1; exact h1, by rw [hD1] at h2; exact h2, h3⟩))
      have c4 := Lib.hid (show ∀ B m d W, Ns W B m d ns → Calls Try.prog 11 #[.agg #[.slice B m d, .int .i64 rt, .int .i64 fr], .int .i64 key] W (fun e w' => ∃ B m d, e = .returned (.tuple #[.agg #[.slice B m d, .int .i64 rt, .int .i64 fr], .int .i64 7]) ∧ Ns w' B m d ns ∧ Below W.heap.size W w') from fun B m d W h => (tpDelete_any B m d ns rt fr W key h (by have := Ns.len h; omega)).mono (fun e w' ⟨B, m, d, h1, h2, h3, _⟩ => ⟨B, m, d, by rw [hD2] at h1; exact h1, by rw [hD2] at h2; exact h2, h3⟩))
      have c5 := Lib.hid (show ∀ B m d W, Ns W B m d is_ → Calls Try.prog 16 #[.agg #[.slice B m d, .int .i64 ir, .int .i64 if_]] W (Yes9 W true) from fun B m d W h => hR ▸ tpRight_any B m d is_ ir if_ W h (by have := Ns.len h; omega))
      have b2 : decide ((1 : Int) ≤ (cc : Int)) = true := by simp; omega
      have b2n : decide (1 ≤ cc) = true := by simp; omega
      have b2m : decide (0 < cc) = true := by simp; omega
      have b3 : decide ((cc : Int) ≤ (n : Int)) = true := by simp; omega
      have b3n : decide (cc ≤ n) = true := by simp; omega
      clear he0 hF hD1 hD2 hR hbk hbe
      go_enter Try.func5, Try.ntmps5
      go_wp2_with fail
      refine (alive9 _).mono ?_
      rintro e w2 ⟨rfl, hb⟩
      replace Vt := Lib.hid (blk_below Vt.out hb (blk_lt Vt.out))
      replace RX := Lib.hid (Es.below RX.out hb)
      replace HB := Lib.hid (And.intro (HB.out.1.trans (hb.mono HB.out.2)) (Nat.le_trans HB.out.2 hb.size))
      clear hb
      have ct0 : w2.cell? ⟨st, 0, none⟩ = some (.slice A n c) := (blk_cell Vt.out 0).trans rfl
      have ct1 : w2.cell? ⟨st, 1, none⟩ = some (.int .i64 rt) := (blk_cell Vt.out 1).trans rfl
      have ct2 : w2.cell? ⟨st, 2, none⟩ = some (.int .i64 fr) := (blk_cell Vt.out 2).trans rfl
      go_wp2_with fail
      refine (c1.out _ _ _ RX.out).mono ?_
      rintro e w3 ⟨B2, m2, d2, rfl, hrs, hb⟩
      clear ct0 ct1 ct2
      replace Vt := Lib.hid (blk_below Vt.out hb (blk_lt Vt.out))
      replace RX := Lib.hid (Es.below RX.out hb)
      replace HB := Lib.hid (And.intro (HB.out.1.trans (hb.mono HB.out.2)) (Nat.le_trans HB.out.2 hb.size))
      clear hb
      have R2 := Lib.hid hrs
      clear hrs
      have ltt := blk_lt Vt.out
      have gq := HB.out.2
      obtain ⟨w4, hw4⟩ : ∃ W, (w3.alloc (.cells #[.slice B2 m2 d2, .int .i64 ir, .int .i64 if_] 24)) = W := ⟨_, rfl⟩
      have hb : Below w3.heap.size w3 w4 := hw4 ▸ ((Below.refl _ _).alloc (Nat.le_refl _) _)
      have hv0 : w4.heap[w3.heap.size]? = some (.cells #[.slice B2 m2 d2, .int .i64 ir, .int .i64 if_] 24) := by
        have h0 := heap_alloc_new w3 (.cells #[.slice B2 m2 d2, .int .i64 ir, .int .i64 if_] 24)
        rw [show w3.heap.size = w3.heap.size by simp [Nat.add_assoc]] at h0
        rw [← hw4]
        exact h0
      replace Vt := Lib.hid (blk_below Vt.out hb (blk_lt Vt.out))
      replace RX := Lib.hid (Es.below RX.out hb)
      replace R2 := Lib.hid (Es.below R2.out hb)
      replace HB := Lib.hid (And.intro (HB.out.1.trans (hb.mono HB.out.2)) (Nat.le_trans HB.out.2 hb.size))
      have Vx := Lib.hid hv0
      have net_x := Nat.ne_of_lt ltt
      have gex := gq
      generalize hsx : w3.heap.size = sx at *
      clear hb gq hv0 ltt
      have cx0 : w4.cell? ⟨sx, 0, none⟩ = some (.slice B2 m2 d2) := (blk_cell Vx.out 0).trans rfl
      have cx1 : w4.cell? ⟨sx, 1, none⟩ = some (.int .i64 ir) := (blk_cell Vx.out 1).trans rfl
      have cx2 : w4.cell? ⟨sx, 2, none⟩ = some (.int .i64 if_) := (blk_cell Vx.out 2).trans rfl
      go_wp2_with fail
      refine (c2.out _ _ _ _ R2.out).mono ?_
      rintro e w5 ⟨rfl, hb⟩
      clear cx0 cx1 cx2
      replace Vt := Lib.hid (blk_below Vt.out hb (blk_lt Vt.out))
      replace Vx := Lib.hid (blk_below Vx.out hb (blk_lt Vx.out))
      replace RX := Lib.hid (Es.below RX.out hb)
      replace R2 := Lib.hid (Es.below R2.out hb)
      replace HB := Lib.hid (And.intro (HB.out.1.trans (hb.mono HB.out.2)) (Nat.le_trans HB.out.2 hb.size))
      clear hb
      have cx0 : w5.cell? ⟨sx, 0, none⟩ = some (.slice B2 m2 d2) := (blk_cell Vx.out 0).trans rfl
      have cx1 : w5.cell? ⟨sx, 1, none⟩ = some (.int .i64 ir) := (blk_cell Vx.out 1).trans rfl
      have cx2 : w5.cell? ⟨sx, 2, none⟩ = some (.int .i64 if_) := (blk_cell Vx.out 2).trans rfl
      go_wp2_with fail
      refine (c3.out _ _ _ _ R2.out).mono ?_
      rintro e w6 ⟨B3, m3, d3, rfl, hrs, hb⟩
      clear cx0 cx1 cx2
      replace Vt := Lib.hid (blk_below Vt.out hb (blk_lt Vt.out))
      replace Vx := Lib.hid (blk_below Vx.out hb (blk_lt Vx.out))
      replace RX := Lib.hid (Es.below RX.out hb)
      replace R2 := Lib.hid (Es.below R2.out hb)
      replace HB := Lib.hid (And.intro (HB.out.1.trans (hb.mono HB.out.2)) (Nat.le_trans HB.out.2 hb.size))
      clear hb
      have R3 := Lib.hid hrs
      clear hrs
      have ltt := blk_lt Vt.out
      have ltx := blk_lt Vx.out
      have gq := HB.out.2
      obtain ⟨w7, hw7⟩ : ∃ W, (w6.alloc (.cells #[.slice B3 m3 d3, .int .i64 rt, .int .i64 fr] 24)) = W := ⟨_, rfl⟩
      have hb : Below w6.heap.size w6 w7 := hw7 ▸ ((Below.refl _ _).alloc (Nat.le_refl _) _)
      have hv0 : w7.heap[w6.heap.size]? = some (.cells #[.slice B3 m3 d3, .int .i64 rt, .int .i64 fr] 24) := by
        have h0 := heap_alloc_new w6 (.cells #[.slice B3 m3 d3, .int .i64 rt, .int .i64 fr] 24)
        rw [show w6.heap.size = w6.heap.size by simp [Nat.add_assoc]] at h0
        rw [← hw7]
        exact h0
      replace Vt := Lib.hid (blk_below Vt.out hb (blk_lt Vt.out))
      replace Vx := Lib.hid (blk_below Vx.out hb (blk_lt Vx.out))
      replace RX := Lib.hid (Es.below RX.out hb)
      replace R2 := Lib.hid (Es.below R2.out hb)
      replace R3 := Lib.hid (Es.below R3.out hb)
      replace HB := Lib.hid (And.intro (HB.out.1.trans (hb.mono HB.out.2)) (Nat.le_trans HB.out.2 hb.size))
      have Vy := Lib.hid hv0
      have net_y := Nat.ne_of_lt ltt
      have nex_y := Nat.ne_of_lt ltx
      have gey := gq
      generalize hsy : w6.heap.size = sy at *
      clear hb gq hv0 ltt ltx
      have cy0 : w7.cell? ⟨sy, 0, none⟩ = some (.slice B3 m3 d3) := (blk_cell Vy.out 0).trans rfl
      have cy1 : w7.cell? ⟨sy, 1, none⟩ = some (.int .i64 rt) := (blk_cell Vy.out 1).trans rfl
      have cy2 : w7.cell? ⟨sy, 2, none⟩ = some (.int .i64 fr) := (blk_cell Vy.out 2).trans rfl
      go_wp2_with fail
      refine (c4.out _ _ _ _ R3.out).mono ?_
      rintro e w8 ⟨B4, m4, d4, rfl, hrs, hb⟩
      clear cy0 cy1 cy2
      replace Vt := Lib.hid (blk_below Vt.out hb (blk_lt Vt.out))
      replace Vx := Lib.hid (blk_below Vx.out hb (blk_lt Vx.out))
      replace Vy := Lib.hid (blk_below Vy.out hb (blk_lt Vy.out))
      replace RX := Lib.hid (Es.below RX.out hb)
      replace R2 := Lib.hid (Es.below R2.out hb)
      replace R3 := Lib.hid (Es.below R3.out hb)
      replace HB := Lib.hid (And.intro (HB.out.1.trans (hb.mono HB.out.2)) (Nat.le_trans HB.out.2 hb.size))
      clear hb
      clear hrs
      have ltt := blk_lt Vt.out
      have ltx := blk_lt Vx.out
      have lty := blk_lt Vy.out
      have gq := HB.out.2
      obtain ⟨w9, hw9⟩ : ∃ W, (w8.alloc (.cells #[.slice B4 m4 d4, .int .i64 rt, .int .i64 fr] 24)) = W := ⟨_, rfl⟩
      have hb : Below w8.heap.size w8 w9 := hw9 ▸ ((Below.refl _ _).alloc (Nat.le_refl _) _)
      have hv0 : w9.heap[w8.heap.size]? = some (.cells #[.slice B4 m4 d4, .int .i64 rt, .int .i64 fr] 24) := by
        have h0 := heap_alloc_new w8 (.cells #[.slice B4 m4 d4, .int .i64 rt, .int .i64 fr] 24)
        rw [show w8.heap.size = w8.heap.size by simp [Nat.add_assoc]] at h0
        rw [← hw9]
        exact h0
      replace Vt := Lib.hid (blk_below Vt.out hb (blk_lt Vt.out))
      replace Vx := Lib.hid (blk_below Vx.out hb (blk_lt Vx.out))
      replace Vy := Lib.hid (blk_below Vy.out hb (blk_lt Vy.out))
      replace RX := Lib.hid (Es.below RX.out hb)
      replace R2 := Lib.hid (Es.below R2.out hb)
      replace R3 := Lib.hid (Es.below R3.out hb)
      replace HB := Lib.hid (And.intro (HB.out.1.trans (hb.mono HB.out.2)) (Nat.le_trans HB.out.2 hb.size))
      have Vz := Lib.hid hv0
      have net_z := Nat.ne_of_lt ltt
      have nex_z := Nat.ne_of_lt ltx
      have ney_z := Nat.ne_of_lt lty
      have gez := gq
      generalize hsz : w8.heap.size = sz at *
      clear hb gq hv0 ltt ltx lty
      have cy0 : w9.cell? ⟨sy, 0, none⟩ = some (.slice B3 m3 d3) := (blk_cell Vy.out 0).trans rfl
      have cy1 : w9.cell? ⟨sy, 1, none⟩ = some (.int .i64 rt) := (blk_cell Vy.out 1).trans rfl
      have cy2 : w9.cell? ⟨sy, 2, none⟩ = some (.int .i64 fr) := (blk_cell Vy.out 2).trans rfl
      have ct0 : w9.cell? ⟨st, 0, none⟩ = some (.slice A n c) := (blk_cell Vt.out 0).trans rfl
      have ct1 : w9.cell? ⟨st, 1, none⟩ = some (.int .i64 rt) := (blk_cell Vt.out 1).trans rfl
      have ct2 : w9.cell? ⟨st, 2, none⟩ = some (.int .i64 fr) := (blk_cell Vt.out 2).trans rfl
      go_wp2_with fail
      refine (c12.out _ _ _ _ _ _ _ _ _ _ hlen R3.out RX.out).mono ?_
      rintro e w10 ⟨rfl, hb⟩
      clear cy0 cy1 cy2 ct0 ct1 ct2
      replace Vt := Lib.hid (blk_below Vt.out hb (blk_lt Vt.out))
      replace Vx := Lib.hid (blk_below Vx.out hb (blk_lt Vx.out))
      replace Vy := Lib.hid (blk_below Vy.out hb (blk_lt Vy.out))
      replace Vz := Lib.hid (blk_below Vz.out hb (blk_lt Vz.out))
      replace RX := Lib.hid (Es.below RX.out hb)
      replace R2 := Lib.hid (Es.below R2.out hb)
      replace R3 := Lib.hid (Es.below R3.out hb)
      replace HB := Lib.hid (And.intro (HB.out.1.trans (hb.mono HB.out.2)) (Nat.le_trans HB.out.2 hb.size))
      clear hb
      have cx0 : w10.cell? ⟨sx, 0, none⟩ = some (.slice B2 m2 d2) := (blk_cell Vx.out 0).trans rfl
      have cx1 : w10.cell? ⟨sx, 1, none⟩ = some (.int .i64 ir) := (blk_cell Vx.out 1).trans rfl
      have cx2 : w10.cell? ⟨sx, 2, none⟩ = some (.int .i64 if_) := (blk_cell Vx.out 2).trans rfl
      go_wp2_with fail
      refine (c5.out _ _ _ _ R2.out).mono ?_
      rintro e w11 ⟨rfl, hb⟩
      clear cx0 cx1 cx2
      replace Vt := Lib.hid (blk_below Vt.out hb (blk_lt Vt.out))
      replace Vx := Lib.hid (blk_below Vx.out hb (blk_lt Vx.out))
      replace Vy := Lib.hid (blk_below Vy.out hb (blk_lt Vy.out))
      replace Vz := Lib.hid (blk_below Vz.out hb (blk_lt Vz.out))
      replace RX := Lib.hid (Es.below RX.out hb)
      replace R2 := Lib.hid (Es.below R2.out hb)
      replace R3 := Lib.hid (Es.below R3.out hb)
      replace HB := Lib.hid (And.intro (HB.out.1.trans (hb.mono HB.out.2)) (Nat.le_trans HB.out.2 hb.size))
      clear hb
      go_wp2
      go_ret
      exact ⟨rfl, HB.out.1⟩
    · obtain ⟨hp, hip⟩ := hbe he0
      injection hp with hp1 hp2; injection hp2 with hp2 hp3
      have b1 : (ie != 0) = true := by simp [he0]
      have b4 : (ip == 0) = true := by simp [hip]
      have HP := Lib.hid (And.intro hp1 (And.intro hp2 hp3))
      clear he0 hbk hbe hip hp1 hp2 hp3
      have c6 := Lib.hid (show ∀ (A B : Option Addr) (m d m2 d2 : Nat) W, Ns W A m d is_ → Ns W B m2 d2 ns → Calls Try.prog 15 #[.agg #[.slice A m d, .int .i64 ir, .int .i64 if_], .agg #[.slice B m2 d2, .int .i64 rt, .int .i64 fr]] W (Yes9 W true) from fun A B m d m2 d2 W h1 h2 => by rw [HP.out.1] at h1; rw [HP.out.2.1, HP.out.2.2]; exact same9 h1 h2 (by have := Ns.len h1; omega))
      clear HP
      go_enter Try.func5, Try.ntmps5
      go_wp2_with fail
      refine (alive9 _).mono ?_
      rintro e w2 ⟨rfl, hb⟩
      replace Vt := Lib.hid (blk_below Vt.out hb (blk_lt Vt.out))
      replace RX := Lib.hid (Es.below RX.out hb)
      replace HB := Lib.hid (And.intro (HB.out.1.trans (hb.mono HB.out.2)) (Nat.le_trans HB.out.2 hb.size))
      clear hb
      have ct0 : w2.cell? ⟨st, 0, none⟩ = some (.slice A n c) := (blk_cell Vt.out 0).trans rfl
      have ct1 : w2.cell? ⟨st, 1, none⟩ = some (.int .i64 rt) := (blk_cell Vt.out 1).trans rfl
      have ct2 : w2.cell? ⟨st, 2, none⟩ = some (.int .i64 fr) := (blk_cell Vt.out 2).trans rfl
      go_wp2_with fail
      refine (c1.out _ _ _ RX.out).mono ?_
      rintro e w3 ⟨B2, m2, d2, rfl, hrs, hb⟩
      clear ct0 ct1 ct2
      replace Vt := Lib.hid (blk_below Vt.out hb (blk_lt Vt.out))
      replace RX := Lib.hid (Es.below RX.out hb)
      replace HB := Lib.hid (And.intro (HB.out.1.trans (hb.mono HB.out.2)) (Nat.le_trans HB.out.2 hb.size))
      clear hb
      have R2 := Lib.hid hrs
      clear hrs
      have ltt := blk_lt Vt.out
      have gq := HB.out.2
      obtain ⟨w4, hw4⟩ : ∃ W, (w3.alloc (.cells #[.slice B2 m2 d2, .int .i64 ir, .int .i64 if_] 24)) = W := ⟨_, rfl⟩
      have hb : Below w3.heap.size w3 w4 := hw4 ▸ ((Below.refl _ _).alloc (Nat.le_refl _) _)
      have hv0 : w4.heap[w3.heap.size]? = some (.cells #[.slice B2 m2 d2, .int .i64 ir, .int .i64 if_] 24) := by
        have h0 := heap_alloc_new w3 (.cells #[.slice B2 m2 d2, .int .i64 ir, .int .i64 if_] 24)
        rw [show w3.heap.size = w3.heap.size by simp [Nat.add_assoc]] at h0
        rw [← hw4]
        exact h0
      replace Vt := Lib.hid (blk_below Vt.out hb (blk_lt Vt.out))
      replace RX := Lib.hid (Es.below RX.out hb)
      replace R2 := Lib.hid (Es.below R2.out hb)
      replace HB := Lib.hid (And.intro (HB.out.1.trans (hb.mono HB.out.2)) (Nat.le_trans HB.out.2 hb.size))
      have Vx := Lib.hid hv0
      have net_x := Nat.ne_of_lt ltt
      have gex := gq
      generalize hsx : w3.heap.size = sx at *
      clear hb gq hv0 ltt
      have cx0 : w4.cell? ⟨sx, 0, none⟩ = some (.slice B2 m2 d2) := (blk_cell Vx.out 0).trans rfl
      have cx1 : w4.cell? ⟨sx, 1, none⟩ = some (.int .i64 ir) := (blk_cell Vx.out 1).trans rfl
      have cx2 : w4.cell? ⟨sx, 2, none⟩ = some (.int .i64 if_) := (blk_cell Vx.out 2).trans rfl
      have ct0 : w4.cell? ⟨st, 0, none⟩ = some (.slice A n c) := (blk_cell Vt.out 0).trans rfl
      have ct1 : w4.cell? ⟨st, 1, none⟩ = some (.int .i64 rt) := (blk_cell Vt.out 1).trans rfl
      have ct2 : w4.cell? ⟨st, 2, none⟩ = some (.int .i64 fr) := (blk_cell Vt.out 2).trans rfl
      go_wp2_with fail
      refine (c6.out _ _ _ _ _ _ _ R2.out RX.out).mono ?_
      rintro e w5 ⟨rfl, hb⟩
      clear cx0 cx1 cx2 ct0 ct1 ct2
      replace Vt := Lib.hid (blk_below Vt.out hb (blk_lt Vt.out))
      replace Vx := Lib.hid (blk_below Vx.out hb (blk_lt Vx.out))
      replace RX := Lib.hid (Es.below RX.out hb)
      replace R2 := Lib.hid (Es.below R2.out hb)
      replace HB := Lib.hid (And.intro (HB.out.1.trans (hb.mono HB.out.2)) (Nat.le_trans HB.out.2 hb.size))
      clear hb
      go_wp2
      go_ret
      exact ⟨rfl, HB.out.1⟩
end Go.Proofs.Ytfgfohomgomidaa
