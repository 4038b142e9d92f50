/- The walk of TimerLeast: it answers true, over any world; no condition. -/
import Derived.Test.YtehpfpphpffniaaTimS
namespace Go.Proofs.Ytehpfpphpffniaa
set_option linter.unusedVariables false
set_option linter.unusedSimpArgs false
open Go.RowKit
set_option maxRecDepth 100000 in
set_option maxHeartbeats 8000000 in
theorem least12_walk (A : Option Addr) (n c : Nat) (h : List Tm) (w : World) (hx : Tms w A n c h) :
    Calls Try.prog 5 #[.slice A n c] w fun e w' => e = .returned (.bool true) ∧ Below w.heap.size w w' := by
  have hlen := hx.len
  have RX := Lib.hid hx
  clear hx
  have HB := Lib.hid (And.intro (Below.refl w.heap.size w) (Nat.le_refl w.heap.size))
  by_cases hn : (30 : Int) < (n : Int)
  · have b0 : decide ((30 : Int) < (n : Int)) = true := decide_eq_true hn
    have b0n : decide (30 < n) = true := by simp; omega
    clear hn
    go_enter Try.func5, Try.ntmps5
    go_wp2_with fail
    refine (alive12 _).mono ?_
    rintro e w1 ⟨rfl, hb⟩
    replace RX := Lib.hid (Es.below RX.out hb)
    replace HB := Lib.hid (And.intro (HB.out.1.trans (hb.mono HB.out.2)) (Nat.le_trans HB.out.2 hb.size))
    clear hb
    go_wp2
    go_ret
    exact ⟨rfl, HB.out.1⟩
  · have b0 : decide ((30 : Int) < (n : Int)) = false := decide_eq_false hn
    have b0n : decide (30 < n) = false := by simp; omega
    have hn1 : n ≤ 30 := by omega
    clear hn
    have c12 := Lib.hid (show ∀ (xs : List Tm) (A B : Option Addr) (m d m2 d2 : Nat) W, xs.length ≤ 70 → Tms W A m d xs → Tms W B m2 d2 xs → Calls Try.prog 15 #[.slice A m d, .slice B m2 d2] W (YesT W true) from fun xs A B m d m2 d2 W hl h1 h2 => sameAs12 h1 h2 (by have := h1.len; omega) rfl)
    have hll : h.length ≤ 70 := by omega
    cases hr : rightH h
    · have h0 : n ≠ 0 := fun e => by
        have h1 : h = [] := List.eq_nil_of_length_eq_zero (by omega)
        rw [h1] at hr; revert hr; decide
      have e0 : ((n : Int) == 0) = false := by simp; omega
      have e0n : (n == 0) = false := by simp; omega
      obtain ⟨z0, hz0⟩ : ∃ x : Int, x = 0 := ⟨_, rfl⟩
      obtain ⟨z1, hz1⟩ : ∃ x : Int, x = 0 := ⟨_, rfl⟩
      have hP : popH h = (h, (z0, z1), 1) := by rw [hz0, hz1]; unfold popH; rw [if_pos hr]
      have c3 := Lib.hid (show ∀ B m d W, Tms W B m d h → Calls Try.prog 11 #[.slice B m d] W (PW W h z0 z1 1) from fun B m d W hx => popAs12 hx (by have := hx.len; omega) hP)
      have c8 := Lib.hid (show ∀ B m d W, Tms W B m d h → Calls Try.prog 17 #[.slice B m d] W (YesT W false) from fun B m d W hx => hr ▸ refRight12_any B m d h W hx (by have := hx.len; omega))
      clear hP hz0 hz1 h0 hr
      go_enter Try.func5, Try.ntmps5
      go_wp2_with fail
      refine (alive12 _).mono ?_
      rintro e w1 ⟨rfl, hb⟩
      replace RX := Lib.hid (Es.below RX.out hb)
      replace HB := Lib.hid (And.intro (HB.out.1.trans (hb.mono HB.out.2)) (Nat.le_trans HB.out.2 hb.size))
      clear hb
      go_wp2_with fail
      refine (c3.out _ _ _ _ RX.out).mono ?_
      rintro e w2 ⟨B2, m2, d2, rfl, hrs, hb⟩
      replace RX := Lib.hid (Es.below RX.out hb)
      replace HB := Lib.hid (And.intro (HB.out.1.trans (hb.mono HB.out.2)) (Nat.le_trans HB.out.2 hb.size))
      clear hb
      have H2 := Lib.hid hrs
      clear hrs
      have gq := HB.out.2
      obtain ⟨w3, hw3⟩ : ∃ W, (w2.alloc (.cells #[.int .i64 z0, .int .i64 z1] 24)) = W := ⟨_, rfl⟩
      have hb : Below w2.heap.size w2 w3 := hw3 ▸ ((Below.refl _ _).alloc (Nat.le_refl _) _)
      have hv0 : w3.heap[w2.heap.size]? = some (.cells #[.int .i64 z0, .int .i64 z1] 24) := by
        have h0 := heap_alloc_new w2 (.cells #[.int .i64 z0, .int .i64 z1] 24)
        rw [show w2.heap.size = w2.heap.size by simp [Nat.add_assoc]] at h0
        rw [← hw3]
        exact h0
      replace RX := Lib.hid (Es.below RX.out hb)
      replace H2 := Lib.hid (Es.below H2.out hb)
      replace HB := Lib.hid (And.intro (HB.out.1.trans (hb.mono HB.out.2)) (Nat.le_trans HB.out.2 hb.size))
      have Vt := Lib.hid hv0
      have get := gq
      generalize hst : w2.heap.size = st at *
      clear hb gq hv0
      go_wp2_with fail
      refine (c12.out _ _ _ _ _ _ _ _ hll H2.out RX.out).mono ?_
      rintro e w4 ⟨rfl, hb⟩
      replace Vt := Lib.hid (blk_below Vt.out hb (blk_lt Vt.out))
      replace RX := Lib.hid (Es.below RX.out hb)
      replace H2 := Lib.hid (Es.below H2.out hb)
      replace HB := Lib.hid (And.intro (HB.out.1.trans (hb.mono HB.out.2)) (Nat.le_trans HB.out.2 hb.size))
      clear hb
      go_wp2_with fail
      refine (c8.out _ _ _ _ RX.out).mono ?_
      rintro e w5 ⟨rfl, hb⟩
      replace Vt := Lib.hid (blk_below Vt.out hb (blk_lt Vt.out))
      replace RX := Lib.hid (Es.below RX.out hb)
      replace H2 := Lib.hid (Es.below H2.out hb)
      replace HB := Lib.hid (And.intro (HB.out.1.trans (hb.mono HB.out.2)) (Nat.le_trans HB.out.2 hb.size))
      clear hb
      go_wp2
      go_ret
      exact ⟨rfl, HB.out.1⟩
    · by_cases hz : h = []
      · subst hz
        obtain rfl : n = 0 := by simpa using hlen.symm
        obtain ⟨z0, hz0⟩ : ∃ x : Int, x = 0 := ⟨_, rfl⟩
        obtain ⟨z1, hz1⟩ : ∃ x : Int, x = 0 := ⟨_, rfl⟩
        have hP : popH [] = ([], (z0, z1), 7) := by rw [hz0, hz1]; kernel_rfl
        have c3 := Lib.hid (show ∀ B m d W, Tms W B m d [] → Calls Try.prog 11 #[.slice B m d] W (PW W [] z0 z1 7) from fun B m d W hx => popAs12 hx (by have := hx.len; simp at this; omega) hP)
        clear hP hz0 hz1 hr hlen b0 b0n hn1
        go_enter Try.func5, Try.ntmps5
        go_wp2_with fail
        refine (alive12 _).mono ?_
        rintro e w1 ⟨rfl, hb⟩
        replace RX := Lib.hid (Es.below RX.out hb)
        replace HB := Lib.hid (And.intro (HB.out.1.trans (hb.mono HB.out.2)) (Nat.le_trans HB.out.2 hb.size))
        clear hb
        go_wp2_with fail
        refine (c3.out _ _ _ _ RX.out).mono ?_
        rintro e w2 ⟨B2, m2, d2, rfl, hrs, hb⟩
        replace RX := Lib.hid (Es.below RX.out hb)
        replace HB := Lib.hid (And.intro (HB.out.1.trans (hb.mono HB.out.2)) (Nat.le_trans HB.out.2 hb.size))
        clear hb
        have H2 := Lib.hid hrs
        clear hrs
        have gq := HB.out.2
        obtain ⟨w3, hw3⟩ : ∃ W, (w2.alloc (.cells #[.int .i64 z0, .int .i64 z1] 24)) = W := ⟨_, rfl⟩
        have hb : Below w2.heap.size w2 w3 := hw3 ▸ ((Below.refl _ _).alloc (Nat.le_refl _) _)
        have hv0 : w3.heap[w2.heap.size]? = some (.cells #[.int .i64 z0, .int .i64 z1] 24) := by
          have h0 := heap_alloc_new w2 (.cells #[.int .i64 z0, .int .i64 z1] 24)
          rw [show w2.heap.size = w2.heap.size by simp [Nat.add_assoc]] at h0
          rw [← hw3]
          exact h0
        replace RX := Lib.hid (Es.below RX.out hb)
        replace H2 := Lib.hid (Es.below H2.out hb)
        replace HB := Lib.hid (And.intro (HB.out.1.trans (hb.mono HB.out.2)) (Nat.le_trans HB.out.2 hb.size))
        have Vt := Lib.hid hv0
        have get := gq
        generalize hst : w2.heap.size = st at *
        clear hb gq hv0
        go_wp2_with fail
        refine (c12.out _ _ _ _ _ _ _ _ hll H2.out RX.out).mono ?_
        rintro e w4 ⟨rfl, hb⟩
        replace Vt := Lib.hid (blk_below Vt.out hb (blk_lt Vt.out))
        replace RX := Lib.hid (Es.below RX.out hb)
        replace H2 := Lib.hid (Es.below H2.out hb)
        replace HB := Lib.hid (And.intro (HB.out.1.trans (hb.mono HB.out.2)) (Nat.le_trans HB.out.2 hb.size))
        clear hb
        go_wp2
        go_ret
        exact ⟨rfl, HB.out.1⟩
      · have hR := rt_iff.1 hr
        obtain ⟨q1, q2, q3, q4, q5⟩ := least12 hR hz
        have hP := pop_eq hR hz
        obtain ⟨⟨y0, y1⟩, hY⟩ : ∃ x, tmAt h 0 = x := ⟨_, rfl⟩
        obtain ⟨xs, hX⟩ : ∃ x, wioT h 0 = x := ⟨_, rfl⟩
        obtain ⟨ss, hS⟩ : ∃ x, sortH h = x := ⟨_, rfl⟩
        obtain ⟨sa, hA⟩ : ∃ x, sortH xs = x := ⟨_, rfl⟩
        rw [hX, hY] at hP
        rw [hX] at q1 q2
        rw [hX, hY, hS, hA] at q3
        rw [hS] at q4
        rw [hX, hY] at q5
        have HBF := Lib.hid q5
        have hxl : xs.length ≤ 70 := by omega
        have hsa : sa.length ≤ 70 := by have := congrArg List.length q3; simp at this; omega
        have HD := Lib.hid (show ss.drop 1 = sa from by rw [q3]; rfl)
        have H0 := Lib.hid (show tmAt ss 0 = (y0, y1) from by rw [q3]; rfl)
        have HXL := Lib.hid q1
        have HSL := Lib.hid q4
        have hn0 : 0 < n := by have := List.length_pos_iff.2 hz; omega
        have c3 := Lib.hid (show ∀ B m d W, Tms W B m d h → Calls Try.prog 11 #[.slice B m d] W (PW W xs y0 y1 0) from fun B m d W hx => popAs12 hx (by have := hx.len; omega) hP)
        have c4 := Lib.hid (show ∀ B m d W, Tms W B m d xs → Calls Try.prog 16 #[.slice B m d] W (YesT W true) from fun B m d W hx => rightAs12 hx (by have := hx.len; omega) q2)
        have c5 := Lib.hid (show ∀ B m d W, Tms W B m d h → Calls Try.prog 21 #[.slice B m d] W (SW W ss) from fun B m d W hx => sortAs12 hx (by have := hx.len; omega) hS)
        have c6 := Lib.hid (show ∀ B m d W, Tms W B m d xs → Calls Try.prog 21 #[.slice B m d] W (SW W sa) from fun B m d W hx => sortAs12 hx (by have := hx.len; omega) hA)
        have HF := Lib.hid (fun (a1 a2 b1 b2 : Int) (W : World) => refBefore_any a1 a2 b1 b2 W)
        have HEQ := Lib.hid (fun W => tm_eql12 y0 y1 W)
        have HLN := Lib.hid hlen
        clear q1 q2 q3 q4 q5 hP hY hX hS hA hR hz hr hlen hll
        go_enter Try.func5, Try.ntmps5
        go_wp2_with fail
        refine (alive12 _).mono ?_
        rintro e w1 ⟨rfl, hb⟩
        replace RX := Lib.hid (Es.below RX.out hb)
        replace HB := Lib.hid (And.intro (HB.out.1.trans (hb.mono HB.out.2)) (Nat.le_trans HB.out.2 hb.size))
        clear hb
        go_wp2_with fail
        refine (c3.out _ _ _ _ RX.out).mono ?_
        rintro e w2 ⟨B2, m2, d2, rfl, hrs, hb⟩
        replace RX := Lib.hid (Es.below RX.out hb)
        replace HB := Lib.hid (And.intro (HB.out.1.trans (hb.mono HB.out.2)) (Nat.le_trans HB.out.2 hb.size))
        clear hb
        have H2 := Lib.hid hrs
        clear hrs
        have gq := HB.out.2
        obtain ⟨w3, hw3⟩ : ∃ W, (w2.alloc (.cells #[.int .i64 y0, .int .i64 y1] 24)) = W := ⟨_, rfl⟩
        have hb : Below w2.heap.size w2 w3 := hw3 ▸ ((Below.refl _ _).alloc (Nat.le_refl _) _)
        have hv0 : w3.heap[w2.heap.size]? = some (.cells #[.int .i64 y0, .int .i64 y1] 24) := by
          have h0 := heap_alloc_new w2 (.cells #[.int .i64 y0, .int .i64 y1] 24)
          rw [show w2.heap.size = w2.heap.size by simp [Nat.add_assoc]] at h0
          rw [← hw3]
          exact h0
        replace RX := Lib.hid (Es.below RX.out hb)
        replace H2 := Lib.hid (Es.below H2.out hb)
        replace HB := Lib.hid (And.intro (HB.out.1.trans (hb.mono HB.out.2)) (Nat.le_trans HB.out.2 hb.size))
        have Vt := Lib.hid hv0
        have get := gq
        generalize hst : w2.heap.size = st at *
        clear hb gq hv0
        have HM2 := Lib.hid (Tms.len H2.out)
        have hmn : m2 + 1 = n := by have := HM2.out; have := HXL.out; have := HLN.out; omega
        go_wp2
        go_loopw [6] (fun iv wr => ∃ (i : Nat), iv = .int .i64 (i : Int) ∧ i ≤ m2 ∧ Hid (Below w3.heap.size w3 wr)) (fun iv _ => m2 - (intOf iv).toNat)
        case atStart => exact ⟨0, rfl, by omega, Below.refl _ _⟩
        case round =>
          obtain ⟨i, rfl, hi, HBr⟩ := hrel
          have hb := HBr.out
          replace Vt := Lib.hid (blk_below Vt.out hb (blk_lt Vt.out))
          replace RX := Lib.hid (Es.below RX.out hb)
          replace H2 := Lib.hid (Es.below H2.out hb)
          replace HB := Lib.hid (And.intro (HB.out.1.trans (hb.mono HB.out.2)) (Nat.le_trans HB.out.2 hb.size))
          clear hb
          by_cases hlt : i < m2
          · have c1 : decide ((i : Int) < (m2 : Int)) = true := decide_eq_true (by omega)
            have c1n : decide (i < m2) = true := decide_eq_true hlt
            have i0 : (0 : Int) ≤ (i : Int) := by omega
            have i1 : (i : Int) < (m2 : Int) := by omega
            obtain ⟨b, off, rfl, hb0, g0, g1⟩ := Tms.look H2.out i hlt
            have hbf := HBF.out i (by have := HM2.out; omega)
            obtain ⟨⟨tw, tk⟩, htk⟩ : ∃ x, tmAt xs i = x := ⟨_, rfl⟩
            rw [htk] at g0 g1 hbf
            simp only at g0 g1
            have BF := HF.out y0 y1 tw tk
            rw [decide_eq_true hbf] at BF
            replace BF := Lib.hid BF
            have HB0 := Lib.hid hb0; have G0 := Lib.hid g0; have G1 := Lib.hid g1
            clear htk hbf g0 g1 hb0 hlt
            go_upto_region 11 with fail
            refine wp_region_noPanic ?_
            refine wp_region_held_drew (S := (fun wv => Below wr.heap.size wr wv)) (by kernel_rfl) ((Below.refl wr.heap.size wr).drew) (fun hS => ?_)
            refine wpAnyH_take (i := 0) (oi := ⟨some 40, .load 24 (.tmp 4), 24, "law.go:79", #[], none⟩) (v := .agg (([.int .i64 y0, .int .i64 y1] : List Value)).toArray) rfl (by kernel_rfl) (by kernel_rfl) (by kernel_rfl) (fun _ _ _ h => h) (yieldsIf_load_mid (by rfl) _ _ (by rfl) (st) (0) (by rfl) (([.int .i64 y0, .int .i64 y1] : List Value)) _ (fun wv hS => blk_rngl (blk_below Vt.out hS (blk_lt Vt.out))) Try.underlying24 (by rfl) (by kernel_rfl)) hS ?_
            try simp only [Act.put, List.setIfInBounds_toArray, List.set_cons_zero, List.set_cons_succ]
            refine wpAnyH_take (i := 1) (oi := ⟨some 41, .move (.tmp 3), 22, "law.go:79", #[], none⟩) (v := ?_) rfl (by kernel_rfl) (by kernel_rfl) (by kernel_rfl) (fun _ _ _ h => h) (Or.inl ⟨by rfl, ?_⟩) hS ?_
            rotate_left
            · intro wv _; go_simp; try with_reducible rfl
            try simp only [Act.put, List.setIfInBounds_toArray, List.set_cons_zero, List.set_cons_succ]
            refine wpAnyH_take (i := 2) (oi := ⟨some 42, .move (.tmp 6), 3, "law.go:79", #[], none⟩) (v := ?_) rfl (by kernel_rfl) (by kernel_rfl) (by kernel_rfl) (fun _ _ _ h => h) (Or.inl ⟨by rfl, ?_⟩) hS ?_
            rotate_left
            · intro wv _; go_simp; try with_reducible rfl
            try simp only [Act.put, List.setIfInBounds_toArray, List.set_cons_zero, List.set_cons_succ]
            refine wpAnyH_take (i := 3) (oi := ⟨some 43, .indexAddr 22 (.tmp 41) (.tmp 42), 0, "law.go:79", #[⟨1, .data⟩, ⟨2, .data⟩], none⟩) (v := ?_) rfl (by kernel_rfl) (by kernel_rfl) (by kernel_rfl) (fun _ _ _ h => h) (Or.inl ⟨by rfl, ?_⟩) hS ?_
            rotate_left
            · intro wv _; go_simp; try with_reducible rfl
            try simp only [Act.put, List.setIfInBounds_toArray, List.set_cons_zero, List.set_cons_succ]
            refine wpAnyH_take (i := 4) (oi := ⟨some 44, .load 24 (.tmp 43), 24, "law.go:79", #[⟨3, .data⟩], none⟩) (v := .agg (([.int .i64 tw, .int .i64 tk] : List Value)).toArray) rfl (by kernel_rfl) (by kernel_rfl) (by kernel_rfl) (fun _ _ _ h => h) (yieldsIf_load_mid (by rfl) _ _ (by rfl) (b) (off + i * 2) (by rfl) (([.int .i64 tw, .int .i64 tk] : List Value)) _ (fun wv hS => tm_range ((hS.cell (p := ⟨b, off + i * 2, none⟩) HB0.out).trans G0.out) ((hS.cell (p := ⟨b, off + i * 2 + 1, none⟩) HB0.out).trans G1.out)) Try.underlying24 (by rfl) (by kernel_rfl)) hS ?_
            try simp only [Act.put, List.setIfInBounds_toArray, List.set_cons_zero, List.set_cons_succ]
            refine wpAnyH_ready (rs := [5]) (by kernel_rfl) (by simp) (AllReadyH.cons (o := ⟨some 45, .call { callee := .value (.func 23), args := #[.tmp 40, .tmp 44], argTypes := #[24, 24] }, 4, "law.go:79", #[⟨0, .data⟩, ⟨4, .data⟩], none⟩) rfl (fun K hK => ?_) AllReadyH.nil)
            go_simp
            refine (BF.out _).mono ?_; rintro e u1 ⟨rfl, hb⟩
            replace hS := hS.trans (hb.mono hS.size)
            clear hb
            go_wp2_with fail
            refine Shut.out hK _ _ hS (fun _ => ?_)
            clear hK K
            try simp only [Act.put, List.setIfInBounds_toArray, List.set_cons_zero, List.set_cons_succ]
            refine wpAnyH_take (i := 6) (oi := ⟨some 46, .unOp .not 4 (.tmp 45), 4, "law.go:79", #[⟨5, .data⟩], none⟩) (v := ?_) rfl (by kernel_rfl) (by kernel_rfl) (by kernel_rfl) (fun _ _ _ h => h) (Or.inl ⟨by rfl, ?_⟩) hS ?_
            rotate_left
            · intro wv _; go_simp; try with_reducible rfl
            try simp only [Act.put, List.setIfInBounds_toArray, List.set_cons_zero, List.set_cons_succ]
            refine wpAnyH_done (by kernel_rfl) ?_ _
            refine NoPanic.normal ?_
            go_wp2
            go_roundw
            case rel => exact ⟨i + 1, by go_num, by omega, Lib.hid (HBr.out.trans (hS.mono HBr.out.size))⟩
            case measure => simp [intOf]; omega
          · have c1 : decide ((i : Int) < (m2 : Int)) = false := decide_eq_false (by omega)
            have c1n : decide (i < m2) = false := decide_eq_false hlt
            clear hi hlt
            go_wp2_with fail
            refine (c5.out _ _ _ _ RX.out).mono ?_
            rintro e w4 ⟨B6, m6, d6, rfl, hrs, hb⟩
            replace Vt := Lib.hid (blk_below Vt.out hb (blk_lt Vt.out))
            replace RX := Lib.hid (Es.below RX.out hb)
            replace H2 := Lib.hid (Es.below H2.out hb)
            replace HB := Lib.hid (And.intro (HB.out.1.trans (hb.mono HB.out.2)) (Nat.le_trans HB.out.2 hb.size))
            clear hb
            have H6 := Lib.hid hrs
            clear hrs
            have hm6 : m6 = n := by have := Tms.len H6.out; have := HSL.out; have := HLN.out; omega
            subst hm6
            obtain ⟨b, off, rfl, hb0, g0, g1⟩ := Tms.look H6.out 0 hn0
            rw [H0.out, Nat.zero_mul, Nat.add_zero] at g0 g1
            simp only at g0 g1
            have HB0 := Lib.hid hb0; have G0 := Lib.hid g0; have G1 := Lib.hid g1
            obtain ⟨A8, c8, hsl, HTL⟩ := tms_drop (P := Try.prog) H6.out 22 unTms szTms 1 1 rfl (by omega)
            rw [HD.out] at HTL
            replace HTL := Lib.hid HTL
            have HSL2 := Lib.hid hsl
            have s1 : IntKind.i64.wrap ((m6 : Int) - 1) = (m2 : Int) := by rw [IntKind.wrap_i64]; omega
            have s2 : ((m2 : Int) == (m2 : Int)) = true := by simp
            have s3 : ((m6 : Int) == (m6 : Int)) = true := by simp
            have s4 : (0 : Int) < (m6 : Int) := by omega
            clear g0 g1 hb0 hsl
            go_upto_region 14 with fail
            refine wp_region_noPanic ?_
            refine wp_region_held_drew (S := (fun wv => Below w4.heap.size w4 wv)) (by kernel_rfl) ((Below.refl w4.heap.size w4).drew) (fun hS => ?_)
            refine wpAnyH_take (i := 0) (oi := ⟨some 49, .move (.tmp 3), 22, "law.go:84", #[], none⟩) (v := ?_) rfl (by kernel_rfl) (by kernel_rfl) (by kernel_rfl) (fun _ _ _ h => h) (Or.inl ⟨by rfl, ?_⟩) hS ?_
            rotate_left
            · intro wv _; go_simp; try with_reducible rfl
            try simp only [Act.put, List.setIfInBounds_toArray, List.set_cons_zero, List.set_cons_succ]
            refine wpAnyH_ready (rs := [1]) (by kernel_rfl) (by simp) (AllReadyH.cons (o := ⟨some 50, .call { callee := .value (.func 16), args := #[.tmp 49], argTypes := #[22] }, 4, "law.go:84", #[⟨0, .data⟩], none⟩) rfl (fun K hK => ?_) AllReadyH.nil)
            go_simp
            refine (c4.out _ _ _ _ (Es.below H2.out hS)).mono ?_; rintro e u1 ⟨rfl, hb⟩
            replace hS := hS.trans (hb.mono hS.size)
            clear hb
            go_wp2_with fail
            refine Shut.out hK _ _ hS (fun _ => ?_)
            clear hK K
            try simp only [Act.put, List.setIfInBounds_toArray, List.set_cons_zero, List.set_cons_succ]
            refine wpAnyH_take (i := 2) (oi := ⟨some 51, .move (.tmp 50), 4, "law.go:84", #[⟨1, .data⟩, ⟨1, .chain⟩], none⟩) (v := ?_) rfl (by kernel_rfl) (by kernel_rfl) (by kernel_rfl) (fun _ _ _ h => h) (Or.inl ⟨by rfl, ?_⟩) hS ?_
            rotate_left
            · intro wv _; go_simp; try with_reducible rfl
            try simp only [Act.put, List.setIfInBounds_toArray, List.set_cons_zero, List.set_cons_succ]
            refine wpAnyH_take (i := 3) (oi := ⟨some 52, .move (.tmp 3), 22, "law.go:84", #[⟨2, .guard⟩], some (2, true)⟩) (v := ?_) rfl (by kernel_rfl) (by kernel_rfl) (by kernel_rfl) (fun _ _ _ h => h) (Or.inl ⟨by rfl, ?_⟩) hS ?_
            rotate_left
            · intro wv _; go_simp; try with_reducible rfl
            try simp only [Act.put, List.setIfInBounds_toArray, List.set_cons_zero, List.set_cons_succ]
            refine wpAnyH_take (i := 4) (oi := ⟨some 53, .call { callee := .builtin .len, args := #[.tmp 52], argTypes := #[22] }, 3, "law.go:84", #[⟨3, .data⟩, ⟨2, .guard⟩], some (2, true)⟩) (v := ?_) rfl (by kernel_rfl) (by kernel_rfl) (by kernel_rfl) (fun _ _ _ h => h) (Or.inl ⟨by rfl, ?_⟩) hS ?_
            rotate_left
            · intro wv _; go_simp; try with_reducible rfl
            try simp only [Act.put, List.setIfInBounds_toArray, List.set_cons_zero, List.set_cons_succ]
            refine wpAnyH_take (i := 5) (oi := ⟨some 54, .move (.tmp 0), 22, "law.go:84", #[⟨2, .guard⟩], some (2, true)⟩) (v := ?_) rfl (by kernel_rfl) (by kernel_rfl) (by kernel_rfl) (fun _ _ _ h => h) (Or.inl ⟨by rfl, ?_⟩) hS ?_
            rotate_left
            · intro wv _; go_simp; try with_reducible rfl
            try simp only [Act.put, List.setIfInBounds_toArray, List.set_cons_zero, List.set_cons_succ]
            refine wpAnyH_take (i := 6) (oi := ⟨some 55, .call { callee := .builtin .len, args := #[.tmp 54], argTypes := #[22] }, 3, "law.go:84", #[⟨5, .data⟩, ⟨2, .guard⟩], some (2, true)⟩) (v := ?_) rfl (by kernel_rfl) (by kernel_rfl) (by kernel_rfl) (fun _ _ _ h => h) (Or.inl ⟨by rfl, ?_⟩) hS ?_
            rotate_left
            · intro wv _; go_simp; try with_reducible rfl
            try simp only [Act.put, List.setIfInBounds_toArray, List.set_cons_zero, List.set_cons_succ]
            refine wpAnyH_take (i := 7) (oi := ⟨some 56, .binOp .sub 3 (.tmp 55) (.const (Value.int IntKind.i64 1)) 3, 3, "law.go:84", #[⟨6, .data⟩, ⟨2, .guard⟩], some (2, true)⟩) (v := ?_) rfl (by kernel_rfl) (by kernel_rfl) (by kernel_rfl) (fun _ _ _ h => h) (Or.inl ⟨by rfl, ?_⟩) hS ?_
            rotate_left
            · intro wv _; go_simp; try with_reducible rfl
            try simp only [Act.put, List.setIfInBounds_toArray, List.set_cons_zero, List.set_cons_succ]
            refine wpAnyH_take (i := 8) (oi := ⟨some 57, .binOp .eql 3 (.tmp 53) (.tmp 56) 3, 4, "law.go:84", #[⟨4, .data⟩, ⟨7, .data⟩, ⟨2, .guard⟩], some (2, true)⟩) (v := ?_) rfl (by kernel_rfl) (by kernel_rfl) (by kernel_rfl) (fun _ _ _ h => h) (Or.inl ⟨by rfl, ?_⟩) hS ?_
            rotate_left
            · intro wv _; go_simp; try with_reducible rfl
            try simp only [Act.put, List.setIfInBounds_toArray, List.set_cons_zero, List.set_cons_succ]
            refine wpAnyH_take (i := 9) (oi := ⟨some 58, .pick (.tmp 51) (.tmp 57) (.const (Value.bool false)), 4, "law.go:84", #[⟨2, .data⟩, ⟨8, .data⟩], none⟩) (v := ?_) rfl (by kernel_rfl) (by kernel_rfl) (by kernel_rfl) (fun _ _ _ h => h) (Or.inl ⟨by rfl, ?_⟩) hS ?_
            rotate_left
            · intro wv _; go_simp; try with_reducible rfl
            try simp only [Act.put, List.setIfInBounds_toArray, List.set_cons_zero, List.set_cons_succ]
            refine wpAnyH_take (i := 10) (oi := ⟨some 59, .move (.tmp 58), 4, "law.go:84", #[⟨9, .data⟩, ⟨2, .chain⟩], none⟩) (v := ?_) rfl (by kernel_rfl) (by kernel_rfl) (by kernel_rfl) (fun _ _ _ h => h) (Or.inl ⟨by rfl, ?_⟩) hS ?_
            rotate_left
            · intro wv _; go_simp; try with_reducible rfl
            try simp only [Act.put, List.setIfInBounds_toArray, List.set_cons_zero, List.set_cons_succ]
            refine wpAnyH_take (i := 11) (oi := ⟨some 60, .move (.tmp 7), 22, "law.go:84", #[⟨10, .guard⟩], some (10, true)⟩) (v := ?_) rfl (by kernel_rfl) (by kernel_rfl) (by kernel_rfl) (fun _ _ _ h => h) (Or.inl ⟨by rfl, ?_⟩) hS ?_
            rotate_left
            · intro wv _; go_simp; try with_reducible rfl
            try simp only [Act.put, List.setIfInBounds_toArray, List.set_cons_zero, List.set_cons_succ]
            refine wpAnyH_take (i := 12) (oi := ⟨some 61, .call { callee := .builtin .len, args := #[.tmp 60], argTypes := #[22] }, 3, "law.go:84", #[⟨11, .data⟩, ⟨10, .guard⟩], some (10, true)⟩) (v := ?_) rfl (by kernel_rfl) (by kernel_rfl) (by kernel_rfl) (fun _ _ _ h => h) (Or.inl ⟨by rfl, ?_⟩) hS ?_
            rotate_left
            · intro wv _; go_simp; try with_reducible rfl
            try simp only [Act.put, List.setIfInBounds_toArray, List.set_cons_zero, List.set_cons_succ]
            refine wpAnyH_take (i := 13) (oi := ⟨some 62, .move (.tmp 0), 22, "law.go:84", #[⟨10, .guard⟩], some (10, true)⟩) (v := ?_) rfl (by kernel_rfl) (by kernel_rfl) (by kernel_rfl) (fun _ _ _ h => h) (Or.inl ⟨by rfl, ?_⟩) hS ?_
            rotate_left
            · intro wv _; go_simp; try with_reducible rfl
            try simp only [Act.put, List.setIfInBounds_toArray, List.set_cons_zero, List.set_cons_succ]
            refine wpAnyH_take (i := 14) (oi := ⟨some 63, .call { callee := .builtin .len, args := #[.tmp 62], argTypes := #[22] }, 3, "law.go:84", #[⟨13, .data⟩, ⟨10, .guard⟩], some (10, true)⟩) (v := ?_) rfl (by kernel_rfl) (by kernel_rfl) (by kernel_rfl) (fun _ _ _ h => h) (Or.inl ⟨by rfl, ?_⟩) hS ?_
            rotate_left
            · intro wv _; go_simp; try with_reducible rfl
            try simp only [Act.put, List.setIfInBounds_toArray, List.set_cons_zero, List.set_cons_succ]
            refine wpAnyH_take (i := 15) (oi := ⟨some 64, .binOp .eql 3 (.tmp 61) (.tmp 63) 3, 4, "law.go:84", #[⟨12, .data⟩, ⟨14, .data⟩, ⟨10, .guard⟩], some (10, true)⟩) (v := ?_) rfl (by kernel_rfl) (by kernel_rfl) (by kernel_rfl) (fun _ _ _ h => h) (Or.inl ⟨by rfl, ?_⟩) hS ?_
            rotate_left
            · intro wv _; go_simp; try with_reducible rfl
            try simp only [Act.put, List.setIfInBounds_toArray, List.set_cons_zero, List.set_cons_succ]
            refine wpAnyH_take (i := 16) (oi := ⟨some 65, .pick (.tmp 59) (.tmp 64) (.const (Value.bool false)), 4, "law.go:84", #[⟨10, .data⟩, ⟨15, .data⟩], none⟩) (v := ?_) rfl (by kernel_rfl) (by kernel_rfl) (by kernel_rfl) (fun _ _ _ h => h) (Or.inl ⟨by rfl, ?_⟩) hS ?_
            rotate_left
            · intro wv _; go_simp; try with_reducible rfl
            try simp only [Act.put, List.setIfInBounds_toArray, List.set_cons_zero, List.set_cons_succ]
            refine wpAnyH_take (i := 17) (oi := ⟨some 66, .move (.tmp 65), 4, "law.go:84", #[⟨16, .data⟩, ⟨10, .chain⟩], none⟩) (v := ?_) rfl (by kernel_rfl) (by kernel_rfl) (by kernel_rfl) (fun _ _ _ h => h) (Or.inl ⟨by rfl, ?_⟩) hS ?_
            rotate_left
            · intro wv _; go_simp; try with_reducible rfl
            try simp only [Act.put, List.setIfInBounds_toArray, List.set_cons_zero, List.set_cons_succ]
            refine wpAnyH_take (i := 18) (oi := ⟨some 67, .move (.tmp 7), 22, "law.go:84", #[⟨17, .guard⟩], some (17, true)⟩) (v := ?_) rfl (by kernel_rfl) (by kernel_rfl) (by kernel_rfl) (fun _ _ _ h => h) (Or.inl ⟨by rfl, ?_⟩) hS ?_
            rotate_left
            · intro wv _; go_simp; try with_reducible rfl
            try simp only [Act.put, List.setIfInBounds_toArray, List.set_cons_zero, List.set_cons_succ]
            refine wpAnyH_take (i := 19) (oi := ⟨some 68, .indexAddr 22 (.tmp 67) (.const (Value.int IntKind.i64 0)), 0, "law.go:84", #[⟨18, .data⟩, ⟨17, .guard⟩], some (17, true)⟩) (v := ?_) rfl (by kernel_rfl) (by kernel_rfl) (by kernel_rfl) (fun _ _ _ h => h) (Or.inl ⟨by rfl, ?_⟩) hS ?_
            rotate_left
            · intro wv _; go_simp; try with_reducible rfl
            try simp only [Act.put, List.setIfInBounds_toArray, List.set_cons_zero, List.set_cons_succ]
            refine wpAnyH_take (i := 20) (oi := ⟨some 69, .load 24 (.tmp 68), 24, "law.go:84", #[⟨19, .data⟩, ⟨17, .guard⟩], some (17, true)⟩) (v := .agg (([.int .i64 y0, .int .i64 y1] : List Value)).toArray) rfl (by kernel_rfl) (by kernel_rfl) (by kernel_rfl) (fun _ _ _ h => h) (yieldsIf_load_mid (by rfl) _ _ (by rfl) (b) (off) (by rfl) (([.int .i64 y0, .int .i64 y1] : List Value)) _ (fun wv hS => tm_range ((hS.cell (p := ⟨b, off, none⟩) HB0.out).trans G0.out) ((hS.cell (p := ⟨b, off + 1, none⟩) HB0.out).trans G1.out)) Try.underlying24 (by rfl) (by kernel_rfl)) hS ?_
            try simp only [Act.put, List.setIfInBounds_toArray, List.set_cons_zero, List.set_cons_succ]
            refine wpAnyH_take (i := 21) (oi := ⟨some 70, .load 24 (.tmp 4), 24, "law.go:84", #[⟨17, .guard⟩], some (17, true)⟩) (v := .agg (([.int .i64 y0, .int .i64 y1] : List Value)).toArray) rfl (by kernel_rfl) (by kernel_rfl) (by kernel_rfl) (fun _ _ _ h => h) (yieldsIf_load_mid (by rfl) _ _ (by rfl) (st) (0) (by rfl) (([.int .i64 y0, .int .i64 y1] : List Value)) _ (fun wv hS => blk_rngl (blk_below Vt.out hS (blk_lt Vt.out))) Try.underlying24 (by rfl) (by kernel_rfl)) hS ?_
            try simp only [Act.put, List.setIfInBounds_toArray, List.set_cons_zero, List.set_cons_succ]
            refine wpAnyH_take (i := 22) (oi := ⟨some 71, .binOp .eql 24 (.tmp 69) (.tmp 70) 24, 4, "law.go:84", #[⟨20, .data⟩, ⟨21, .data⟩, ⟨17, .guard⟩], some (17, true)⟩) (v := ?_) rfl (by kernel_rfl) (by kernel_rfl) (by kernel_rfl) (fun _ _ _ h => h) (Or.inl ⟨by rfl, ?_⟩) hS ?_
            rotate_left
            · intro wv hS; have hrun := HEQ.out; go_simp; try with_reducible rfl
            try simp only [Act.put, List.setIfInBounds_toArray, List.set_cons_zero, List.set_cons_succ]
            refine wpAnyH_take (i := 23) (oi := ⟨some 72, .pick (.tmp 66) (.tmp 71) (.const (Value.bool false)), 4, "law.go:84", #[⟨17, .data⟩, ⟨22, .data⟩], none⟩) (v := ?_) rfl (by kernel_rfl) (by kernel_rfl) (by kernel_rfl) (fun _ _ _ h => h) (Or.inl ⟨by rfl, ?_⟩) hS ?_
            rotate_left
            · intro wv _; go_simp; try with_reducible rfl
            try simp only [Act.put, List.setIfInBounds_toArray, List.set_cons_zero, List.set_cons_succ]
            refine wpAnyH_take (i := 24) (oi := ⟨some 73, .move (.tmp 72), 4, "law.go:84", #[⟨23, .data⟩, ⟨17, .chain⟩], none⟩) (v := ?_) rfl (by kernel_rfl) (by kernel_rfl) (by kernel_rfl) (fun _ _ _ h => h) (Or.inl ⟨by rfl, ?_⟩) hS ?_
            rotate_left
            · intro wv _; go_simp; try with_reducible rfl
            try simp only [Act.put, List.setIfInBounds_toArray, List.set_cons_zero, List.set_cons_succ]
            refine wpAnyH_take (i := 25) (oi := ⟨some 74, .move (.tmp 3), 22, "law.go:84", #[⟨24, .guard⟩], some (24, true)⟩) (v := ?_) rfl (by kernel_rfl) (by kernel_rfl) (by kernel_rfl) (fun _ _ _ h => h) (Or.inl ⟨by rfl, ?_⟩) hS ?_
            rotate_left
            · intro wv _; go_simp; try with_reducible rfl
            try simp only [Act.put, List.setIfInBounds_toArray, List.set_cons_zero, List.set_cons_succ]
            refine wpAnyH_take (i := 27) (oi := ⟨some 76, .move (.tmp 7), 22, "law.go:84", #[⟨24, .guard⟩], some (24, true)⟩) (v := ?_) rfl (by kernel_rfl) (by kernel_rfl) (by kernel_rfl) (fun _ _ _ h => h) (Or.inl ⟨by rfl, ?_⟩) hS ?_
            rotate_left
            · intro wv _; go_simp; try with_reducible rfl
            try simp only [Act.put, List.setIfInBounds_toArray, List.set_cons_zero, List.set_cons_succ]
            refine wpAnyH_take (i := 28) (oi := ⟨some 77, .slice 22 (.tmp 76) (some (.const (Value.int IntKind.i64 1))) none none, 22, "law.go:84", #[⟨27, .data⟩, ⟨24, .guard⟩], some (24, true)⟩) (v := ?_) rfl (by kernel_rfl) (by kernel_rfl) (by kernel_rfl) (fun _ _ _ h => h) (Or.inl ⟨by rfl, ?_⟩) hS ?_
            rotate_left
            · intro wv hS; have hrun := HSL2.out; go_simp; try with_reducible rfl
            try simp only [Act.put, List.setIfInBounds_toArray, List.set_cons_zero, List.set_cons_succ]
            refine wpAnyH_ready (rs := [26]) (by kernel_rfl) (by simp) (AllReadyH.cons (o := ⟨some 75, .call { callee := .value (.func 21), args := #[.tmp 74], argTypes := #[22] }, 22, "law.go:84", #[⟨25, .data⟩, ⟨24, .chain⟩, ⟨24, .guard⟩], some (24, true)⟩) rfl (fun K hK => ?_) AllReadyH.nil)
            go_simp
            refine (c6.out _ _ _ _ (Es.below H2.out hS)).mono ?_; rintro e u2 ⟨B7, m7, d7, rfl, hrs, hb⟩
            have H7 := Lib.hid hrs
            have HT := Lib.hid (hS.trans (hb.mono hS.size))
            clear hrs hb
            go_wp2_with fail
            refine Shut.out hK _ _ (by first | exact hS | trivial) (fun _ => wpAnyH_up (S' := (fun wv => Below u2.heap.size u2 wv)) ?_ ?_)
            · exact fun wv h => HT.out.trans (h.mono HT.out.size)
            replace hS := (Below.refl u2.heap.size u2)
            clear hK K
            try simp only [Act.put, List.setIfInBounds_toArray, List.set_cons_zero, List.set_cons_succ]
            refine wpAnyH_ready (rs := [29]) (by kernel_rfl) (by simp) (AllReadyH.cons (o := ⟨some 78, .call { callee := .value (.func 15), args := #[.tmp 75, .tmp 77], argTypes := #[22, 22] }, 4, "law.go:84", #[⟨26, .data⟩, ⟨28, .data⟩, ⟨26, .chain⟩, ⟨24, .guard⟩], some (24, true)⟩) rfl (fun K hK => ?_) AllReadyH.nil)
            go_simp
            refine (c12.out _ _ _ _ _ _ _ _ hsa (Es.below H7.out hS) (Es.below HTL.out (HT.out.trans (hS.mono HT.out.size)))).mono ?_; rintro e u3 ⟨rfl, hb⟩
            replace hS := hS.trans (hb.mono hS.size)
            clear hb
            go_wp2_with fail
            refine Shut.out hK _ _ hS (fun _ => ?_)
            clear hK K
            try simp only [Act.put, List.setIfInBounds_toArray, List.set_cons_zero, List.set_cons_succ]
            refine wpAnyH_take (i := 30) (oi := ⟨some 79, .pick (.tmp 73) (.tmp 78) (.const (Value.bool false)), 4, "law.go:84", #[⟨24, .data⟩, ⟨29, .data⟩], none⟩) (v := ?_) rfl (by kernel_rfl) (by kernel_rfl) (by kernel_rfl) (fun _ _ _ h => h) (Or.inl ⟨by rfl, ?_⟩) hS ?_
            rotate_left
            · intro wv _; go_simp; try with_reducible rfl
            try simp only [Act.put, List.setIfInBounds_toArray, List.set_cons_zero, List.set_cons_succ]
            refine wpAnyH_take (i := 31) (oi := ⟨some 2, .assign (.tmp 79), 4, "law.go:84", #[⟨30, .data⟩, ⟨29, .chain⟩, ⟨0, .phase⟩, ⟨1, .phase⟩, ⟨2, .phase⟩, ⟨3, .phase⟩, ⟨4, .phase⟩, ⟨5, .phase⟩, ⟨6, .phase⟩, ⟨7, .phase⟩, ⟨8, .phase⟩, ⟨9, .phase⟩, ⟨10, .phase⟩, ⟨11, .phase⟩, ⟨12, .phase⟩, ⟨13, .phase⟩, ⟨14, .phase⟩, ⟨15, .phase⟩, ⟨16, .phase⟩, ⟨17, .phase⟩, ⟨18, .phase⟩, ⟨19, .phase⟩, ⟨20, .phase⟩, ⟨21, .phase⟩, ⟨22, .phase⟩, ⟨23, .phase⟩, ⟨24, .phase⟩, ⟨25, .phase⟩, ⟨26, .phase⟩, ⟨27, .phase⟩, ⟨28, .phase⟩, ⟨29, .phase⟩, ⟨30, .phase⟩], none⟩) (v := ?_) rfl (by kernel_rfl) (by kernel_rfl) (by kernel_rfl) (fun _ _ _ h => h) (Or.inl ⟨by rfl, ?_⟩) hS ?_
            rotate_left
            · intro wv _; go_simp; try with_reducible rfl
            try simp only [Act.put, List.setIfInBounds_toArray, List.set_cons_zero, List.set_cons_succ]
            refine wpAnyH_done (by kernel_rfl) ?_ _
            refine NoPanic.normal ?_
            go_wp2
            go_ret
            exact ⟨rfl, HB.out.1.trans ((HT.out.trans (hS.mono HT.out.size)).mono HB.out.2)⟩
end Go.Proofs.Ytehpfpphpffniaa
