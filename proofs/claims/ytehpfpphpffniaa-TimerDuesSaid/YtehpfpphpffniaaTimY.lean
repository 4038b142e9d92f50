/- The walk of TimerBack: it answers true, over any world; no condition. -/
import Derived.Test.YtehpfpphpffniaaTimS
namespace Go.Proofs.Ytehpfpphpffniaa
set_option linter.unusedVariables false
set_option linter.unusedSimpArgs false
open Go.RowKit
set_option maxRecDepth 100000 in
set_option maxHeartbeats 8000000 in
theorem back12_walk (A : Option Addr) (n c : Nat) (h : List Tm) (x0 x1 : Int) (w : World) (hx : Tms w A n c h) :
    Calls Try.prog 6 #[.slice A n c, .agg #[.int .i64 x0, .int .i64 x1]] w fun e w' => e = .returned (.bool true) ∧ Below w.heap.size w w' := by
  have hlen := hx.len
  have RX := Lib.hid hx
  clear hx
  have HB := Lib.hid (And.intro (Below.refl w.heap.size w) (Nat.le_refl w.heap.size))
  have gq := HB.out.2
  obtain ⟨w1, hw1⟩ : ∃ W, (w.alloc (.cells #[.int .i64 x0, .int .i64 x1] 24)) = W := ⟨_, rfl⟩
  have hb : Below w.heap.size w w1 := hw1 ▸ ((Below.refl _ _).alloc (Nat.le_refl _) _)
  have hv0 : w1.heap[w.heap.size]? = some (.cells #[.int .i64 x0, .int .i64 x1] 24) := by
    have h0 := heap_alloc_new w (.cells #[.int .i64 x0, .int .i64 x1] 24)
    rw [show w.heap.size = w.heap.size by simp [Nat.add_assoc]] at h0
    rw [← hw1]
    exact h0
  replace RX := Lib.hid (Es.below RX.out hb)
  replace HB := Lib.hid (And.intro (HB.out.1.trans (hb.mono HB.out.2)) (Nat.le_trans HB.out.2 hb.size))
  have Vt := Lib.hid hv0
  have get := gq
  generalize hst : w.heap.size = st at *
  clear hb gq hv0
  subst hst
  by_cases hn : (30 : Int) < (n : Int)
  · have b0 : decide ((30 : Int) < (n : Int)) = true := decide_eq_true hn
    have b0n : decide (30 < n) = true := by simp; omega
    clear hn
    go_enter Try.func6, Try.ntmps6
    go_wp2_with fail
    refine (alive12 _).mono ?_
    rintro e w2 ⟨rfl, hb⟩
    replace Vt := Lib.hid (blk_below Vt.out hb (blk_lt Vt.out))
    replace RX := Lib.hid (Es.below RX.out hb)
    replace HB := Lib.hid (And.intro (HB.out.1.trans (hb.mono HB.out.2)) (Nat.le_trans HB.out.2 hb.size))
    clear hb
    go_wp2
    go_ret
    exact ⟨rfl, HB.out.1⟩
  · have b0 : decide ((30 : Int) < (n : Int)) = false := decide_eq_false hn
    have b0n : decide (30 < n) = false := by simp; omega
    have hn1 : n ≤ 30 := by omega
    clear hn
    have c12 := Lib.hid (show ∀ (xs : List Tm) (A B : Option Addr) (m d m2 d2 : Nat) W, xs.length ≤ 70 → Tms W A m d xs → Tms W B m2 d2 xs → Calls Try.prog 15 #[.slice A m d, .slice B m2 d2] W (YesT W true) from fun xs A B m d m2 d2 W hl h1 h2 => sameAs12 h1 h2 (by have := h1.len; omega) rfl)
    have hll : h.length ≤ 70 := by omega
    obtain ⟨⟨xs, xe⟩, hP⟩ : ∃ P, pushH h (x0, x1) = P := ⟨_, rfl⟩
    by_cases he : xe = 0
    · subst he
      have hQ := push_drop (h := h) (x := (x0, x1)) (by rw [hP])
      rw [hP] at hQ
      obtain ⟨q1, q2, q3, q4, q5, q6, q7⟩ := hQ
      simp only at q2 q3 q4 q5 q6 q7
      obtain ⟨⟨ys, ye⟩, hD⟩ : ∃ P, dropH xs x1 = P := ⟨_, rfl⟩
      rw [hD] at q4 q5 q6
      simp only at q4 q5 q6
      subst q4
      obtain ⟨ss, hS⟩ : ∃ P, sortH h = P := ⟨_, rfl⟩
      obtain ⟨sx, hA⟩ : ∃ P, sortH xs = P := ⟨_, rfl⟩
      rw [hS] at q6
      rw [hA] at q7
      have hge := place_ge12 q7
      obtain ⟨p, hp⟩ : ∃ P, placeH sx x1 = P := ⟨_, rfl⟩
      rw [hp] at hge
      have hsl : ss.length ≤ 70 := by rw [← hS, (sort_ok q1).2.1]; omega
      have hsx : sx.length ≤ 70 := by rw [← hA, (sort_ok q2).2.1]; omega
      have hxl : xs.length ≤ 70 := by omega
      have r1 := rt_iff.2 q2
      have r2 := rt_iff.2 q5
      have HXL := Lib.hid q3
      have hyl : ys.length ≤ 70 := by have := drop_len12 xs x1; rw [hD] at this; simp only at this; omega
      have HLN := Lib.hid hlen
      have c1 := Lib.hid (show ∀ B m d W, Tms W B m d h → Calls Try.prog 9 #[.slice B m d, .agg #[.int .i64 x0, .int .i64 x1]] W (HW W xs 0) from fun B m d W hx => pushAs12 x0 x1 hx (by have := hx.len; omega) hP)
      have c2 := Lib.hid (show ∀ B m d W, Tms W B m d xs → Calls Try.prog 13 #[.slice B m d, .int .i64 x1] W (HW W ys 0) from fun B m d W hx => dropAs12 x1 hx (by have := hx.len; omega) hD)
      have c3 := Lib.hid (show ∀ B m d W, Tms W B m d xs → Calls Try.prog 16 #[.slice B m d] W (YesT W true) from fun B m d W hx => rightAs12 hx (by have := hx.len; omega) r1)
      have c4 := Lib.hid (show ∀ B m d W, Tms W B m d ys → Calls Try.prog 16 #[.slice B m d] W (YesT W true) from fun B m d W hx => rightAs12 hx (by have := hx.len; omega) r2)
      have c5 := Lib.hid (show ∀ B m d W, Tms W B m d ys → Calls Try.prog 21 #[.slice B m d] W (SW W ss) from fun B m d W hx => sortAs12 hx (by have := hx.len; omega) q6)
      have c6 := Lib.hid (show ∀ B m d W, Tms W B m d h → Calls Try.prog 21 #[.slice B m d] W (SW W ss) from fun B m d W hx => sortAs12 hx (by have := hx.len; omega) hS)
      have c7 := Lib.hid (show ∀ B m d W, Tms W B m d xs → Calls Try.prog 21 #[.slice B m d] W (SW W sx) from fun B m d W hx => sortAs12 hx (by have := hx.len; omega) hA)
      have c8 := Lib.hid (show ∀ B m d W, Tms W B m d sx → Calls Try.prog 24 #[.slice B m d, .int .i64 x1] W (fun e w' => e = .returned (.int .i64 p) ∧ w' = W) from fun B m d W hx => hp ▸ refPlace_any B m d sx x1 W hx (by have := hx.len; omega))
      have e1 : decide (0 ≤ p) = true := decide_eq_true hge
      clear q1 q2 q3 q5 q6 q7 hge hp hS hA hD hP r1 r2 hlen hll
      go_enter Try.func6, Try.ntmps6
      go_wp2_with fail
      refine (alive12 _).mono ?_
      rintro e w2 ⟨rfl, hb⟩
      replace Vt := Lib.hid (blk_below Vt.out hb (blk_lt Vt.out))
      replace RX := Lib.hid (Es.below RX.out hb)
      replace HB := Lib.hid (And.intro (HB.out.1.trans (hb.mono HB.out.2)) (Nat.le_trans HB.out.2 hb.size))
      clear hb
      have ct0 : w2.cell? ⟨w.heap.size, 0, none⟩ = some (.int .i64 x0) := (blk_cell Vt.out 0).trans rfl
      have ct1 : w2.cell? ⟨w.heap.size, 1, none⟩ = some (.int .i64 x1) := (blk_cell Vt.out 1).trans rfl
      go_wp2_with fail
      refine (c1.out _ _ _ _ RX.out).mono ?_
      rintro e w3 ⟨B2, m2, d2, rfl, hrs, hb⟩
      clear ct0 ct1
      replace Vt := Lib.hid (blk_below Vt.out hb (blk_lt Vt.out))
      replace RX := Lib.hid (Es.below RX.out hb)
      replace HB := Lib.hid (And.intro (HB.out.1.trans (hb.mono HB.out.2)) (Nat.le_trans HB.out.2 hb.size))
      clear hb
      have H2 := Lib.hid hrs
      clear hrs
      have ct0 : w3.cell? ⟨w.heap.size, 0, none⟩ = some (.int .i64 x0) := (blk_cell Vt.out 0).trans rfl
      have ct1 : w3.cell? ⟨w.heap.size, 1, none⟩ = some (.int .i64 x1) := (blk_cell Vt.out 1).trans rfl
      go_wp2_with fail
      refine (c2.out _ _ _ _ H2.out).mono ?_
      rintro e w4 ⟨B3, m3, d3, rfl, hrs, hb⟩
      clear ct0 ct1
      replace Vt := Lib.hid (blk_below Vt.out hb (blk_lt Vt.out))
      replace RX := Lib.hid (Es.below RX.out hb)
      replace H2 := Lib.hid (Es.below H2.out hb)
      replace HB := Lib.hid (And.intro (HB.out.1.trans (hb.mono HB.out.2)) (Nat.le_trans HB.out.2 hb.size))
      clear hb
      have H3 := Lib.hid hrs
      clear hrs
      go_wp2_with fail
      refine (c3.out _ _ _ _ H2.out).mono ?_
      rintro e w5 ⟨rfl, hb⟩
      replace Vt := Lib.hid (blk_below Vt.out hb (blk_lt Vt.out))
      replace RX := Lib.hid (Es.below RX.out hb)
      replace H2 := Lib.hid (Es.below H2.out hb)
      replace H3 := Lib.hid (Es.below H3.out hb)
      replace HB := Lib.hid (And.intro (HB.out.1.trans (hb.mono HB.out.2)) (Nat.le_trans HB.out.2 hb.size))
      clear hb
      go_wp2_with fail
      refine (c4.out _ _ _ _ H3.out).mono ?_
      rintro e w6 ⟨rfl, hb⟩
      replace Vt := Lib.hid (blk_below Vt.out hb (blk_lt Vt.out))
      replace RX := Lib.hid (Es.below RX.out hb)
      replace H2 := Lib.hid (Es.below H2.out hb)
      replace H3 := Lib.hid (Es.below H3.out hb)
      replace HB := Lib.hid (And.intro (HB.out.1.trans (hb.mono HB.out.2)) (Nat.le_trans HB.out.2 hb.size))
      clear hb
      have hm2 : m2 = n + 1 := by have := Tms.len H2.out; have := HXL.out; have := HLN.out; omega
      have s1 : IntKind.i64.wrap ((n : Int) + 1) = (m2 : Int) := by rw [IntKind.wrap_i64]; omega
      have s2 : ((m2 : Int) == (m2 : Int)) = true := by simp
      clear hm2
      go_upto_region 11 with fail
      have HT := Lib.hid (Below.refl w6.heap.size w6)
      refine wp_region_noPanic ?_
      refine wp_region_held_drew (S := (fun wv => Below w6.heap.size w6 wv)) (by kernel_rfl) ((Below.refl w6.heap.size w6).drew) (fun hS => ?_)
      refine wpAnyH_take (i := 0) (oi := ⟨some 44, .move (.tmp 7), 22, "law.go:104", #[], none⟩) (v := ?_) rfl (by kernel_rfl) (by kernel_rfl) (by kernel_rfl) (fun _ _ _ h => h) (Or.inl ⟨by rfl, ?_⟩) hS ?_
      rotate_left
      · intro wv _; go_simp; try with_reducible rfl
      try simp only [Act.put, List.setIfInBounds_toArray, List.set_cons_zero, List.set_cons_succ]
      refine wpAnyH_take (i := 2) (oi := ⟨some 46, .move (.tmp 0), 22, "law.go:104", #[], none⟩) (v := ?_) rfl (by kernel_rfl) (by kernel_rfl) (by kernel_rfl) (fun _ _ _ h => h) (Or.inl ⟨by rfl, ?_⟩) hS ?_
      rotate_left
      · intro wv _; go_simp; try with_reducible rfl
      try simp only [Act.put, List.setIfInBounds_toArray, List.set_cons_zero, List.set_cons_succ]
      refine wpAnyH_ready (rs := [1]) (by kernel_rfl) (by simp) (AllReadyH.cons (o := ⟨some 45, .call { callee := .value (.func 21), args := #[.tmp 44], argTypes := #[22] }, 22, "law.go:104", #[⟨0, .data⟩], none⟩) rfl (fun K hK => ?_) AllReadyH.nil)
      go_simp
      have hB := HT.out.trans (hS.mono HT.out.size)
      refine (c5.out _ _ _ _ (Es.below H3.out hB)).mono ?_; rintro e u1 ⟨B7, m7, d7, rfl, hrs, hb⟩
      have HI := Lib.hid (hS.trans (hb.mono hS.size))
      have H7 := Lib.hid hrs
      replace HT := Lib.hid (hB.trans (hb.mono hB.size))
      clear hrs hb hB
      go_wp2_with fail
      refine Shut.out hK _ _ (by first | exact hS | trivial) (fun _ => wpAnyH_up (S' := (fun wv => Below u1.heap.size u1 wv)) ?_ ?_)
      · exact fun wv h => HI.out.trans (h.mono HI.out.size)
      replace hS := (Below.refl u1.heap.size u1)
      clear hK K
      try simp only [Act.put, List.setIfInBounds_toArray, List.set_cons_zero, List.set_cons_succ]
      refine wpAnyH_ready (rs := [3]) (by kernel_rfl) (by simp) (AllReadyH.cons (o := ⟨some 47, .call { callee := .value (.func 21), args := #[.tmp 46], argTypes := #[22] }, 22, "law.go:104", #[⟨2, .data⟩, ⟨1, .chain⟩], none⟩) rfl (fun K hK => ?_) AllReadyH.nil)
      go_simp
      have hB := HT.out.trans (hS.mono HT.out.size)
      refine (c6.out _ _ _ _ (Es.below RX.out hB)).mono ?_; rintro e u3 ⟨B8, m8, d8, rfl, hrs, hb⟩
      have HI := Lib.hid (hS.trans (hb.mono hS.size))
      have H8 := Lib.hid hrs
      replace HT := Lib.hid (hB.trans (hb.mono hB.size))
      replace H7 := Lib.hid (Es.below H7.out HI.out)
      clear hrs hb hB
      go_wp2_with fail
      refine Shut.out hK _ _ (by first | exact hS | trivial) (fun _ => wpAnyH_up (S' := (fun wv => Below u3.heap.size u3 wv)) ?_ ?_)
      · exact fun wv h => HI.out.trans (h.mono HI.out.size)
      replace hS := (Below.refl u3.heap.size u3)
      clear hK K
      try simp only [Act.put, List.setIfInBounds_toArray, List.set_cons_zero, List.set_cons_succ]
      refine wpAnyH_ready (rs := [4]) (by kernel_rfl) (by simp) (AllReadyH.cons (o := ⟨some 48, .call { callee := .value (.func 15), args := #[.tmp 45, .tmp 47], argTypes := #[22, 22] }, 4, "law.go:104", #[⟨1, .data⟩, ⟨3, .data⟩, ⟨3, .chain⟩], none⟩) rfl (fun K hK => ?_) AllReadyH.nil)
      go_simp
      refine (c12.out _ _ _ _ _ _ _ _ hsl (Es.below H7.out hS) (Es.below H8.out hS)).mono ?_; rintro e u4 ⟨rfl, hb⟩
      replace hS := hS.trans (hb.mono hS.size)
      clear hb
      go_wp2_with fail
      refine Shut.out hK _ _ hS (fun _ => ?_)
      clear hK K
      try simp only [Act.put, List.setIfInBounds_toArray, List.set_cons_zero, List.set_cons_succ]
      refine wpAnyH_take (i := 5) (oi := ⟨some 49, .move (.tmp 48), 4, "law.go:104", #[⟨4, .data⟩, ⟨4, .chain⟩], none⟩) (v := ?_) rfl (by kernel_rfl) (by kernel_rfl) (by kernel_rfl) (fun _ _ _ h => h) (Or.inl ⟨by rfl, ?_⟩) hS ?_
      rotate_left
      · intro wv _; go_simp; try with_reducible rfl
      try simp only [Act.put, List.setIfInBounds_toArray, List.set_cons_zero, List.set_cons_succ]
      refine wpAnyH_take (i := 6) (oi := ⟨some 50, .move (.tmp 5), 22, "law.go:104", #[⟨5, .guard⟩], some (5, true)⟩) (v := ?_) rfl (by kernel_rfl) (by kernel_rfl) (by kernel_rfl) (fun _ _ _ h => h) (Or.inl ⟨by rfl, ?_⟩) hS ?_
      rotate_left
      · intro wv _; go_simp; try with_reducible rfl
      try simp only [Act.put, List.setIfInBounds_toArray, List.set_cons_zero, List.set_cons_succ]
      refine wpAnyH_take (i := 7) (oi := ⟨some 51, .call { callee := .builtin .len, args := #[.tmp 50], argTypes := #[22] }, 3, "law.go:104", #[⟨6, .data⟩, ⟨5, .guard⟩], some (5, true)⟩) (v := ?_) rfl (by kernel_rfl) (by kernel_rfl) (by kernel_rfl) (fun _ _ _ h => h) (Or.inl ⟨by rfl, ?_⟩) hS ?_
      rotate_left
      · intro wv _; go_simp; try with_reducible rfl
      try simp only [Act.put, List.setIfInBounds_toArray, List.set_cons_zero, List.set_cons_succ]
      refine wpAnyH_take (i := 8) (oi := ⟨some 52, .move (.tmp 0), 22, "law.go:104", #[⟨5, .guard⟩], some (5, true)⟩) (v := ?_) rfl (by kernel_rfl) (by kernel_rfl) (by kernel_rfl) (fun _ _ _ h => h) (Or.inl ⟨by rfl, ?_⟩) hS ?_
      rotate_left
      · intro wv _; go_simp; try with_reducible rfl
      try simp only [Act.put, List.setIfInBounds_toArray, List.set_cons_zero, List.set_cons_succ]
      refine wpAnyH_take (i := 9) (oi := ⟨some 53, .call { callee := .builtin .len, args := #[.tmp 52], argTypes := #[22] }, 3, "law.go:104", #[⟨8, .data⟩, ⟨5, .guard⟩], some (5, true)⟩) (v := ?_) rfl (by kernel_rfl) (by kernel_rfl) (by kernel_rfl) (fun _ _ _ h => h) (Or.inl ⟨by rfl, ?_⟩) hS ?_
      rotate_left
      · intro wv _; go_simp; try with_reducible rfl
      try simp only [Act.put, List.setIfInBounds_toArray, List.set_cons_zero, List.set_cons_succ]
      refine wpAnyH_take (i := 10) (oi := ⟨some 54, .binOp .add 3 (.tmp 53) (.const (Value.int IntKind.i64 1)) 3, 3, "law.go:104", #[⟨9, .data⟩, ⟨5, .guard⟩], some (5, true)⟩) (v := ?_) rfl (by kernel_rfl) (by kernel_rfl) (by kernel_rfl) (fun _ _ _ h => h) (Or.inl ⟨by rfl, ?_⟩) hS ?_
      rotate_left
      · intro wv _; go_simp; try with_reducible rfl
      try simp only [Act.put, List.setIfInBounds_toArray, List.set_cons_zero, List.set_cons_succ]
      refine wpAnyH_take (i := 11) (oi := ⟨some 55, .binOp .eql 3 (.tmp 51) (.tmp 54) 3, 4, "law.go:104", #[⟨7, .data⟩, ⟨10, .data⟩, ⟨5, .guard⟩], some (5, true)⟩) (v := ?_) rfl (by kernel_rfl) (by kernel_rfl) (by kernel_rfl) (fun _ _ _ h => h) (Or.inl ⟨by rfl, ?_⟩) hS ?_
      rotate_left
      · intro wv _; go_simp; try with_reducible rfl
      try simp only [Act.put, List.setIfInBounds_toArray, List.set_cons_zero, List.set_cons_succ]
      refine wpAnyH_take (i := 12) (oi := ⟨some 56, .pick (.tmp 49) (.tmp 55) (.const (Value.bool false)), 4, "law.go:104", #[⟨5, .data⟩, ⟨11, .data⟩], none⟩) (v := ?_) rfl (by kernel_rfl) (by kernel_rfl) (by kernel_rfl) (fun _ _ _ h => h) (Or.inl ⟨by rfl, ?_⟩) hS ?_
      rotate_left
      · intro wv _; go_simp; try with_reducible rfl
      try simp only [Act.put, List.setIfInBounds_toArray, List.set_cons_zero, List.set_cons_succ]
      refine wpAnyH_take (i := 13) (oi := ⟨some 57, .move (.tmp 56), 4, "law.go:104", #[⟨12, .data⟩, ⟨5, .chain⟩], none⟩) (v := ?_) rfl (by kernel_rfl) (by kernel_rfl) (by kernel_rfl) (fun _ _ _ h => h) (Or.inl ⟨by rfl, ?_⟩) hS ?_
      rotate_left
      · intro wv _; go_simp; try with_reducible rfl
      try simp only [Act.put, List.setIfInBounds_toArray, List.set_cons_zero, List.set_cons_succ]
      refine wpAnyH_take (i := 14) (oi := ⟨some 58, .move (.tmp 5), 22, "law.go:104", #[⟨13, .guard⟩], some (13, true)⟩) (v := ?_) rfl (by kernel_rfl) (by kernel_rfl) (by kernel_rfl) (fun _ _ _ h => h) (Or.inl ⟨by rfl, ?_⟩) hS ?_
      rotate_left
      · intro wv _; go_simp; try with_reducible rfl
      try simp only [Act.put, List.setIfInBounds_toArray, List.set_cons_zero, List.set_cons_succ]
      refine wpAnyH_take (i := 16) (oi := ⟨some 60, .fieldAddr 24 (.tmp 3) 1, 0, "law.go:104", #[⟨13, .guard⟩], some (13, true)⟩) (v := ?_) rfl (by kernel_rfl) (by kernel_rfl) (by kernel_rfl) (fun _ _ _ h => h) (Or.inl ⟨by rfl, ?_⟩) hS ?_
      rotate_left
      · intro wv _; go_simp; try with_reducible rfl
      try simp only [Act.put, List.setIfInBounds_toArray, List.set_cons_zero, List.set_cons_succ]
      refine wpAnyH_take (i := 17) (oi := ⟨some 61, .load 3 (.tmp 60), 3, "law.go:104", #[⟨16, .data⟩, ⟨13, .guard⟩], some (13, true)⟩) (v := ?_) rfl (by kernel_rfl) (by kernel_rfl) (by kernel_rfl) (fun _ _ _ h => h) (Or.inl ⟨by rfl, ?_⟩) hS ?_
      rotate_left
      · intro wv hS; have hrun := (blk_cell (blk_below Vt.out (HT.out.trans (hS.mono HT.out.size)) (blk_lt Vt.out)) 1).trans rfl; go_simp; try with_reducible rfl
      try simp only [Act.put, List.setIfInBounds_toArray, List.set_cons_zero, List.set_cons_succ]
      refine wpAnyH_ready (rs := [15]) (by kernel_rfl) (by simp) (AllReadyH.cons (o := ⟨some 59, .call { callee := .value (.func 21), args := #[.tmp 58], argTypes := #[22] }, 22, "law.go:104", #[⟨14, .data⟩, ⟨13, .chain⟩, ⟨13, .guard⟩], some (13, true)⟩) rfl (fun K hK => ?_) AllReadyH.nil)
      go_simp
      have hB := HT.out.trans (hS.mono HT.out.size)
      refine (c7.out _ _ _ _ (Es.below H2.out hB)).mono ?_; rintro e u15 ⟨B9, m9, d9, rfl, hrs, hb⟩
      have HI := Lib.hid (hS.trans (hb.mono hS.size))
      have H9 := Lib.hid hrs
      replace HT := Lib.hid (hB.trans (hb.mono hB.size))
      clear hrs hb hB
      go_wp2_with fail
      refine Shut.out hK _ _ (by first | exact hS | trivial) (fun _ => wpAnyH_up (S' := (fun wv => Below u15.heap.size u15 wv)) ?_ ?_)
      · exact fun wv h => HI.out.trans (h.mono HI.out.size)
      replace hS := (Below.refl u15.heap.size u15)
      clear hK K
      try simp only [Act.put, List.setIfInBounds_toArray, List.set_cons_zero, List.set_cons_succ]
      refine wpAnyH_ready (rs := [18]) (by kernel_rfl) (by simp) (AllReadyH.cons (o := ⟨some 62, .call { callee := .value (.func 24), args := #[.tmp 59, .tmp 61], argTypes := #[22, 3] }, 3, "law.go:104", #[⟨15, .data⟩, ⟨17, .data⟩, ⟨15, .chain⟩, ⟨13, .guard⟩], some (13, true)⟩) rfl (fun K hK => ?_) AllReadyH.nil)
      go_simp
      refine (c8.out _ _ _ _ (Es.below H9.out hS)).mono ?_; rintro e u6 ⟨rfl, rfl⟩
      go_wp2_with fail
      refine Shut.out hK _ _ hS (fun _ => ?_)
      clear hK K
      try simp only [Act.put, List.setIfInBounds_toArray, List.set_cons_zero, List.set_cons_succ]
      refine wpAnyH_take (i := 19) (oi := ⟨some 63, .binOp .geq 3 (.tmp 62) (.const (Value.int IntKind.i64 0)) 3, 4, "law.go:104", #[⟨18, .data⟩, ⟨13, .guard⟩], some (13, true)⟩) (v := ?_) rfl (by kernel_rfl) (by kernel_rfl) (by kernel_rfl) (fun _ _ _ h => h) (Or.inl ⟨by rfl, ?_⟩) hS ?_
      rotate_left
      · intro wv _; go_simp; try with_reducible rfl
      try simp only [Act.put, List.setIfInBounds_toArray, List.set_cons_zero, List.set_cons_succ]
      refine wpAnyH_take (i := 20) (oi := ⟨some 64, .pick (.tmp 57) (.tmp 63) (.const (Value.bool false)), 4, "law.go:104", #[⟨13, .data⟩, ⟨19, .data⟩], none⟩) (v := ?_) rfl (by kernel_rfl) (by kernel_rfl) (by kernel_rfl) (fun _ _ _ h => h) (Or.inl ⟨by rfl, ?_⟩) hS ?_
      rotate_left
      · intro wv _; go_simp; try with_reducible rfl
      try simp only [Act.put, List.setIfInBounds_toArray, List.set_cons_zero, List.set_cons_succ]
      refine wpAnyH_take (i := 21) (oi := ⟨some 4, .assign (.tmp 64), 4, "law.go:104", #[⟨20, .data⟩, ⟨18, .chain⟩, ⟨0, .phase⟩, ⟨1, .phase⟩, ⟨2, .phase⟩, ⟨3, .phase⟩, ⟨4, .phase⟩, ⟨5, .phase⟩, ⟨6, .phase⟩, ⟨7, .phase⟩, ⟨8, .phase⟩, ⟨9, .phase⟩, ⟨10, .phase⟩, ⟨11, .phase⟩, ⟨12, .phase⟩, ⟨13, .phase⟩, ⟨14, .phase⟩, ⟨15, .phase⟩, ⟨16, .phase⟩, ⟨17, .phase⟩, ⟨18, .phase⟩, ⟨19, .phase⟩, ⟨20, .phase⟩], none⟩) (v := ?_) rfl (by kernel_rfl) (by kernel_rfl) (by kernel_rfl) (fun _ _ _ h => h) (Or.inl ⟨by rfl, ?_⟩) hS ?_
      rotate_left
      · intro wv _; go_simp; try with_reducible rfl
      try simp only [Act.put, List.setIfInBounds_toArray, List.set_cons_zero, List.set_cons_succ]
      refine wpAnyH_done (by kernel_rfl) ?_ _
      refine NoPanic.normal ?_
      go_wp2
      go_ret
      exact ⟨rfl, HB.out.1.trans ((HT.out.trans (hS.mono HT.out.size)).mono HB.out.2)⟩
    · have hq := push_err12 (h := h) (x := (x0, x1)) (by rw [hP]; exact he)
      rw [hP] at hq
      simp only at hq
      rw [hq] at hP
      have e1 : (xe != 0) = true := by simp [he]
      have c1 := Lib.hid (show ∀ B m d W, Tms W B m d h → Calls Try.prog 9 #[.slice B m d, .agg #[.int .i64 x0, .int .i64 x1]] W (HW W h xe) from fun B m d W hx => pushAs12 x0 x1 hx (by have := hx.len; omega) hP)
      clear hP hq he
      go_enter Try.func6, Try.ntmps6
      go_wp2_with fail
      refine (alive12 _).mono ?_
      rintro e w2 ⟨rfl, hb⟩
      replace Vt := Lib.hid (blk_below Vt.out hb (blk_lt Vt.out))
      replace RX := Lib.hid (Es.below RX.out hb)
      replace HB := Lib.hid (And.intro (HB.out.1.trans (hb.mono HB.out.2)) (Nat.le_trans HB.out.2 hb.size))
      clear hb
      have ct0 : w2.cell? ⟨w.heap.size, 0, none⟩ = some (.int .i64 x0) := (blk_cell Vt.out 0).trans rfl
      have ct1 : w2.cell? ⟨w.heap.size, 1, none⟩ = some (.int .i64 x1) := (blk_cell Vt.out 1).trans rfl
      go_wp2_with fail
      refine (c1.out _ _ _ _ RX.out).mono ?_
      rintro e w3 ⟨B2, m2, d2, rfl, hrs, hb⟩
      clear ct0 ct1
      replace Vt := Lib.hid (blk_below Vt.out hb (blk_lt Vt.out))
      replace RX := Lib.hid (Es.below RX.out hb)
      replace HB := Lib.hid (And.intro (HB.out.1.trans (hb.mono HB.out.2)) (Nat.le_trans HB.out.2 hb.size))
      clear hb
      have H2 := Lib.hid hrs
      clear hrs
      go_wp2_with fail
      refine (c12.out _ _ _ _ _ _ _ _ hll H2.out RX.out).mono ?_
      rintro e w4 ⟨rfl, hb⟩
      replace Vt := Lib.hid (blk_below Vt.out hb (blk_lt Vt.out))
      replace RX := Lib.hid (Es.below RX.out hb)
      replace H2 := Lib.hid (Es.below H2.out hb)
      replace HB := Lib.hid (And.intro (HB.out.1.trans (hb.mono HB.out.2)) (Nat.le_trans HB.out.2 hb.size))
      clear hb
      go_wp2
      go_ret
      exact ⟨rfl, HB.out.1⟩
end Go.Proofs.Ytehpfpphpffniaa
