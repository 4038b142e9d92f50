/- The walk of GroupSums: it answers true, over any world; no condition. -/
import Derived.Test.YtglldhmdifnobaaGrS
namespace Go.Proofs.Ytglldhmdifnobaa
set_option linter.unusedVariables false
set_option linter.unusedSimpArgs false
open Go.RowKit
/-- a slice of small numbers. -/
def I8s (w : World) (A : Option Addr) (n c : Nat) (l : List Int) : Prop := Es w A n c 1 (l.map (Value.int .i8)) ∧ ∀ x ∈ l, -128 ≤ x ∧ x ≤ 127
theorem i8_look {w : World} {A : Option Addr} {n c : Nat} {l : List Int} (h : I8s w A n c l) (i : Nat) (hi : i < n) : ∃ b off x, A = some ⟨b, off, none⟩ ∧ b < w.heap.size ∧ w.cell? ⟨b, off + i, none⟩ = some (.int .i8 x) ∧ -128 ≤ x ∧ x ≤ 127 := by
  obtain ⟨h1, h2⟩ := h
  obtain ⟨b, off, e, hb, hc⟩ := h1.look i hi
  have hl := h1.len
  rw [List.length_map] at hl
  have h3 := h2 (l[i]'(by omega)) (List.getElem_mem _)
  refine ⟨b, off, l[i]'(by omega), e, hb, ?_, h3.1, h3.2⟩
  have := hc 0 (.int .i8 (l[i]'(by omega))) (by simp)
  simpa using this
set_option maxRecDepth 100000 in
set_option maxHeartbeats 16000000 in
theorem sums17_walk (A : Option Addr) (n c : Nat) (l : List Int) (w : World) (hx : I8s w A n c l) : Calls Try.prog 4 #[.slice A n c] w fun e w' => e = .returned (.bool true) ∧ Below w.heap.size w w' := by
  have LX := Lib.hid hx
  clear hx
  have AL := Lib.hid alive17
  have N1 := Lib.hid (show ∀ W : World, Calls Try.prog 14 #[.int .i64 32] W (fun e w' => e = .returned (.agg #[.int .i64 32, .int .i64 0, .int .i64 0, .int .i64 0, .int .i64 (-1), .int .i64 0, .bool false, .bool false, .int .i64 0, .bool false]) ∧ Below W.heap.size W w') from fun W => begin17_any 32 W)
  have N2 := Lib.hid (show ∀ W : World, Calls Try.prog 14 #[.int .i64 33] W (fun e w' => e = .returned (.agg #[.int .i64 33, .int .i64 0, .int .i64 0, .int .i64 0, .int .i64 (-1), .int .i64 0, .bool false, .bool false, .int .i64 0, .bool false]) ∧ Below W.heap.size W w') from fun W => begin17_any 33 W)
  have HB := Lib.hid (And.intro (Below.refl w.heap.size w) (Nat.le_refl w.heap.size))
  by_cases hn : (200 : Int) < (n : Int)
  · have b0 : decide ((200 : Int) < (n : Int)) = true := decide_eq_true hn
    have b0n : decide (200 < n) = true := by simp; omega
    clear hn
    go_enter Try.func4, Try.ntmps4
    go_wp2_with fail
    refine (AL.out _).mono ?_
    rintro e w1 ⟨rfl, hb⟩
    replace HB := Lib.hid (And.intro (HB.out.1.trans (hb.mono HB.out.2)) (Nat.le_trans HB.out.2 hb.size))
    clear hb
    go_wp2
    go_ret
    exact ⟨rfl, HB.out.1⟩
  have b0 : decide ((200 : Int) < (n : Int)) = false := decide_eq_false hn
  have b0n : decide (200 < n) = false := by simp; omega
  have hn1 : n ≤ 200 := by omega
  clear hn
  go_enter Try.func4, Try.ntmps4
  go_wp2_with fail
  refine (AL.out _).mono ?_
  rintro e w1 ⟨rfl, hb⟩
  replace HB := Lib.hid (And.intro (HB.out.1.trans (hb.mono HB.out.2)) (Nat.le_trans HB.out.2 hb.size))
  clear hb
  have gq := HB.out.2
  obtain ⟨w2, hw2⟩ : ∃ W, (w1.alloc (.cells #[.int .i64 0, .int .i64 0, .int .i64 0, .int .i64 0, .int .i64 0, .int .i64 0, .int .i64 0, .int .u32 0, .int .u32 0, .slice none 0 0, .slice none 0 0] 29)) = W := ⟨_, rfl⟩
  have hb : Below w1.heap.size w1 w2 := hw2 ▸ ((Below.refl _ _).alloc (Nat.le_refl _) _)
  have hv0 : w2.heap[w1.heap.size]? = some (.cells #[.int .i64 0, .int .i64 0, .int .i64 0, .int .i64 0, .int .i64 0, .int .i64 0, .int .i64 0, .int .u32 0, .int .u32 0, .slice none 0 0, .slice none 0 0] 29) := by
    have h0 := heap_alloc_new w1 (.cells #[.int .i64 0, .int .i64 0, .int .i64 0, .int .i64 0, .int .i64 0, .int .i64 0, .int .i64 0, .int .u32 0, .int .u32 0, .slice none 0 0, .slice none 0 0] 29)
    rw [show w1.heap.size = w1.heap.size by simp [Nat.add_assoc]] at h0
    rw [← hw2]
    exact h0
  replace HB := Lib.hid (And.intro (HB.out.1.trans (hb.mono HB.out.2)) (Nat.le_trans HB.out.2 hb.size))
  have Vo := Lib.hid hv0
  have geo := gq
  generalize hso : w1.heap.size = so at *
  clear hb gq hv0
  obtain ⟨mw3, w3, hw3, hse, VN⟩ := set11 Vo.out (.int .i64 3) (.int .i64 0) (.int .i64 0) (.int .i64 0) (.int .i64 0) (.int .i64 0) (.int .i64 0) (.int .u32 0) (.int .u32 0) (.slice none 0 0) (.slice none 0 0)
  replace Vo := VN
  replace HB := Lib.hid (belS hse geo HB.out)
  clear VN hse
  go_wp2
  clear mw3 hw3
  go_loopw [4, 5] (fun vv iv wr => ∃ (i : Nat) (v : Int), vv = .int .i64 v ∧ iv = .int .i64 (i : Int) ∧ i ≤ n ∧ Hid (0 ≤ v ∧ v ≤ 127 * (i : Int)) ∧ Hid (Below w.heap.size w wr ∧ w.heap.size ≤ wr.heap.size) ∧ Hid (wr.heap[so]? = some (.cells #[.int .i64 3, .int .i64 v, .int .i64 0, .int .i64 0, .int .i64 0, .int .i64 0, .int .i64 0, .int .u32 0, .int .u32 0, .slice none 0 0, .slice none 0 0] 29))) (fun _ iv _ => n - (intOf iv).toNat)
  case atStart => exact ⟨0, 0, rfl, rfl, by omega, Lib.hid ⟨by omega, by omega⟩, HB, Vo⟩
  case round =>
    clear HB Vo
    obtain ⟨i, v, rfl, rfl, hi, HV, HB, Vo⟩ := hrel
    by_cases hlt : i < n
    rotate_left
    · have en : i = n := by omega
      subst en
      have c1 : decide ((i : Int) < (i : Int)) = false := by simp
      have c1n : decide (i < i) = false := by simp
      have hw2 := w6_eq v 0 0 0 0 0
      have co := row11 Vo.out
      go_wp2
      go_ret
      exact ⟨rfl, HB.out.1⟩
    have c1 : decide ((i : Int) < (n : Int)) = true := by simpa using hlt
    have c1n : decide (i < n) = true := by simpa using hlt
    have i0 : (0 : Int) ≤ (i : Int) := by omega
    have i1 : (i : Int) < (n : Int) := by omega
    obtain ⟨b1_, off1, e1_, hA, hb1, hc1, hl1, hl2⟩ := i8_look LX.out i hlt
    subst hA
    have HLT := Lib.hid hlt
    have HB1 := Lib.hid hb1
    have HC1 := Lib.hid hc1
    have HE1 := Lib.hid (And.intro hl1 hl2)
    clear hlt hi hb1 hc1
    obtain ⟨y, hy⟩ : ∃ y, IntKind.i64.wrap (v + e1_) = y := ⟨_, rfl⟩
    have HY := Lib.hid (show y = v + e1_ from by have := HV.out; rw [← hy, IntKind.wrap_i64]; omega)
    have hwe : IntKind.i64.wrap e1_ = e1_ := by rw [IntKind.wrap_i64]; omega
    have hwv : IntKind.i64.wrap v = v := by have := HV.out; rw [IntKind.wrap_i64]; omega
    have HWV := Lib.hid hwv
    clear hl1 hl2 hwv
    by_cases hy0 : y < 0
    · have d0 : decide (y < 0) = true := decide_eq_true hy0
      have HY0 := Lib.hid hy0
      have HYE := Lib.hid hy
      clear hy0
      have KC := Lib.hid (show ∀ W : World, Calls Try.prog 8 #[.agg #[.int .i64 3, .int .i64 v, .int .i64 0, .int .i64 0, .int .i64 0, .int .i64 0, .int .i64 0, .int .u32 0, .int .u32 0, .slice none 0 0, .slice none 0 0], .agg #[.int .i64 32, .int .i64 0, .int .i64 0, .int .i64 0, .int .i64 (-1), .int .i64 0, .bool false, .bool false, .int .i64 0, .bool false], .int .i64 e1_] W (fun e w' => e = .returned (.tuple #[.agg #[.int .i64 3, .int .i64 v, .int .i64 0, .int .i64 0, .int .i64 0, .int .i64 0, .int .i64 0, .int .u32 0, .int .u32 0, .slice none 0 0, .slice none 0 0], .agg #[.int .i64 0, .int .i64 0, .int .i64 0, .int .i64 0, .int .i64 0, .int .i64 0, .bool false, .bool false, .int .i64 0, .bool false], .agg #[.bool false, .bool false, .bool false, .int .i64 0, .int .i64 2, .int .u64 0, .slice none 0 0]]) ∧ Below W.heap.size W w') from fun W => by
        have h := grCount_nil 3 v 0 0 0 0 0 0 0 (⟨32, 0, 0, 0, -1, 0, false, false, 0, false⟩ : MFr) e1_ ⟨HWV.out, by kernel_rfl⟩ W
        rw [show countW v 0 (⟨32, 0, 0, 0, -1, 0, false, false, 0, false⟩ : MFr) e1_ = ((v, 0), (⟨0, 0, 0, 0, 0, 0, false, false, 0, false⟩ : MFr), (⟨false, 0, false, 2⟩ : MAct)) from (by
          have h1 := HYE.out; have h2 := HY0.out
          unfold countW
          rw [if_pos rfl, h1, if_pos (Or.inr (Or.inr (Or.inl h2)))]
          rfl)] at h
        exact h)
      go_wp2
      refine wp_region_noPanic ?_
      refine wp_region_held_drew (S := (fun wv => Below wr.heap.size wr wv)) (by kernel_rfl) ((Below.refl wr.heap.size wr).drew) (fun hS => ?_)
      refine wpAnyH_take (i := 0) (oi := ⟨some 25, .load 29 (.tmp 3), 29, "law.go:53", #[], none⟩) (v := .agg (([.int .i64 3, .int .i64 v, .int .i64 0, .int .i64 0, .int .i64 0, .int .i64 0, .int .i64 0, .int .u32 0, .int .u32 0, .slice none 0 0, .slice none 0 0] : List Value)).toArray) rfl (by kernel_rfl) (by kernel_rfl) (by kernel_rfl) (fun _ _ _ h => h) (yieldsIf_load_mid (by rfl) _ _ (by rfl) (so) (0) (by rfl) _ _ (fun wv hS => blk_rngl (blk_below Vo.out hS (blk_lt Vo.out))) Try.underlying29 (by rfl) (by kernel_rfl)) hS ?_
      try simp only [Act.put, List.setIfInBounds_toArray, List.set_cons_zero, List.set_cons_succ]
      refine wpAnyH_take (i := 2) (oi := ⟨some 27, .move (.tmp 0), 45, "law.go:53", #[], none⟩) (v := ?_) rfl (by kernel_rfl) (by kernel_rfl) (by kernel_rfl) (fun _ _ _ h => h) (Or.inl ⟨by rfl, ?_⟩) hS ?_
      rotate_left
      · intro wv _; go_simp; try with_reducible rfl
      try simp only [Act.put, List.setIfInBounds_toArray, List.set_cons_zero, List.set_cons_succ]
      refine wpAnyH_take (i := 3) (oi := ⟨some 28, .move (.tmp 5), 3, "law.go:53", #[], none⟩) (v := ?_) rfl (by kernel_rfl) (by kernel_rfl) (by kernel_rfl) (fun _ _ _ h => h) (Or.inl ⟨by rfl, ?_⟩) hS ?_
      rotate_left
      · intro wv _; go_simp; try with_reducible rfl
      try simp only [Act.put, List.setIfInBounds_toArray, List.set_cons_zero, List.set_cons_succ]
      refine wpAnyH_take (i := 4) (oi := ⟨some 29, .indexAddr 45 (.tmp 27) (.tmp 28), 0, "law.go:53", #[⟨2, .data⟩, ⟨3, .data⟩], none⟩) (v := ?_) rfl (by kernel_rfl) (by kernel_rfl) (by kernel_rfl) (fun _ _ _ h => h) (Or.inl ⟨by rfl, ?_⟩) hS ?_
      rotate_left
      · intro wv _; go_simp; try with_reducible rfl
      try simp only [Act.put, List.setIfInBounds_toArray, List.set_cons_zero, List.set_cons_succ]
      refine wpAnyH_take (i := 5) (oi := ⟨some 30, .load 47 (.tmp 29), 47, "law.go:53", #[⟨4, .data⟩], none⟩) (v := ?_) rfl (by kernel_rfl) (by kernel_rfl) (by kernel_rfl) (fun _ _ _ h => h) (Or.inl ⟨by rfl, ?_⟩) hS ?_
      rotate_left
      · intro wv hS; have hrun := ((hS.cell (p := ⟨b1_, off1 + i, none⟩) (Nat.lt_of_lt_of_le HB1.out HB.out.2)).trans ((HB.out.1.cell (p := ⟨b1_, off1 + i, none⟩) HB1.out).trans HC1.out)); go_simp; try with_reducible rfl
      try simp only [Act.put, List.setIfInBounds_toArray, List.set_cons_zero, List.set_cons_succ]
      refine wpAnyH_take (i := 6) (oi := ⟨some 31, .convert 47 2 (.tmp 30), 2, "law.go:53", #[⟨5, .data⟩], none⟩) (v := ?_) rfl (by kernel_rfl) (by kernel_rfl) (by kernel_rfl) (fun _ _ _ h => h) (Or.inl ⟨by rfl, ?_⟩) hS ?_
      rotate_left
      · intro wv _; go_simp; try with_reducible rfl
      try simp only [Act.put, List.setIfInBounds_toArray, List.set_cons_zero, List.set_cons_succ]
      refine inv_region (fun a0 fu listed a u => ∃ (cq0 cq1 xq0 xq1 xq2 : Bool) (v26 v32 v24 v33 v34 v35 p6 p7 p8 : Value) (sx sg sa : Nat), listed = #[true, cq0, true, true, true, true, true, cq1, cq1, cq1, cq1, cq1, xq0, xq1, xq2, false, false, false] ∧ a = ⟨(((((((((a0.tmps.setIfInBounds 26 v26).setIfInBounds 32 v32).setIfInBounds 24 v24).setIfInBounds 33 v33).setIfInBounds 34 v34).setIfInBounds 35 v35).setIfInBounds 6 p6).setIfInBounds 7 p7).setIfInBounds 8 p8), a0.defers⟩ ∧ (bif cq0 then 0 else 1) + (bif cq1 then 0 else 5) + (bif xq0 then 0 else 1) + (bif xq1 then 0 else 1) + (bif xq2 then 0 else 1) + 3 ≤ fu ∧ (cq1 = true → cq0 = true) ∧ Below wr.heap.size wr u ∧ (cq0 = true → v26 = .agg #[.int .i64 32, .int .i64 0, .int .i64 0, .int .i64 0, .int .i64 (-1), .int .i64 0, .bool false, .bool false, .int .i64 0, .bool false]) ∧ (cq1 = true → v33 = .agg #[.int .i64 3, .int .i64 v, .int .i64 0, .int .i64 0, .int .i64 0, .int .i64 0, .int .i64 0, .int .u32 0, .int .u32 0, .slice none 0 0, .slice none 0 0]) ∧ (cq1 = true → v34 = .agg #[.int .i64 0, .int .i64 0, .int .i64 0, .int .i64 0, .int .i64 0, .int .i64 0, .bool false, .bool false, .int .i64 0, .bool false]) ∧ (cq1 = true → v35 = .agg #[.bool false, .bool false, .bool false, .int .i64 0, .int .i64 2, .int .u64 0, .slice none 0 0]) ∧ (xq0 = true → p6 = .pointer (some ⟨sx, 0, none⟩) ∧ wr.heap.size ≤ sx ∧ u.heap[sx]? = some (.cells #[.int .i64 0, .int .i64 0, .int .i64 0, .int .i64 0, .int .i64 0, .int .i64 0, .int .i64 0, .int .u32 0, .int .u32 0, .slice none 0 0, .slice none 0 0] 29)) ∧ (xq1 = true → p7 = .pointer (some ⟨sg, 0, none⟩) ∧ wr.heap.size ≤ sg ∧ u.heap[sg]? = some (.cells #[.int .i64 0, .int .i64 0, .int .i64 0, .int .i64 0, .int .i64 0, .int .i64 0, .bool false, .bool false, .int .i64 0, .bool false] 31)) ∧ (xq2 = true → p8 = .pointer (some ⟨sa, 0, none⟩) ∧ wr.heap.size ≤ sa ∧ u.heap[sa]? = some (.cells #[.bool false, .bool false, .bool false, .int .i64 0, .int .i64 0, .int .u64 0, .slice none 0 0] 38))) ⟨false, false, false, false, false, u26, u32, u24, u33, u34, u35, u6, u7, u8, 0, 0, 0, rfl, (by first | (simp only [List.setIfInBounds_toArray, List.set_cons_zero, List.set_cons_succ]; done) | rfl), (by show _ + _ ≤ _; decide), (fun h => nomatch h), hS, (fun h => nomatch h), (fun h => nomatch h), (fun h => nomatch h), (fun h => nomatch h), (fun h => nomatch h), (fun h => nomatch h), (fun h => nomatch h)⟩ ?_
      clear hS; rintro fu listed a u ⟨cq0, cq1, xq0, xq1, xq2, v26, v32, v24, v33, v34, v35, p6, p7, p8, sx, sg, sa, rfl, rfl, hn, hc0, hS, h26, h33, h34, h35, ksx, ksg, ksa⟩ IH
      try simp only [List.setIfInBounds_toArray, List.set_cons_zero, List.set_cons_succ]
      by_cases hall : (cq0 && (cq1 && (xq0 && (xq1 && (xq2))))) = true
      rotate_left
      · have hbad : ((cq1 && !cq0) || ((cq0 && (cq1 && (xq0 && (xq1 && (xq2))))))) = false := inv_or (inv_imp hc0) (inv_not hall)
        obtain ⟨fu, rfl⟩ : ∃ m, fu = m + 1 := ⟨fu - 1, by omega⟩
        refine inv_step (bad := ((cq1 && !cq0) || ((cq0 && (cq1 && (xq0 && (xq1 && (xq2)))))))) (fun i => ((i == 1 && !cq0) || ((i == 7 && (cq0 && !cq1)) || ((i == 12 && !xq0) || ((i == 13 && !xq1) || ((i == 14 && !xq2))))))) ((show ∀ cq0 cq1 xq0 xq1 xq2 : Bool, (((cq1 && !cq0) || ((cq0 && (cq1 && (xq0 && (xq1 && (xq2))))))) || (!(Region.ready _ _ #[true, cq0, true, true, true, true, true, cq1, cq1, cq1, cq1, cq1, xq0, xq1, xq2, false, false, false]).isEmpty && (Region.ready _ _ #[true, cq0, true, true, true, true, true, cq1, cq1, cq1, cq1, cq1, xq0, xq1, xq2, false, false, false]).all (fun i => ((i == 1 && !cq0) || ((i == 7 && (cq0 && !cq1)) || ((i == 12 && !xq0) || ((i == 13 && !xq1) || ((i == 14 && !xq2))))))))) = true from by intro cq0 cq1 xq0 xq1 xq2; cases cq0 <;> cases cq1 <;> cases xq0 <;> cases xq1 <;> cases xq2 <;> kernel_rfl) cq0 cq1 xq0 xq1 xq2) hbad (fun i hi => ?_)
        simp only [Bool.or_eq_true, Bool.and_eq_true, beq_iff_eq, Bool.not_eq_true'] at hi
        clear hall hbad
        rcases hi with ⟨rfl, rfl⟩ | ⟨rfl, rfl, rfl⟩ | ⟨rfl, rfl⟩ | ⟨rfl, rfl⟩ | ⟨rfl, rfl⟩
        · skip
          refine inv_arm (o := ⟨some 26, .call { callee := .value (.func 14), args := #[.const (Value.int IntKind.i64 32)], argTypes := #[3] }, 31, "law.go:53", #[], none⟩) rfl (fun K hK => ?_)
          go_simp
          go_wp2_with fail
          refine (N1.out _).mono ?_; rintro e u1 ⟨rfl, hb⟩
          replace hS := hS.trans (hb.mono hS.size)
          refine Shut.out hK _ _ hS (fun _ => ?_)
          clear hK K
          try simp only [Act.put, List.setIfInBounds_toArray, List.set_cons_zero, List.set_cons_succ]
          exact IH _ _ _ _ (by omega) ⟨true, cq1, xq0, xq1, xq2, _, v32, v24, v33, v34, v35, p6, p7, p8, sx, sg, sa, rfl, (by (try simp only [List.setIfInBounds_toArray, List.set_cons_zero, List.set_cons_succ]); try rfl), (by simp only [cond_true, cond_false] at hn ⊢; omega), (fun _ => rfl), hS, (fun _ => rfl), h33, h34, h35, (fun h => ⟨(ksx h).1, (ksx h).2.1, blk_below (ksx h).2.2 hb (blk_lt (ksx h).2.2)⟩), (fun h => ⟨(ksg h).1, (ksg h).2.1, blk_below (ksg h).2.2 hb (blk_lt (ksg h).2.2)⟩), (fun h => ⟨(ksa h).1, (ksa h).2.1, blk_below (ksa h).2.2 hb (blk_lt (ksa h).2.2)⟩)⟩
        · skip
          obtain rfl := h26 rfl
          refine inv_arm (o := ⟨some 32, .call { callee := .value (.func 8), args := #[.tmp 25, .tmp 26, .tmp 31], argTypes := #[29, 31, 2] }, 39, "law.go:53", #[⟨0, .data⟩, ⟨1, .data⟩, ⟨6, .data⟩, ⟨1, .chain⟩], none⟩) rfl (fun K hK => ?_)
          go_simp
          go_wp2_with fail
          refine (KC.out _).mono ?_; rintro e u7 ⟨rfl, hb⟩
          replace hS := hS.trans (hb.mono hS.size)
          obtain ⟨fu, rfl⟩ : ∃ m, fu = m + 4 := ⟨fu - 4, by simp only [cond_true, cond_false] at hn; omega⟩
          refine Shut.out hK _ _ hS (fun _ => ?_)
          clear hK K
          try simp only [Act.put, List.setIfInBounds_toArray, List.set_cons_zero, List.set_cons_succ]
          refine wpAnyH_take (i := 8) (oi := ⟨some 24, .move (.tmp 32), 39, "law.go:53", #[⟨7, .data⟩], none⟩) (v := ?_) rfl (by kernel_rfl) ((show ∀ xq0 xq1 xq2 : Bool, Region.free _ _ #[true, true, true, true, true, true, true, true, false, false, false, false, xq0, xq1, xq2, false, false, false] 8 = true from by intro xq0 xq1 xq2; cases xq0 <;> cases xq1 <;> cases xq2 <;> kernel_rfl) xq0 xq1 xq2) ((show ∀ xq0 xq1 xq2 : Bool, (Region.ready _ _ #[true, true, true, true, true, true, true, true, false, false, false, false, xq0, xq1, xq2, false, false, false]).contains 8 = true from by intro xq0 xq1 xq2; cases xq0 <;> cases xq1 <;> cases xq2 <;> kernel_rfl) xq0 xq1 xq2) (fun _ _ _ h => h) (Or.inl ⟨by rfl, ?_⟩) hS ?_
          rotate_left
          · intro wv _; go_simp; try with_reducible rfl
          try simp only [Act.put, List.setIfInBounds_toArray, List.set_cons_zero, List.set_cons_succ]
          refine wpAnyH_take (i := 9) (oi := ⟨some 33, .extract (.tmp 24) 0, 29, "law.go:53", #[⟨8, .data⟩], none⟩) (v := ?_) rfl (by kernel_rfl) ((show ∀ xq0 xq1 xq2 : Bool, Region.free _ _ #[true, true, true, true, true, true, true, true, true, false, false, false, xq0, xq1, xq2, false, false, false] 9 = true from by intro xq0 xq1 xq2; cases xq0 <;> cases xq1 <;> cases xq2 <;> kernel_rfl) xq0 xq1 xq2) ((show ∀ xq0 xq1 xq2 : Bool, (Region.ready _ _ #[true, true, true, true, true, true, true, true, true, false, false, false, xq0, xq1, xq2, false, false, false]).contains 9 = true from by intro xq0 xq1 xq2; cases xq0 <;> cases xq1 <;> cases xq2 <;> kernel_rfl) xq0 xq1 xq2) (fun _ _ _ h => h) (Or.inl ⟨by rfl, ?_⟩) hS ?_
          rotate_left
          · intro wv _; go_simp; try with_reducible rfl
          try simp only [Act.put, List.setIfInBounds_toArray, List.set_cons_zero, List.set_cons_succ]
          refine wpAnyH_take (i := 10) (oi := ⟨some 34, .extract (.tmp 24) 1, 31, "law.go:53", #[⟨8, .data⟩, ⟨15, .gcOnly .lateStores⟩], none⟩) (v := ?_) rfl (by kernel_rfl) ((show ∀ xq0 xq1 xq2 : Bool, Region.free _ _ #[true, true, true, true, true, true, true, true, true, true, false, false, xq0, xq1, xq2, false, false, false] 10 = true from by intro xq0 xq1 xq2; cases xq0 <;> cases xq1 <;> cases xq2 <;> kernel_rfl) xq0 xq1 xq2) ((show ∀ xq0 xq1 xq2 : Bool, (Region.ready _ _ #[true, true, true, true, true, true, true, true, true, true, false, false, xq0, xq1, xq2, false, false, false]).contains 10 = true from by intro xq0 xq1 xq2; cases xq0 <;> cases xq1 <;> cases xq2 <;> kernel_rfl) xq0 xq1 xq2) (fun _ _ _ h => h) (Or.inl ⟨by rfl, ?_⟩) hS ?_
          rotate_left
          · intro wv _; go_simp; try with_reducible rfl
          try simp only [Act.put, List.setIfInBounds_toArray, List.set_cons_zero, List.set_cons_succ]
          refine wpAnyH_take (i := 11) (oi := ⟨some 35, .extract (.tmp 24) 2, 38, "law.go:53", #[⟨8, .data⟩, ⟨16, .gcOnly .lateStores⟩], none⟩) (v := ?_) rfl (by kernel_rfl) ((show ∀ xq0 xq1 xq2 : Bool, Region.free _ _ #[true, true, true, true, true, true, true, true, true, true, true, false, xq0, xq1, xq2, false, false, false] 11 = true from by intro xq0 xq1 xq2; cases xq0 <;> cases xq1 <;> cases xq2 <;> kernel_rfl) xq0 xq1 xq2) ((show ∀ xq0 xq1 xq2 : Bool, (Region.ready _ _ #[true, true, true, true, true, true, true, true, true, true, true, false, xq0, xq1, xq2, false, false, false]).contains 11 = true from by intro xq0 xq1 xq2; cases xq0 <;> cases xq1 <;> cases xq2 <;> kernel_rfl) xq0 xq1 xq2) (fun _ _ _ h => h) (Or.inl ⟨by rfl, ?_⟩) hS ?_
          rotate_left
          · intro wv _; go_simp; try with_reducible rfl
          try simp only [Act.put, List.setIfInBounds_toArray, List.set_cons_zero, List.set_cons_succ]
          exact IH _ _ _ _ (by omega) ⟨true, true, xq0, xq1, xq2, _, _, _, _, _, _, p6, p7, p8, sx, sg, sa, rfl, (by (try simp only [List.setIfInBounds_toArray, List.set_cons_zero, List.set_cons_succ]); try rfl), (by simp only [cond_true, cond_false] at hn ⊢; omega), (fun _ => rfl), hS, (fun _ => rfl), (fun _ => rfl), (fun _ => rfl), (fun _ => rfl), (fun h => ⟨(ksx h).1, (ksx h).2.1, blk_below (ksx h).2.2 hb (blk_lt (ksx h).2.2)⟩), (fun h => ⟨(ksg h).1, (ksg h).2.1, blk_below (ksg h).2.2 hb (blk_lt (ksg h).2.2)⟩), (fun h => ⟨(ksa h).1, (ksa h).2.1, blk_below (ksa h).2.2 hb (blk_lt (ksa h).2.2)⟩)⟩
        · skip
          refine inv_arm (o := ⟨some 6, .alloc 29, 0, "law.go:53", #[], none⟩) rfl (fun K hK => ?_)
          go_simp
          have zs := hS.size
          have hb := (Below.refl u.heap.size u).alloc (Nat.le_refl _) (.cells #[.int .i64 0, .int .i64 0, .int .i64 0, .int .i64 0, .int .i64 0, .int .i64 0, .int .i64 0, .int .u32 0, .int .u32 0, .slice none 0 0, .slice none 0 0] 29)
          replace hS := hS.trans (hb.mono hS.size)
          refine Shut.out hK _ _ hS (fun _ => ?_)
          clear hK K
          try simp only [Act.put, List.setIfInBounds_toArray, List.set_cons_zero, List.set_cons_succ]
          exact IH _ _ _ _ (by omega) ⟨cq0, cq1, true, xq1, xq2, v26, v32, v24, v33, v34, v35, _, p7, p8, u.heap.size, sg, sa, rfl, (by (try simp only [List.setIfInBounds_toArray, List.set_cons_zero, List.set_cons_succ]); try rfl), (by simp only [cond_true, cond_false] at hn ⊢; omega), hc0, hS, h26, h33, h34, h35, (fun _ => ⟨rfl, zs, heap_alloc_new _ _⟩), (fun h => ⟨(ksg h).1, (ksg h).2.1, blk_below (ksg h).2.2 hb (blk_lt (ksg h).2.2)⟩), (fun h => ⟨(ksa h).1, (ksa h).2.1, blk_below (ksa h).2.2 hb (blk_lt (ksa h).2.2)⟩)⟩
        · skip
          refine inv_arm (o := ⟨some 7, .alloc 31, 0, "law.go:53", #[], none⟩) rfl (fun K hK => ?_)
          go_simp
          have zs := hS.size
          have hb := (Below.refl u.heap.size u).alloc (Nat.le_refl _) (.cells #[.int .i64 0, .int .i64 0, .int .i64 0, .int .i64 0, .int .i64 0, .int .i64 0, .bool false, .bool false, .int .i64 0, .bool false] 31)
          replace hS := hS.trans (hb.mono hS.size)
          refine Shut.out hK _ _ hS (fun _ => ?_)
          clear hK K
          try simp only [Act.put, List.setIfInBounds_toArray, List.set_cons_zero, List.set_cons_succ]
          exact IH _ _ _ _ (by omega) ⟨cq0, cq1, xq0, true, xq2, v26, v32, v24, v33, v34, v35, p6, _, p8, sx, u.heap.size, sa, rfl, (by (try simp only [List.setIfInBounds_toArray, List.set_cons_zero, List.set_cons_succ]); try rfl), (by simp only [cond_true, cond_false] at hn ⊢; omega), hc0, hS, h26, h33, h34, h35, (fun h => ⟨(ksx h).1, (ksx h).2.1, blk_below (ksx h).2.2 hb (blk_lt (ksx h).2.2)⟩), (fun _ => ⟨rfl, zs, heap_alloc_new _ _⟩), (fun h => ⟨(ksa h).1, (ksa h).2.1, blk_below (ksa h).2.2 hb (blk_lt (ksa h).2.2)⟩)⟩
        · skip
          refine inv_arm (o := ⟨some 8, .alloc 38, 0, "law.go:53", #[], none⟩) rfl (fun K hK => ?_)
          go_simp
          have zs := hS.size
          have hb := (Below.refl u.heap.size u).alloc (Nat.le_refl _) (.cells #[.bool false, .bool false, .bool false, .int .i64 0, .int .i64 0, .int .u64 0, .slice none 0 0] 38)
          replace hS := hS.trans (hb.mono hS.size)
          refine Shut.out hK _ _ hS (fun _ => ?_)
          clear hK K
          try simp only [Act.put, List.setIfInBounds_toArray, List.set_cons_zero, List.set_cons_succ]
          exact IH _ _ _ _ (by omega) ⟨cq0, cq1, xq0, xq1, true, v26, v32, v24, v33, v34, v35, p6, p7, _, sx, sg, u.heap.size, rfl, (by (try simp only [List.setIfInBounds_toArray, List.set_cons_zero, List.set_cons_succ]); try rfl), (by simp only [cond_true, cond_false] at hn ⊢; omega), hc0, hS, h26, h33, h34, h35, (fun h => ⟨(ksx h).1, (ksx h).2.1, blk_below (ksx h).2.2 hb (blk_lt (ksx h).2.2)⟩), (fun h => ⟨(ksg h).1, (ksg h).2.1, blk_below (ksg h).2.2 hb (blk_lt (ksg h).2.2)⟩), (fun _ => ⟨rfl, zs, heap_alloc_new _ _⟩)⟩
      simp only [Bool.and_eq_true] at hall
      obtain ⟨rfl, rfl, rfl, rfl, rfl⟩ := hall
      obtain rfl := h26 rfl
      obtain rfl := h33 rfl
      obtain rfl := h34 rfl
      obtain rfl := h35 rfl
      obtain ⟨rfl, gsx, Vsx⟩ := ksx rfl
      obtain ⟨rfl, gsg, Vsg⟩ := ksg rfl
      obtain ⟨rfl, gsa, Vsa⟩ := ksa rfl
      obtain ⟨fu, rfl⟩ : ∃ m, fu = m + 3 := ⟨fu - 3, by simp only [cond_true] at hn; omega⟩
      clear IH hn hc0
      have neo_x := Nat.ne_of_lt (Nat.lt_of_lt_of_le (blk_lt Vo.out) gsx)
      have neo_g := Nat.ne_of_lt (Nat.lt_of_lt_of_le (blk_lt Vo.out) gsg)
      have neo_a := Nat.ne_of_lt (Nat.lt_of_lt_of_le (blk_lt Vo.out) gsa)
      have nex_g : sx ≠ sg := blk_ne Vsx Vsg (by decide)
      have nex_a : sx ≠ sa := blk_ne Vsx Vsa (by decide)
      have neg_a : sg ≠ sa := blk_ne Vsg Vsa (by decide)
      have gex := Nat.le_trans HB.out.2 gsx
      have geg := Nat.le_trans HB.out.2 gsg
      have gea := Nat.le_trans HB.out.2 gsa
      replace Vo := Lib.hid (blk_below Vo.out hS (blk_lt Vo.out))
      replace HB := Lib.hid (And.intro (HB.out.1.trans (hS.mono HB.out.2)) (Nat.le_trans HB.out.2 hS.size))
      have Vx := Lib.hid Vsx
      clear Vsx
      have Vg := Lib.hid Vsg
      clear Vsg
      have Va := Lib.hid Vsa
      clear Vsa
      obtain ⟨w4, hw4⟩ : ∃ W, u.setCells (sx) 0 [.int .i64 3, .int .i64 v, .int .i64 0, .int .i64 0, .int .i64 0, .int .i64 0, .int .i64 0, .int .u32 0, .int .u32 0, .slice none 0 0, .slice none 0 0] = W := ⟨_, rfl⟩
      have thx := Lib.hid (there_blk Vx.out (k := 11) rfl)
      replace Vo := Lib.hid (stayS hw4 neo_x Vo.out)
      replace Vg := Lib.hid (stayS hw4 nex_g.symm Vg.out)
      replace Va := Lib.hid (stayS hw4 nex_a.symm Va.out)
      replace Vx := Lib.hid (setS hw4 Vx.out rfl)
      replace HB := Lib.hid (belS hw4 gex HB.out)
      refine wpAnyH_ready (rs := [15]) (by kernel_rfl) (by simp) (AllReadyH.cons (o := ⟨none, .store 29 (.tmp 6) (.tmp 33), 0, "law.go:53", #[⟨12, .data⟩, ⟨9, .data⟩, ⟨7, .chain⟩, ⟨0, .phase⟩, ⟨1, .phase⟩, ⟨2, .phase⟩, ⟨3, .phase⟩, ⟨4, .phase⟩, ⟨5, .phase⟩, ⟨6, .phase⟩, ⟨7, .phase⟩, ⟨8, .phase⟩, ⟨9, .phase⟩, ⟨10, .textOnly .lateStores⟩, ⟨11, .textOnly .lateStores⟩, ⟨12, .phase⟩, ⟨13, .phase⟩, ⟨14, .phase⟩], none⟩) rfl (fun K hK => ?_) AllReadyH.nil)
      refine op_storeS (by rfl) rfl rfl rfl thx.out (by kernel_rfl) (by simp [Value.oneCell']) hw4 ?_
      replace hS := hw4 ▸ below_setCells gsx [.int .i64 3, .int .i64 v, .int .i64 0, .int .i64 0, .int .i64 0, .int .i64 0, .int .i64 0, .int .u32 0, .int .u32 0, .slice none 0 0, .slice none 0 0] 0 _ hS
      obtain ⟨w5, hw5⟩ : ∃ W, w4.setCells (sg) 0 [.int .i64 0, .int .i64 0, .int .i64 0, .int .i64 0, .int .i64 0, .int .i64 0, .bool false, .bool false, .int .i64 0, .bool false] = W := ⟨_, rfl⟩
      have thg := Lib.hid (there_blk Vg.out (k := 10) rfl)
      replace Vo := Lib.hid (stayS hw5 neo_g Vo.out)
      replace Vx := Lib.hid (stayS hw5 nex_g Vx.out)
      replace Va := Lib.hid (stayS hw5 neg_a.symm Va.out)
      replace Vg := Lib.hid (setS hw5 Vg.out rfl)
      replace HB := Lib.hid (belS hw5 geg HB.out)
      refine Shut.out hK _ _ hS (fun _ => ?_)
      clear hK K
      try simp only [Act.put, List.setIfInBounds_toArray, List.set_cons_zero, List.set_cons_succ]
      refine wpAnyH_ready (rs := [16]) (by kernel_rfl) (by simp) (AllReadyH.cons (o := ⟨none, .store 31 (.tmp 7) (.tmp 34), 0, "law.go:53", #[⟨13, .data⟩, ⟨10, .data⟩, ⟨15, .chain⟩, ⟨0, .phase⟩, ⟨1, .phase⟩, ⟨2, .phase⟩, ⟨3, .phase⟩, ⟨4, .phase⟩, ⟨5, .phase⟩, ⟨6, .phase⟩, ⟨7, .phase⟩, ⟨8, .phase⟩, ⟨9, .phase⟩, ⟨10, .phase⟩, ⟨11, .textOnly .lateStores⟩, ⟨12, .phase⟩, ⟨13, .phase⟩, ⟨14, .phase⟩, ⟨15, .phase⟩], none⟩) rfl (fun K hK => ?_) AllReadyH.nil)
      refine op_storeS (by rfl) rfl rfl rfl thg.out (by kernel_rfl) (by simp [Value.oneCell']) hw5 ?_
      replace hS := hw5 ▸ below_setCells gsg [.int .i64 0, .int .i64 0, .int .i64 0, .int .i64 0, .int .i64 0, .int .i64 0, .bool false, .bool false, .int .i64 0, .bool false] 0 _ hS
      obtain ⟨w6, hw6⟩ : ∃ W, w5.setCells (sa) 0 [.bool false, .bool false, .bool false, .int .i64 0, .int .i64 2, .int .u64 0, .slice none 0 0] = W := ⟨_, rfl⟩
      have tha := Lib.hid (there_blk Va.out (k := 7) rfl)
      replace Vo := Lib.hid (stayS hw6 neo_a Vo.out)
      replace Vx := Lib.hid (stayS hw6 nex_a Vx.out)
      replace Vg := Lib.hid (stayS hw6 neg_a Vg.out)
      replace Va := Lib.hid (setS hw6 Va.out rfl)
      replace HB := Lib.hid (belS hw6 gea HB.out)
      refine Shut.out hK _ _ hS (fun _ => ?_)
      clear hK K
      try simp only [Act.put, List.setIfInBounds_toArray, List.set_cons_zero, List.set_cons_succ]
      refine wpAnyH_ready (rs := [17]) (by kernel_rfl) (by simp) (AllReadyH.cons (o := ⟨none, .store 38 (.tmp 8) (.tmp 35), 0, "law.go:53", #[⟨14, .data⟩, ⟨11, .data⟩, ⟨16, .chain⟩, ⟨0, .phase⟩, ⟨1, .phase⟩, ⟨2, .phase⟩, ⟨3, .phase⟩, ⟨4, .phase⟩, ⟨5, .phase⟩, ⟨6, .phase⟩, ⟨7, .phase⟩, ⟨8, .phase⟩, ⟨9, .phase⟩, ⟨10, .phase⟩, ⟨11, .phase⟩, ⟨12, .phase⟩, ⟨13, .phase⟩, ⟨14, .phase⟩, ⟨15, .phase⟩, ⟨16, .phase⟩], none⟩) rfl (fun K hK => ?_) AllReadyH.nil)
      refine op_storeS (by rfl) rfl rfl rfl tha.out (by kernel_rfl) (by simp [Value.oneCell']) hw6 ?_
      replace hS := hw6 ▸ below_setCells gsa [.bool false, .bool false, .bool false, .int .i64 0, .int .i64 2, .int .u64 0, .slice none 0 0] 0 _ hS
      refine Shut.out hK _ _ hS (fun _ => ?_)
      clear hK K
      try simp only [Act.put, List.setIfInBounds_toArray, List.set_cons_zero, List.set_cons_succ]
      refine wpAnyH_done (by kernel_rfl) ?_ _
      refine NoPanic.normal ?_
      clear hS gsx gsg gsa thx thg tha
      have hcx : w6.cell? ⟨b1_, off1 + i, none⟩ = some (.int .i8 e1_) := (HB.out.1.cell (p := ⟨b1_, off1 + i, none⟩) HB1.out).trans HC1.out
      have OE := Lib.hid (fun (W : World) => obj15_eq2 3 v 0 0 0 0 0 0 0 none 0 0 none 0 0 none 0 none 0 [] [] W (Es.nil _ _ _ _) (Es.nil _ _ _ _) (Es.nil _ _ _ _) (Es.nil _ _ _ _) (by omega) (by omega))
      have ca := row7 Va.out
      have cg := row10 Vg.out
      have cx := row11 Vx.out
      have co := row11 Vo.out
      go_wp2_with fail
      refine (OE.out _).mono ?_
      rintro e w7 ⟨rfl, hb⟩
      clear hcx ca cg cx co
      replace Vo := Lib.hid (blk_below Vo.out hb (blk_lt Vo.out))
      replace Vx := Lib.hid (blk_below Vx.out hb (blk_lt Vx.out))
      replace Vg := Lib.hid (blk_below Vg.out hb (blk_lt Vg.out))
      replace Va := Lib.hid (blk_below Va.out hb (blk_lt Va.out))
      replace HB := Lib.hid (And.intro (HB.out.1.trans (hb.mono HB.out.2)) (Nat.le_trans HB.out.2 hb.size))
      clear hb
      have cg := row10 Vg.out
      have ca := row7 Va.out
      have cx := row11 Vx.out
      have co := row11 Vo.out
      go_wp2
      go_roundw
      case rel =>
        have q1 := HLT.out; have q2 := HE1.out; have q3 := HV.out; have q4 := HY.out; have q5 := HY0.out
        exact ⟨i + 1, v, rfl, by go_num, by omega, Lib.hid ⟨by omega, by omega⟩, HB, Vo⟩
      case measure =>
        have := HLT.out
        simp [intOf]; omega
    have d0 : decide (y < 0) = false := decide_eq_false hy0
    have HY0 := Lib.hid hy0
    have HYE := Lib.hid hy
    clear hy0
    by_cases hz : y = 0
    · have z0 : (y == 0) = true := by simp [hz]
      have HZ := Lib.hid hz
      clear hz
      have KC := Lib.hid (show ∀ W : World, Calls Try.prog 8 #[.agg #[.int .i64 3, .int .i64 v, .int .i64 0, .int .i64 0, .int .i64 0, .int .i64 0, .int .i64 0, .int .u32 0, .int .u32 0, .slice none 0 0, .slice none 0 0], .agg #[.int .i64 32, .int .i64 0, .int .i64 0, .int .i64 0, .int .i64 (-1), .int .i64 0, .bool false, .bool false, .int .i64 0, .bool false], .int .i64 e1_] W (fun e w' => e = .returned (.tuple #[.agg #[.int .i64 3, .int .i64 y, .int .i64 0, .int .i64 0, .int .i64 0, .int .i64 0, .int .i64 0, .int .u32 0, .int .u32 0, .slice none 0 0, .slice none 0 0], .agg #[.int .i64 0, .int .i64 0, .int .i64 0, .int .i64 0, .int .i64 0, .int .i64 0, .bool false, .bool false, .int .i64 0, .bool false], .agg #[.bool true, .bool false, .bool false, .int .i64 0, .int .i64 0, .int .u64 0, .slice none 0 0]]) ∧ Below W.heap.size W w') from fun W => by
        have h := grCount_nil 3 v 0 0 0 0 0 0 0 (⟨32, 0, 0, 0, -1, 0, false, false, 0, false⟩ : MFr) e1_ ⟨HWV.out, by kernel_rfl⟩ W
        rw [show countW v 0 (⟨32, 0, 0, 0, -1, 0, false, false, 0, false⟩ : MFr) e1_ = ((y, 0), (⟨0, 0, 0, 0, 0, 0, false, false, 0, false⟩ : MFr), (⟨true, 0, false, 0⟩ : MAct)) from (by
          have h1 := HYE.out; have h2 := HY0.out; have h3 := HV.out; have h4 := HE1.out; have h5 := HY.out; have h6 := HLT.out
          unfold countW
          rw [if_pos rfl, h1, if_neg (by omega), if_pos (Or.inr rfl)]
          rfl)] at h
        exact h)
      go_wp2
      refine wp_region_noPanic ?_
      refine wp_region_held_drew (S := (fun wv => Below wr.heap.size wr wv)) (by kernel_rfl) ((Below.refl wr.heap.size wr).drew) (fun hS => ?_)
      refine wpAnyH_take (i := 0) (oi := ⟨some 25, .load 29 (.tmp 3), 29, "law.go:53", #[], none⟩) (v := .agg (([.int .i64 3, .int .i64 v, .int .i64 0, .int .i64 0, .int .i64 0, .int .i64 0, .int .i64 0, .int .u32 0, .int .u32 0, .slice none 0 0, .slice none 0 0] : List Value)).toArray) rfl (by kernel_rfl) (by kernel_rfl) (by kernel_rfl) (fun _ _ _ h => h) (yieldsIf_load_mid (by rfl) _ _ (by rfl) (so) (0) (by rfl) _ _ (fun wv hS => blk_rngl (blk_below Vo.out hS (blk_lt Vo.out))) Try.underlying29 (by rfl) (by kernel_rfl)) hS ?_
      try simp only [Act.put, List.setIfInBounds_toArray, List.set_cons_zero, List.set_cons_succ]
      refine wpAnyH_take (i := 2) (oi := ⟨some 27, .move (.tmp 0), 45, "law.go:53", #[], none⟩) (v := ?_) rfl (by kernel_rfl) (by kernel_rfl) (by kernel_rfl) (fun _ _ _ h => h) (Or.inl ⟨by rfl, ?_⟩) hS ?_
      rotate_left
      · intro wv _; go_simp; try with_reducible rfl
      try simp only [Act.put, List.setIfInBounds_toArray, List.set_cons_zero, List.set_cons_succ]
      refine wpAnyH_take (i := 3) (oi := ⟨some 28, .move (.tmp 5), 3, "law.go:53", #[], none⟩) (v := ?_) rfl (by kernel_rfl) (by kernel_rfl) (by kernel_rfl) (fun _ _ _ h => h) (Or.inl ⟨by rfl, ?_⟩) hS ?_
      rotate_left
      · intro wv _; go_simp; try with_reducible rfl
      try simp only [Act.put, List.setIfInBounds_toArray, List.set_cons_zero, List.set_cons_succ]
      refine wpAnyH_take (i := 4) (oi := ⟨some 29, .indexAddr 45 (.tmp 27) (.tmp 28), 0, "law.go:53", #[⟨2, .data⟩, ⟨3, .data⟩], none⟩) (v := ?_) rfl (by kernel_rfl) (by kernel_rfl) (by kernel_rfl) (fun _ _ _ h => h) (Or.inl ⟨by rfl, ?_⟩) hS ?_
      rotate_left
      · intro wv _; go_simp; try with_reducible rfl
      try simp only [Act.put, List.setIfInBounds_toArray, List.set_cons_zero, List.set_cons_succ]
      refine wpAnyH_take (i := 5) (oi := ⟨some 30, .load 47 (.tmp 29), 47, "law.go:53", #[⟨4, .data⟩], none⟩) (v := ?_) rfl (by kernel_rfl) (by kernel_rfl) (by kernel_rfl) (fun _ _ _ h => h) (Or.inl ⟨by rfl, ?_⟩) hS ?_
      rotate_left
      · intro wv hS; have hrun := ((hS.cell (p := ⟨b1_, off1 + i, none⟩) (Nat.lt_of_lt_of_le HB1.out HB.out.2)).trans ((HB.out.1.cell (p := ⟨b1_, off1 + i, none⟩) HB1.out).trans HC1.out)); go_simp; try with_reducible rfl
      try simp only [Act.put, List.setIfInBounds_toArray, List.set_cons_zero, List.set_cons_succ]
      refine wpAnyH_take (i := 6) (oi := ⟨some 31, .convert 47 2 (.tmp 30), 2, "law.go:53", #[⟨5, .data⟩], none⟩) (v := ?_) rfl (by kernel_rfl) (by kernel_rfl) (by kernel_rfl) (fun _ _ _ h => h) (Or.inl ⟨by rfl, ?_⟩) hS ?_
      rotate_left
      · intro wv _; go_simp; try with_reducible rfl
      try simp only [Act.put, List.setIfInBounds_toArray, List.set_cons_zero, List.set_cons_succ]
      refine inv_region (fun a0 fu listed a u => ∃ (cq0 cq1 xq0 xq1 xq2 : Bool) (v26 v32 v24 v33 v34 v35 p6 p7 p8 : Value) (sx sg sa : Nat), listed = #[true, cq0, true, true, true, true, true, cq1, cq1, cq1, cq1, cq1, xq0, xq1, xq2, false, false, false] ∧ a = ⟨(((((((((a0.tmps.setIfInBounds 26 v26).setIfInBounds 32 v32).setIfInBounds 24 v24).setIfInBounds 33 v33).setIfInBounds 34 v34).setIfInBounds 35 v35).setIfInBounds 6 p6).setIfInBounds 7 p7).setIfInBounds 8 p8), a0.defers⟩ ∧ (bif cq0 then 0 else 1) + (bif cq1 then 0 else 5) + (bif xq0 then 0 else 1) + (bif xq1 then 0 else 1) + (bif xq2 then 0 else 1) + 3 ≤ fu ∧ (cq1 = true → cq0 = true) ∧ Below wr.heap.size wr u ∧ (cq0 = true → v26 = .agg #[.int .i64 32, .int .i64 0, .int .i64 0, .int .i64 0, .int .i64 (-1), .int .i64 0, .bool false, .bool false, .int .i64 0, .bool false]) ∧ (cq1 = true → v33 = .agg #[.int .i64 3, .int .i64 y, .int .i64 0, .int .i64 0, .int .i64 0, .int .i64 0, .int .i64 0, .int .u32 0, .int .u32 0, .slice none 0 0, .slice none 0 0]) ∧ (cq1 = true → v34 = .agg #[.int .i64 0, .int .i64 0, .int .i64 0, .int .i64 0, .int .i64 0, .int .i64 0, .bool false, .bool false, .int .i64 0, .bool false]) ∧ (cq1 = true → v35 = .agg #[.bool true, .bool false, .bool false, .int .i64 0, .int .i64 0, .int .u64 0, .slice none 0 0]) ∧ (xq0 = true → p6 = .pointer (some ⟨sx, 0, none⟩) ∧ wr.heap.size ≤ sx ∧ u.heap[sx]? = some (.cells #[.int .i64 0, .int .i64 0, .int .i64 0, .int .i64 0, .int .i64 0, .int .i64 0, .int .i64 0, .int .u32 0, .int .u32 0, .slice none 0 0, .slice none 0 0] 29)) ∧ (xq1 = true → p7 = .pointer (some ⟨sg, 0, none⟩) ∧ wr.heap.size ≤ sg ∧ u.heap[sg]? = some (.cells #[.int .i64 0, .int .i64 0, .int .i64 0, .int .i64 0, .int .i64 0, .int .i64 0, .bool false, .bool false, .int .i64 0, .bool false] 31)) ∧ (xq2 = true → p8 = .pointer (some ⟨sa, 0, none⟩) ∧ wr.heap.size ≤ sa ∧ u.heap[sa]? = some (.cells #[.bool false, .bool false, .bool false, .int .i64 0, .int .i64 0, .int .u64 0, .slice none 0 0] 38))) ⟨false, false, false, false, false, u26, u32, u24, u33, u34, u35, u6, u7, u8, 0, 0, 0, rfl, (by first | (simp only [List.setIfInBounds_toArray, List.set_cons_zero, List.set_cons_succ]; done) | rfl), (by show _ + _ ≤ _; decide), (fun h => nomatch h), hS, (fun h => nomatch h), (fun h => nomatch h), (fun h => nomatch h), (fun h => nomatch h), (fun h => nomatch h), (fun h => nomatch h), (fun h => nomatch h)⟩ ?_
      clear hS; rintro fu listed a u ⟨cq0, cq1, xq0, xq1, xq2, v26, v32, v24, v33, v34, v35, p6, p7, p8, sx, sg, sa, rfl, rfl, hn, hc0, hS, h26, h33, h34, h35, ksx, ksg, ksa⟩ IH
      try simp only [List.setIfInBounds_toArray, List.set_cons_zero, List.set_cons_succ]
      by_cases hall : (cq0 && (cq1 && (xq0 && (xq1 && (xq2))))) = true
      rotate_left
      · have hbad : ((cq1 && !cq0) || ((cq0 && (cq1 && (xq0 && (xq1 && (xq2))))))) = false := inv_or (inv_imp hc0) (inv_not hall)
        obtain ⟨fu, rfl⟩ : ∃ m, fu = m + 1 := ⟨fu - 1, by omega⟩
        refine inv_step (bad := ((cq1 && !cq0) || ((cq0 && (cq1 && (xq0 && (xq1 && (xq2)))))))) (fun i => ((i == 1 && !cq0) || ((i == 7 && (cq0 && !cq1)) || ((i == 12 && !xq0) || ((i == 13 && !xq1) || ((i == 14 && !xq2))))))) ((show ∀ cq0 cq1 xq0 xq1 xq2 : Bool, (((cq1 && !cq0) || ((cq0 && (cq1 && (xq0 && (xq1 && (xq2))))))) || (!(Region.ready _ _ #[true, cq0, true, true, true, true, true, cq1, cq1, cq1, cq1, cq1, xq0, xq1, xq2, false, false, false]).isEmpty && (Region.ready _ _ #[true, cq0, true, true, true, true, true, cq1, cq1, cq1, cq1, cq1, xq0, xq1, xq2, false, false, false]).all (fun i => ((i == 1 && !cq0) || ((i == 7 && (cq0 && !cq1)) || ((i == 12 && !xq0) || ((i == 13 && !xq1) || ((i == 14 && !xq2))))))))) = true from by intro cq0 cq1 xq0 xq1 xq2; cases cq0 <;> cases cq1 <;> cases xq0 <;> cases xq1 <;> cases xq2 <;> kernel_rfl) cq0 cq1 xq0 xq1 xq2) hbad (fun i hi => ?_)
        simp only [Bool.or_eq_true, Bool.and_eq_true, beq_iff_eq, Bool.not_eq_true'] at hi
        clear hall hbad
        rcases hi with ⟨rfl, rfl⟩ | ⟨rfl, rfl, rfl⟩ | ⟨rfl, rfl⟩ | ⟨rfl, rfl⟩ | ⟨rfl, rfl⟩
        · skip
          refine inv_arm (o := ⟨some 26, .call { callee := .value (.func 14), args := #[.const (Value.int IntKind.i64 32)], argTypes := #[3] }, 31, "law.go:53", #[], none⟩) rfl (fun K hK => ?_)
          go_simp
          go_wp2_with fail
          refine (N1.out _).mono ?_; rintro e u1 ⟨rfl, hb⟩
          replace hS := hS.trans (hb.mono hS.size)
          refine Shut.out hK _ _ hS (fun _ => ?_)
          clear hK K
          try simp only [Act.put, List.setIfInBounds_toArray, List.set_cons_zero, List.set_cons_succ]
          exact IH _ _ _ _ (by omega) ⟨true, cq1, xq0, xq1, xq2, _, v32, v24, v33, v34, v35, p6, p7, p8, sx, sg, sa, rfl, (by (try simp only [List.setIfInBounds_toArray, List.set_cons_zero, List.set_cons_succ]); try rfl), (by simp only [cond_true, cond_false] at hn ⊢; omega), (fun _ => rfl), hS, (fun _ => rfl), h33, h34, h35, (fun h => ⟨(ksx h).1, (ksx h).2.1, blk_below (ksx h).2.2 hb (blk_lt (ksx h).2.2)⟩), (fun h => ⟨(ksg h).1, (ksg h).2.1, blk_below (ksg h).2.2 hb (blk_lt (ksg h).2.2)⟩), (fun h => ⟨(ksa h).1, (ksa h).2.1, blk_below (ksa h).2.2 hb (blk_lt (ksa h).2.2)⟩)⟩
        · skip
          obtain rfl := h26 rfl
          refine inv_arm (o := ⟨some 32, .call { callee := .value (.func 8), args := #[.tmp 25, .tmp 26, .tmp 31], argTypes := #[29, 31, 2] }, 39, "law.go:53", #[⟨0, .data⟩, ⟨1, .data⟩, ⟨6, .data⟩, ⟨1, .chain⟩], none⟩) rfl (fun K hK => ?_)
          go_simp
          go_wp2_with fail
          refine (KC.out _).mono ?_; rintro e u7 ⟨rfl, hb⟩
          replace hS := hS.trans (hb.mono hS.size)
          obtain ⟨fu, rfl⟩ : ∃ m, fu = m + 4 := ⟨fu - 4, by simp only [cond_true, cond_false] at hn; omega⟩
          refine Shut.out hK _ _ hS (fun _ => ?_)
          clear hK K
          try simp only [Act.put, List.setIfInBounds_toArray, List.set_cons_zero, List.set_cons_succ]
          refine wpAnyH_take (i := 8) (oi := ⟨some 24, .move (.tmp 32), 39, "law.go:53", #[⟨7, .data⟩], none⟩) (v := ?_) rfl (by kernel_rfl) ((show ∀ xq0 xq1 xq2 : Bool, Region.free _ _ #[true, true, true, true, true, true, true, true, false, false, false, false, xq0, xq1, xq2, false, false, false] 8 = true from by intro xq0 xq1 xq2; cases xq0 <;> cases xq1 <;> cases xq2 <;> kernel_rfl) xq0 xq1 xq2) ((show ∀ xq0 xq1 xq2 : Bool, (Region.ready _ _ #[true, true, true, true, true, true, true, true, false, false, false, false, xq0, xq1, xq2, false, false, false]).contains 8 = true from by intro xq0 xq1 xq2; cases xq0 <;> cases xq1 <;> cases xq2 <;> kernel_rfl) xq0 xq1 xq2) (fun _ _ _ h => h) (Or.inl ⟨by rfl, ?_⟩) hS ?_
          rotate_left
          · intro wv _; go_simp; try with_reducible rfl
          try simp only [Act.put, List.setIfInBounds_toArray, List.set_cons_zero, List.set_cons_succ]
          refine wpAnyH_take (i := 9) (oi := ⟨some 33, .extract (.tmp 24) 0, 29, "law.go:53", #[⟨8, .data⟩], none⟩) (v := ?_) rfl (by kernel_rfl) ((show ∀ xq0 xq1 xq2 : Bool, Region.free _ _ #[true, true, true, true, true, true, true, true, true, false, false, false, xq0, xq1, xq2, false, false, false] 9 = true from by intro xq0 xq1 xq2; cases xq0 <;> cases xq1 <;> cases xq2 <;> kernel_rfl) xq0 xq1 xq2) ((show ∀ xq0 xq1 xq2 : Bool, (Region.ready _ _ #[true, true, true, true, true, true, true, true, true, false, false, false, xq0, xq1, xq2, false, false, false]).contains 9 = true from by intro xq0 xq1 xq2; cases xq0 <;> cases xq1 <;> cases xq2 <;> kernel_rfl) xq0 xq1 xq2) (fun _ _ _ h => h) (Or.inl ⟨by rfl, ?_⟩) hS ?_
          rotate_left
          · intro wv _; go_simp; try with_reducible rfl
          try simp only [Act.put, List.setIfInBounds_toArray, List.set_cons_zero, List.set_cons_succ]
          refine wpAnyH_take (i := 10) (oi := ⟨some 34, .extract (.tmp 24) 1, 31, "law.go:53", #[⟨8, .data⟩, ⟨15, .gcOnly .lateStores⟩], none⟩) (v := ?_) rfl (by kernel_rfl) ((show ∀ xq0 xq1 xq2 : Bool, Region.free _ _ #[true, true, true, true, true, true, true, true, true, true, false, false, xq0, xq1, xq2, false, false, false] 10 = true from by intro xq0 xq1 xq2; cases xq0 <;> cases xq1 <;> cases xq2 <;> kernel_rfl) xq0 xq1 xq2) ((show ∀ xq0 xq1 xq2 : Bool, (Region.ready _ _ #[true, true, true, true, true, true, true, true, true, true, false, false, xq0, xq1, xq2, false, false, false]).contains 10 = true from by intro xq0 xq1 xq2; cases xq0 <;> cases xq1 <;> cases xq2 <;> kernel_rfl) xq0 xq1 xq2) (fun _ _ _ h => h) (Or.inl ⟨by rfl, ?_⟩) hS ?_
          rotate_left
          · intro wv _; go_simp; try with_reducible rfl
          try simp only [Act.put, List.setIfInBounds_toArray, List.set_cons_zero, List.set_cons_succ]
          refine wpAnyH_take (i := 11) (oi := ⟨some 35, .extract (.tmp 24) 2, 38, "law.go:53", #[⟨8, .data⟩, ⟨16, .gcOnly .lateStores⟩], none⟩) (v := ?_) rfl (by kernel_rfl) ((show ∀ xq0 xq1 xq2 : Bool, Region.free _ _ #[true, true, true, true, true, true, true, true, true, true, true, false, xq0, xq1, xq2, false, false, false] 11 = true from by intro xq0 xq1 xq2; cases xq0 <;> cases xq1 <;> cases xq2 <;> kernel_rfl) xq0 xq1 xq2) ((show ∀ xq0 xq1 xq2 : Bool, (Region.ready _ _ #[true, true, true, true, true, true, true, true, true, true, true, false, xq0, xq1, xq2, false, false, false]).contains 11 = true from by intro xq0 xq1 xq2; cases xq0 <;> cases xq1 <;> cases xq2 <;> kernel_rfl) xq0 xq1 xq2) (fun _ _ _ h => h) (Or.inl ⟨by rfl, ?_⟩) hS ?_
          rotate_left
          · intro wv _; go_simp; try with_reducible rfl
          try simp only [Act.put, List.setIfInBounds_toArray, List.set_cons_zero, List.set_cons_succ]
          exact IH _ _ _ _ (by omega) ⟨true, true, xq0, xq1, xq2, _, _, _, _, _, _, p6, p7, p8, sx, sg, sa, rfl, (by (try simp only [List.setIfInBounds_toArray, List.set_cons_zero, List.set_cons_succ]); try rfl), (by simp only [cond_true, cond_false] at hn ⊢; omega), (fun _ => rfl), hS, (fun _ => rfl), (fun _ => rfl), (fun _ => rfl), (fun _ => rfl), (fun h => ⟨(ksx h).1, (ksx h).2.1, blk_below (ksx h).2.2 hb (blk_lt (ksx h).2.2)⟩), (fun h => ⟨(ksg h).1, (ksg h).2.1, blk_below (ksg h).2.2 hb (blk_lt (ksg h).2.2)⟩), (fun h => ⟨(ksa h).1, (ksa h).2.1, blk_below (ksa h).2.2 hb (blk_lt (ksa h).2.2)⟩)⟩
        · skip
          refine inv_arm (o := ⟨some 6, .alloc 29, 0, "law.go:53", #[], none⟩) rfl (fun K hK => ?_)
          go_simp
          have zs := hS.size
          have hb := (Below.refl u.heap.size u).alloc (Nat.le_refl _) (.cells #[.int .i64 0, .int .i64 0, .int .i64 0, .int .i64 0, .int .i64 0, .int .i64 0, .int .i64 0, .int .u32 0, .int .u32 0, .slice none 0 0, .slice none 0 0] 29)
          replace hS := hS.trans (hb.mono hS.size)
          refine Shut.out hK _ _ hS (fun _ => ?_)
          clear hK K
          try simp only [Act.put, List.setIfInBounds_toArray, List.set_cons_zero, List.set_cons_succ]
          exact IH _ _ _ _ (by omega) ⟨cq0, cq1, true, xq1, xq2, v26, v32, v24, v33, v34, v35, _, p7, p8, u.heap.size, sg, sa, rfl, (by (try simp only [List.setIfInBounds_toArray, List.set_cons_zero, List.set_cons_succ]); try rfl), (by simp only [cond_true, cond_false] at hn ⊢; omega), hc0, hS, h26, h33, h34, h35, (fun _ => ⟨rfl, zs, heap_alloc_new _ _⟩), (fun h => ⟨(ksg h).1, (ksg h).2.1, blk_below (ksg h).2.2 hb (blk_lt (ksg h).2.2)⟩), (fun h => ⟨(ksa h).1, (ksa h).2.1, blk_below (ksa h).2.2 hb (blk_lt (ksa h).2.2)⟩)⟩
        · skip
          refine inv_arm (o := ⟨some 7, .alloc 31, 0, "law.go:53", #[], none⟩) rfl (fun K hK => ?_)
          go_simp
          have zs := hS.size
          have hb := (Below.refl u.heap.size u).alloc (Nat.le_refl _) (.cells #[.int .i64 0, .int .i64 0, .int .i64 0, .int .i64 0, .int .i64 0, .int .i64 0, .bool false, .bool false, .int .i64 0, .bool false] 31)
          replace hS := hS.trans (hb.mono hS.size)
          refine Shut.out hK _ _ hS (fun _ => ?_)
          clear hK K
          try simp only [Act.put, List.setIfInBounds_toArray, List.set_cons_zero, List.set_cons_succ]
          exact IH _ _ _ _ (by omega) ⟨cq0, cq1, xq0, true, xq2, v26, v32, v24, v33, v34, v35, p6, _, p8, sx, u.heap.size, sa, rfl, (by (try simp only [List.setIfInBounds_toArray, List.set_cons_zero, List.set_cons_succ]); try rfl), (by simp only [cond_true, cond_false] at hn ⊢; omega), hc0, hS, h26, h33, h34, h35, (fun h => ⟨(ksx h).1, (ksx h).2.1, blk_below (ksx h).2.2 hb (blk_lt (ksx h).2.2)⟩), (fun _ => ⟨rfl, zs, heap_alloc_new _ _⟩), (fun h => ⟨(ksa h).1, (ksa h).2.1, blk_below (ksa h).2.2 hb (blk_lt (ksa h).2.2)⟩)⟩
        · skip
          refine inv_arm (o := ⟨some 8, .alloc 38, 0, "law.go:53", #[], none⟩) rfl (fun K hK => ?_)
          go_simp
          have zs := hS.size
          have hb := (Below.refl u.heap.size u).alloc (Nat.le_refl _) (.cells #[.bool false, .bool false, .bool false, .int .i64 0, .int .i64 0, .int .u64 0, .slice none 0 0] 38)
          replace hS := hS.trans (hb.mono hS.size)
          refine Shut.out hK _ _ hS (fun _ => ?_)
          clear hK K
          try simp only [Act.put, List.setIfInBounds_toArray, List.set_cons_zero, List.set_cons_succ]
          exact IH _ _ _ _ (by omega) ⟨cq0, cq1, xq0, xq1, true, v26, v32, v24, v33, v34, v35, p6, p7, _, sx, sg, u.heap.size, rfl, (by (try simp only [List.setIfInBounds_toArray, List.set_cons_zero, List.set_cons_succ]); try rfl), (by simp only [cond_true, cond_false] at hn ⊢; omega), hc0, hS, h26, h33, h34, h35, (fun h => ⟨(ksx h).1, (ksx h).2.1, blk_below (ksx h).2.2 hb (blk_lt (ksx h).2.2)⟩), (fun h => ⟨(ksg h).1, (ksg h).2.1, blk_below (ksg h).2.2 hb (blk_lt (ksg h).2.2)⟩), (fun _ => ⟨rfl, zs, heap_alloc_new _ _⟩)⟩
      simp only [Bool.and_eq_true] at hall
      obtain ⟨rfl, rfl, rfl, rfl, rfl⟩ := hall
      obtain rfl := h26 rfl
      obtain rfl := h33 rfl
      obtain rfl := h34 rfl
      obtain rfl := h35 rfl
      obtain ⟨rfl, gsx, Vsx⟩ := ksx rfl
      obtain ⟨rfl, gsg, Vsg⟩ := ksg rfl
      obtain ⟨rfl, gsa, Vsa⟩ := ksa rfl
      obtain ⟨fu, rfl⟩ : ∃ m, fu = m + 3 := ⟨fu - 3, by simp only [cond_true] at hn; omega⟩
      clear IH hn hc0
      have neo_x := Nat.ne_of_lt (Nat.lt_of_lt_of_le (blk_lt Vo.out) gsx)
      have neo_g := Nat.ne_of_lt (Nat.lt_of_lt_of_le (blk_lt Vo.out) gsg)
      have neo_a := Nat.ne_of_lt (Nat.lt_of_lt_of_le (blk_lt Vo.out) gsa)
      have nex_g : sx ≠ sg := blk_ne Vsx Vsg (by decide)
      have nex_a : sx ≠ sa := blk_ne Vsx Vsa (by decide)
      have neg_a : sg ≠ sa := blk_ne Vsg Vsa (by decide)
      have gex := Nat.le_trans HB.out.2 gsx
      have geg := Nat.le_trans HB.out.2 gsg
      have gea := Nat.le_trans HB.out.2 gsa
      replace Vo := Lib.hid (blk_below Vo.out hS (blk_lt Vo.out))
      replace HB := Lib.hid (And.intro (HB.out.1.trans (hS.mono HB.out.2)) (Nat.le_trans HB.out.2 hS.size))
      have Vx := Lib.hid Vsx
      clear Vsx
      have Vg := Lib.hid Vsg
      clear Vsg
      have Va := Lib.hid Vsa
      clear Vsa
      obtain ⟨w4, hw4⟩ : ∃ W, u.setCells (sx) 0 [.int .i64 3, .int .i64 y, .int .i64 0, .int .i64 0, .int .i64 0, .int .i64 0, .int .i64 0, .int .u32 0, .int .u32 0, .slice none 0 0, .slice none 0 0] = W := ⟨_, rfl⟩
      have thx := Lib.hid (there_blk Vx.out (k := 11) rfl)
      replace Vo := Lib.hid (stayS hw4 neo_x Vo.out)
      replace Vg := Lib.hid (stayS hw4 nex_g.symm Vg.out)
      replace Va := Lib.hid (stayS hw4 nex_a.symm Va.out)
      replace Vx := Lib.hid (setS hw4 Vx.out rfl)
      replace HB := Lib.hid (belS hw4 gex HB.out)
      refine wpAnyH_ready (rs := [15]) (by kernel_rfl) (by simp) (AllReadyH.cons (o := ⟨none, .store 29 (.tmp 6) (.tmp 33), 0, "law.go:53", #[⟨12, .data⟩, ⟨9, .data⟩, ⟨7, .chain⟩, ⟨0, .phase⟩, ⟨1, .phase⟩, ⟨2, .phase⟩, ⟨3, .phase⟩, ⟨4, .phase⟩, ⟨5, .phase⟩, ⟨6, .phase⟩, ⟨7, .phase⟩, ⟨8, .phase⟩, ⟨9, .phase⟩, ⟨10, .textOnly .lateStores⟩, ⟨11, .textOnly .lateStores⟩, ⟨12, .phase⟩, ⟨13, .phase⟩, ⟨14, .phase⟩], none⟩) rfl (fun K hK => ?_) AllReadyH.nil)
      refine op_storeS (by rfl) rfl rfl rfl thx.out (by kernel_rfl) (by simp [Value.oneCell']) hw4 ?_
      replace hS := hw4 ▸ below_setCells gsx [.int .i64 3, .int .i64 y, .int .i64 0, .int .i64 0, .int .i64 0, .int .i64 0, .int .i64 0, .int .u32 0, .int .u32 0, .slice none 0 0, .slice none 0 0] 0 _ hS
      obtain ⟨w5, hw5⟩ : ∃ W, w4.setCells (sg) 0 [.int .i64 0, .int .i64 0, .int .i64 0, .int .i64 0, .int .i64 0, .int .i64 0, .bool false, .bool false, .int .i64 0, .bool false] = W := ⟨_, rfl⟩
      have thg := Lib.hid (there_blk Vg.out (k := 10) rfl)
      replace Vo := Lib.hid (stayS hw5 neo_g Vo.out)
      replace Vx := Lib.hid (stayS hw5 nex_g Vx.out)
      replace Va := Lib.hid (stayS hw5 neg_a.symm Va.out)
      replace Vg := Lib.hid (setS hw5 Vg.out rfl)
      replace HB := Lib.hid (belS hw5 geg HB.out)
      refine Shut.out hK _ _ hS (fun _ => ?_)
      clear hK K
      try simp only [Act.put, List.setIfInBounds_toArray, List.set_cons_zero, List.set_cons_succ]
      refine wpAnyH_ready (rs := [16]) (by kernel_rfl) (by simp) (AllReadyH.cons (o := ⟨none, .store 31 (.tmp 7) (.tmp 34), 0, "law.go:53", #[⟨13, .data⟩, ⟨10, .data⟩, ⟨15, .chain⟩, ⟨0, .phase⟩, ⟨1, .phase⟩, ⟨2, .phase⟩, ⟨3, .phase⟩, ⟨4, .phase⟩, ⟨5, .phase⟩, ⟨6, .phase⟩, ⟨7, .phase⟩, ⟨8, .phase⟩, ⟨9, .phase⟩, ⟨10, .phase⟩, ⟨11, .textOnly .lateStores⟩, ⟨12, .phase⟩, ⟨13, .phase⟩, ⟨14, .phase⟩, ⟨15, .phase⟩], none⟩) rfl (fun K hK => ?_) AllReadyH.nil)
      refine op_storeS (by rfl) rfl rfl rfl thg.out (by kernel_rfl) (by simp [Value.oneCell']) hw5 ?_
      replace hS := hw5 ▸ below_setCells gsg [.int .i64 0, .int .i64 0, .int .i64 0, .int .i64 0, .int .i64 0, .int .i64 0, .bool false, .bool false, .int .i64 0, .bool false] 0 _ hS
      obtain ⟨w6, hw6⟩ : ∃ W, w5.setCells (sa) 0 [.bool true, .bool false, .bool false, .int .i64 0, .int .i64 0, .int .u64 0, .slice none 0 0] = W := ⟨_, rfl⟩
      have tha := Lib.hid (there_blk Va.out (k := 7) rfl)
      replace Vo := Lib.hid (stayS hw6 neo_a Vo.out)
      replace Vx := Lib.hid (stayS hw6 nex_a Vx.out)
      replace Vg := Lib.hid (stayS hw6 neg_a Vg.out)
      replace Va := Lib.hid (setS hw6 Va.out rfl)
      replace HB := Lib.hid (belS hw6 gea HB.out)
      refine Shut.out hK _ _ hS (fun _ => ?_)
      clear hK K
      try simp only [Act.put, List.setIfInBounds_toArray, List.set_cons_zero, List.set_cons_succ]
      refine wpAnyH_ready (rs := [17]) (by kernel_rfl) (by simp) (AllReadyH.cons (o := ⟨none, .store 38 (.tmp 8) (.tmp 35), 0, "law.go:53", #[⟨14, .data⟩, ⟨11, .data⟩, ⟨16, .chain⟩, ⟨0, .phase⟩, ⟨1, .phase⟩, ⟨2, .phase⟩, ⟨3, .phase⟩, ⟨4, .phase⟩, ⟨5, .phase⟩, ⟨6, .phase⟩, ⟨7, .phase⟩, ⟨8, .phase⟩, ⟨9, .phase⟩, ⟨10, .phase⟩, ⟨11, .phase⟩, ⟨12, .phase⟩, ⟨13, .phase⟩, ⟨14, .phase⟩, ⟨15, .phase⟩, ⟨16, .phase⟩], none⟩) rfl (fun K hK => ?_) AllReadyH.nil)
      refine op_storeS (by rfl) rfl rfl rfl tha.out (by kernel_rfl) (by simp [Value.oneCell']) hw6 ?_
      replace hS := hw6 ▸ below_setCells gsa [.bool true, .bool false, .bool false, .int .i64 0, .int .i64 0, .int .u64 0, .slice none 0 0] 0 _ hS
      refine Shut.out hK _ _ hS (fun _ => ?_)
      clear hK K
      try simp only [Act.put, List.setIfInBounds_toArray, List.set_cons_zero, List.set_cons_succ]
      refine wpAnyH_done (by kernel_rfl) ?_ _
      refine NoPanic.normal ?_
      clear hS gsx gsg gsa thx thg tha
      have hcx : w6.cell? ⟨b1_, off1 + i, none⟩ = some (.int .i8 e1_) := (HB.out.1.cell (p := ⟨b1_, off1 + i, none⟩) HB1.out).trans HC1.out
      have ca := row7 Va.out
      have cg := row10 Vg.out
      have cx := row11 Vx.out
      have co := row11 Vo.out
      obtain ⟨mw7, w7, hw7, hse, VN⟩ := set11 Vo.out (.int .i64 3) (.int .i64 y) (.int .i64 0) (.int .i64 0) (.int .i64 0) (.int .i64 0) (.int .i64 0) (.int .u32 0) (.int .u32 0) (.slice none 0 0) (.slice none 0 0)
      replace Vx := Lib.hid (stayS hse neo_x.symm Vx.out)
      replace Vg := Lib.hid (stayS hse neo_g.symm Vg.out)
      replace Va := Lib.hid (stayS hse neo_a.symm Va.out)
      replace Vo := VN
      replace HB := Lib.hid (belS hse geo HB.out)
      clear VN hse
      have KW := Lib.hid (show ∀ W : World, Calls Try.prog 10 #[.agg #[.int .i64 3, .int .i64 y, .int .i64 0, .int .i64 0, .int .i64 0, .int .i64 0, .int .i64 0, .int .u32 0, .int .u32 0, .slice none 0 0, .slice none 0 0], .agg #[.int .i64 33, .int .i64 0, .int .i64 0, .int .i64 0, .int .i64 (-1), .int .i64 0, .bool false, .bool false, .int .i64 0, .bool false]] W (fun e w' => e = .returned (.tuple #[.agg #[.int .i64 3, .int .i64 y, .int .i64 0, .int .i64 0, .int .i64 0, .int .i64 0, .int .i64 0, .int .u32 0, .int .u32 0, .slice none 0 0, .slice none 0 0], .agg #[.int .i64 0, .int .i64 0, .int .i64 0, .int .i64 0, .int .i64 0, .int .i64 0, .bool false, .bool false, .int .i64 0, .bool false], .agg #[.bool true, .bool false, .bool false, .int .i64 0, .int .i64 0, .int .u64 0, .slice none 0 0]]) ∧ Below W.heap.size W w') from fun W => by
        have h := grWait_nil 3 y 0 0 0 0 0 0 0 (⟨33, 0, 0, 0, -1, 0, false, false, 0, false⟩ : MFr) ⟨by have h3 := HV.out; have h4 := HE1.out; have h5 := HY.out; have h6 := HY0.out; have h7 := HLT.out; rw [IntKind.wrap_i64]; omega, by kernel_rfl⟩ W
        rw [show waitW y 0 (⟨33, 0, 0, 0, -1, 0, false, false, 0, false⟩ : MFr) = ((y, 0), (⟨0, 0, 0, 0, 0, 0, false, false, 0, false⟩ : MFr), (⟨true, 0, false, 0⟩ : MAct)) from (if_pos (Or.inr ⟨rfl, HZ.out⟩))] at h
        exact h)
      go_wp2
      clear hcx ca cg cx co mw7 hw7
      refine wp_region_noPanic ?_
      refine wp_region_held_drew (S := (fun wv => Below w7.heap.size w7 wv)) (by kernel_rfl) ((Below.refl w7.heap.size w7).drew) (fun hS => ?_)
      refine wpAnyH_take (i := 0) (oi := ⟨some 75, .load 29 (.tmp 3), 29, "law.go:65", #[], none⟩) (v := .agg (([.int .i64 3, .int .i64 y, .int .i64 0, .int .i64 0, .int .i64 0, .int .i64 0, .int .i64 0, .int .u32 0, .int .u32 0, .slice none 0 0, .slice none 0 0] : List Value)).toArray) rfl (by kernel_rfl) (by kernel_rfl) (by kernel_rfl) (fun _ _ _ h => h) (yieldsIf_load_mid (by rfl) _ _ (by rfl) (so) (0) (by rfl) _ _ (fun wv hS => blk_rngl (blk_below Vo.out hS (blk_lt Vo.out))) Try.underlying29 (by rfl) (by kernel_rfl)) hS ?_
      try simp only [Act.put, List.setIfInBounds_toArray, List.set_cons_zero, List.set_cons_succ]
      refine inv_region (fun a0 fu listed a u => ∃ (cq0 cq1 xq0 xq1 xq2 : Bool) (v76 v77 v74 v78 v79 v80 p9 p10 p11 : Value) (sp sq sb : Nat), listed = #[true, cq0, cq1, cq1, cq1, cq1, cq1, xq0, xq1, xq2, false, false, false] ∧ a = ⟨(((((((((a0.tmps.setIfInBounds 76 v76).setIfInBounds 77 v77).setIfInBounds 74 v74).setIfInBounds 78 v78).setIfInBounds 79 v79).setIfInBounds 80 v80).setIfInBounds 9 p9).setIfInBounds 10 p10).setIfInBounds 11 p11), a0.defers⟩ ∧ (bif cq0 then 0 else 1) + (bif cq1 then 0 else 5) + (bif xq0 then 0 else 1) + (bif xq1 then 0 else 1) + (bif xq2 then 0 else 1) + 3 ≤ fu ∧ (cq1 = true → cq0 = true) ∧ Below w7.heap.size w7 u ∧ (cq0 = true → v76 = .agg #[.int .i64 33, .int .i64 0, .int .i64 0, .int .i64 0, .int .i64 (-1), .int .i64 0, .bool false, .bool false, .int .i64 0, .bool false]) ∧ (cq1 = true → v78 = .agg #[.int .i64 3, .int .i64 y, .int .i64 0, .int .i64 0, .int .i64 0, .int .i64 0, .int .i64 0, .int .u32 0, .int .u32 0, .slice none 0 0, .slice none 0 0]) ∧ (cq1 = true → v79 = .agg #[.int .i64 0, .int .i64 0, .int .i64 0, .int .i64 0, .int .i64 0, .int .i64 0, .bool false, .bool false, .int .i64 0, .bool false]) ∧ (cq1 = true → v80 = .agg #[.bool true, .bool false, .bool false, .int .i64 0, .int .i64 0, .int .u64 0, .slice none 0 0]) ∧ (xq0 = true → p9 = .pointer (some ⟨sp, 0, none⟩) ∧ w7.heap.size ≤ sp ∧ u.heap[sp]? = some (.cells #[.int .i64 0, .int .i64 0, .int .i64 0, .int .i64 0, .int .i64 0, .int .i64 0, .int .i64 0, .int .u32 0, .int .u32 0, .slice none 0 0, .slice none 0 0] 29)) ∧ (xq1 = true → p10 = .pointer (some ⟨sq, 0, none⟩) ∧ w7.heap.size ≤ sq ∧ u.heap[sq]? = some (.cells #[.int .i64 0, .int .i64 0, .int .i64 0, .int .i64 0, .int .i64 0, .int .i64 0, .bool false, .bool false, .int .i64 0, .bool false] 31)) ∧ (xq2 = true → p11 = .pointer (some ⟨sb, 0, none⟩) ∧ w7.heap.size ≤ sb ∧ u.heap[sb]? = some (.cells #[.bool false, .bool false, .bool false, .int .i64 0, .int .i64 0, .int .u64 0, .slice none 0 0] 38))) ⟨false, false, false, false, false, u76, u77, u74, u78, u79, u80, u9, u10, u11, 0, 0, 0, rfl, (by first | (simp only [List.setIfInBounds_toArray, List.set_cons_zero, List.set_cons_succ]; done) | rfl), (by show _ + _ ≤ _; decide), (fun h => nomatch h), hS, (fun h => nomatch h), (fun h => nomatch h), (fun h => nomatch h), (fun h => nomatch h), (fun h => nomatch h), (fun h => nomatch h), (fun h => nomatch h)⟩ ?_
      clear hS; rintro fu listed a u ⟨cq0, cq1, xq0, xq1, xq2, v76, v77, v74, v78, v79, v80, p9, p10, p11, sp, sq, sb, rfl, rfl, hn, hc0, hS, h76, h78, h79, h80, ksp, ksq, ksb⟩ IH
      try simp only [List.setIfInBounds_toArray, List.set_cons_zero, List.set_cons_succ]
      by_cases hall : (cq0 && (cq1 && (xq0 && (xq1 && (xq2))))) = true
      rotate_left
      · have hbad : ((cq1 && !cq0) || ((cq0 && (cq1 && (xq0 && (xq1 && (xq2))))))) = false := inv_or (inv_imp hc0) (inv_not hall)
        obtain ⟨fu, rfl⟩ : ∃ m, fu = m + 1 := ⟨fu - 1, by omega⟩
        refine inv_step (bad := ((cq1 && !cq0) || ((cq0 && (cq1 && (xq0 && (xq1 && (xq2)))))))) (fun i => ((i == 1 && !cq0) || ((i == 2 && (cq0 && !cq1)) || ((i == 7 && !xq0) || ((i == 8 && !xq1) || ((i == 9 && !xq2))))))) ((show ∀ cq0 cq1 xq0 xq1 xq2 : Bool, (((cq1 && !cq0) || ((cq0 && (cq1 && (xq0 && (xq1 && (xq2))))))) || (!(Region.ready _ _ #[true, cq0, cq1, cq1, cq1, cq1, cq1, xq0, xq1, xq2, false, false, false]).isEmpty && (Region.ready _ _ #[true, cq0, cq1, cq1, cq1, cq1, cq1, xq0, xq1, xq2, false, false, false]).all (fun i => ((i == 1 && !cq0) || ((i == 2 && (cq0 && !cq1)) || ((i == 7 && !xq0) || ((i == 8 && !xq1) || ((i == 9 && !xq2))))))))) = true from by intro cq0 cq1 xq0 xq1 xq2; cases cq0 <;> cases cq1 <;> cases xq0 <;> cases xq1 <;> cases xq2 <;> kernel_rfl) cq0 cq1 xq0 xq1 xq2) hbad (fun i hi => ?_)
        simp only [Bool.or_eq_true, Bool.and_eq_true, beq_iff_eq, Bool.not_eq_true'] at hi
        clear hall hbad
        rcases hi with ⟨rfl, rfl⟩ | ⟨rfl, rfl, rfl⟩ | ⟨rfl, rfl⟩ | ⟨rfl, rfl⟩ | ⟨rfl, rfl⟩
        · skip
          refine inv_arm (o := ⟨some 76, .call { callee := .value (.func 14), args := #[.const (Value.int IntKind.i64 33)], argTypes := #[3] }, 31, "law.go:65", #[], none⟩) rfl (fun K hK => ?_)
          go_simp
          go_wp2_with fail
          refine (N2.out _).mono ?_; rintro e u1 ⟨rfl, hb⟩
          replace hS := hS.trans (hb.mono hS.size)
          refine Shut.out hK _ _ hS (fun _ => ?_)
          clear hK K
          try simp only [Act.put, List.setIfInBounds_toArray, List.set_cons_zero, List.set_cons_succ]
          exact IH _ _ _ _ (by omega) ⟨true, cq1, xq0, xq1, xq2, _, v77, v74, v78, v79, v80, p9, p10, p11, sp, sq, sb, rfl, (by (try simp only [List.setIfInBounds_toArray, List.set_cons_zero, List.set_cons_succ]); try rfl), (by simp only [cond_true, cond_false] at hn ⊢; omega), (fun _ => rfl), hS, (fun _ => rfl), h78, h79, h80, (fun h => ⟨(ksp h).1, (ksp h).2.1, blk_below (ksp h).2.2 hb (blk_lt (ksp h).2.2)⟩), (fun h => ⟨(ksq h).1, (ksq h).2.1, blk_below (ksq h).2.2 hb (blk_lt (ksq h).2.2)⟩), (fun h => ⟨(ksb h).1, (ksb h).2.1, blk_below (ksb h).2.2 hb (blk_lt (ksb h).2.2)⟩)⟩
        · skip
          obtain rfl := h76 rfl
          refine inv_arm (o := ⟨some 77, .call { callee := .value (.func 10), args := #[.tmp 75, .tmp 76], argTypes := #[29, 31] }, 39, "law.go:65", #[⟨0, .data⟩, ⟨1, .data⟩, ⟨1, .chain⟩], none⟩) rfl (fun K hK => ?_)
          go_simp
          go_wp2_with fail
          refine (KW.out _).mono ?_; rintro e u2 ⟨rfl, hb⟩
          replace hS := hS.trans (hb.mono hS.size)
          obtain ⟨fu, rfl⟩ : ∃ m, fu = m + 4 := ⟨fu - 4, by simp only [cond_true, cond_false] at hn; omega⟩
          refine Shut.out hK _ _ hS (fun _ => ?_)
          clear hK K
          try simp only [Act.put, List.setIfInBounds_toArray, List.set_cons_zero, List.set_cons_succ]
          refine wpAnyH_take (i := 3) (oi := ⟨some 74, .move (.tmp 77), 39, "law.go:65", #[⟨2, .data⟩], none⟩) (v := ?_) rfl (by kernel_rfl) ((show ∀ xq0 xq1 xq2 : Bool, Region.free _ _ #[true, true, true, false, false, false, false, xq0, xq1, xq2, false, false, false] 3 = true from by intro xq0 xq1 xq2; cases xq0 <;> cases xq1 <;> cases xq2 <;> kernel_rfl) xq0 xq1 xq2) ((show ∀ xq0 xq1 xq2 : Bool, (Region.ready _ _ #[true, true, true, false, false, false, false, xq0, xq1, xq2, false, false, false]).contains 3 = true from by intro xq0 xq1 xq2; cases xq0 <;> cases xq1 <;> cases xq2 <;> kernel_rfl) xq0 xq1 xq2) (fun _ _ _ h => h) (Or.inl ⟨by rfl, ?_⟩) hS ?_
          rotate_left
          · intro wv _; go_simp; try with_reducible rfl
          try simp only [Act.put, List.setIfInBounds_toArray, List.set_cons_zero, List.set_cons_succ]
          refine wpAnyH_take (i := 4) (oi := ⟨some 78, .extract (.tmp 74) 0, 29, "law.go:65", #[⟨3, .data⟩], none⟩) (v := ?_) rfl (by kernel_rfl) ((show ∀ xq0 xq1 xq2 : Bool, Region.free _ _ #[true, true, true, true, false, false, false, xq0, xq1, xq2, false, false, false] 4 = true from by intro xq0 xq1 xq2; cases xq0 <;> cases xq1 <;> cases xq2 <;> kernel_rfl) xq0 xq1 xq2) ((show ∀ xq0 xq1 xq2 : Bool, (Region.ready _ _ #[true, true, true, true, false, false, false, xq0, xq1, xq2, false, false, false]).contains 4 = true from by intro xq0 xq1 xq2; cases xq0 <;> cases xq1 <;> cases xq2 <;> kernel_rfl) xq0 xq1 xq2) (fun _ _ _ h => h) (Or.inl ⟨by rfl, ?_⟩) hS ?_
          rotate_left
          · intro wv _; go_simp; try with_reducible rfl
          try simp only [Act.put, List.setIfInBounds_toArray, List.set_cons_zero, List.set_cons_succ]
          refine wpAnyH_take (i := 5) (oi := ⟨some 79, .extract (.tmp 74) 1, 31, "law.go:65", #[⟨3, .data⟩, ⟨10, .gcOnly .lateStores⟩], none⟩) (v := ?_) rfl (by kernel_rfl) ((show ∀ xq0 xq1 xq2 : Bool, Region.free _ _ #[true, true, true, true, true, false, false, xq0, xq1, xq2, false, false, false] 5 = true from by intro xq0 xq1 xq2; cases xq0 <;> cases xq1 <;> cases xq2 <;> kernel_rfl) xq0 xq1 xq2) ((show ∀ xq0 xq1 xq2 : Bool, (Region.ready _ _ #[true, true, true, true, true, false, false, xq0, xq1, xq2, false, false, false]).contains 5 = true from by intro xq0 xq1 xq2; cases xq0 <;> cases xq1 <;> cases xq2 <;> kernel_rfl) xq0 xq1 xq2) (fun _ _ _ h => h) (Or.inl ⟨by rfl, ?_⟩) hS ?_
          rotate_left
          · intro wv _; go_simp; try with_reducible rfl
          try simp only [Act.put, List.setIfInBounds_toArray, List.set_cons_zero, List.set_cons_succ]
          refine wpAnyH_take (i := 6) (oi := ⟨some 80, .extract (.tmp 74) 2, 38, "law.go:65", #[⟨3, .data⟩, ⟨11, .gcOnly .lateStores⟩], none⟩) (v := ?_) rfl (by kernel_rfl) ((show ∀ xq0 xq1 xq2 : Bool, Region.free _ _ #[true, true, true, true, true, true, false, xq0, xq1, xq2, false, false, false] 6 = true from by intro xq0 xq1 xq2; cases xq0 <;> cases xq1 <;> cases xq2 <;> kernel_rfl) xq0 xq1 xq2) ((show ∀ xq0 xq1 xq2 : Bool, (Region.ready _ _ #[true, true, true, true, true, true, false, xq0, xq1, xq2, false, false, false]).contains 6 = true from by intro xq0 xq1 xq2; cases xq0 <;> cases xq1 <;> cases xq2 <;> kernel_rfl) xq0 xq1 xq2) (fun _ _ _ h => h) (Or.inl ⟨by rfl, ?_⟩) hS ?_
          rotate_left
          · intro wv _; go_simp; try with_reducible rfl
          try simp only [Act.put, List.setIfInBounds_toArray, List.set_cons_zero, List.set_cons_succ]
          exact IH _ _ _ _ (by omega) ⟨true, true, xq0, xq1, xq2, _, _, _, _, _, _, p9, p10, p11, sp, sq, sb, rfl, (by (try simp only [List.setIfInBounds_toArray, List.set_cons_zero, List.set_cons_succ]); try rfl), (by simp only [cond_true, cond_false] at hn ⊢; omega), (fun _ => rfl), hS, (fun _ => rfl), (fun _ => rfl), (fun _ => rfl), (fun _ => rfl), (fun h => ⟨(ksp h).1, (ksp h).2.1, blk_below (ksp h).2.2 hb (blk_lt (ksp h).2.2)⟩), (fun h => ⟨(ksq h).1, (ksq h).2.1, blk_below (ksq h).2.2 hb (blk_lt (ksq h).2.2)⟩), (fun h => ⟨(ksb h).1, (ksb h).2.1, blk_below (ksb h).2.2 hb (blk_lt (ksb h).2.2)⟩)⟩
        · skip
          refine inv_arm (o := ⟨some 9, .alloc 29, 0, "law.go:65", #[], none⟩) rfl (fun K hK => ?_)
          go_simp
          have zs := hS.size
          have hb := (Below.refl u.heap.size u).alloc (Nat.le_refl _) (.cells #[.int .i64 0, .int .i64 0, .int .i64 0, .int .i64 0, .int .i64 0, .int .i64 0, .int .i64 0, .int .u32 0, .int .u32 0, .slice none 0 0, .slice none 0 0] 29)
          replace hS := hS.trans (hb.mono hS.size)
          refine Shut.out hK _ _ hS (fun _ => ?_)
          clear hK K
          try simp only [Act.put, List.setIfInBounds_toArray, List.set_cons_zero, List.set_cons_succ]
          exact IH _ _ _ _ (by omega) ⟨cq0, cq1, true, xq1, xq2, v76, v77, v74, v78, v79, v80, _, p10, p11, u.heap.size, sq, sb, rfl, (by (try simp only [List.setIfInBounds_toArray, List.set_cons_zero, List.set_cons_succ]); try rfl), (by simp only [cond_true, cond_false] at hn ⊢; omega), hc0, hS, h76, h78, h79, h80, (fun _ => ⟨rfl, zs, heap_alloc_new _ _⟩), (fun h => ⟨(ksq h).1, (ksq h).2.1, blk_below (ksq h).2.2 hb (blk_lt (ksq h).2.2)⟩), (fun h => ⟨(ksb h).1, (ksb h).2.1, blk_below (ksb h).2.2 hb (blk_lt (ksb h).2.2)⟩)⟩
        · skip
          refine inv_arm (o := ⟨some 10, .alloc 31, 0, "law.go:65", #[], none⟩) rfl (fun K hK => ?_)
          go_simp
          have zs := hS.size
          have hb := (Below.refl u.heap.size u).alloc (Nat.le_refl _) (.cells #[.int .i64 0, .int .i64 0, .int .i64 0, .int .i64 0, .int .i64 0, .int .i64 0, .bool false, .bool false, .int .i64 0, .bool false] 31)
          replace hS := hS.trans (hb.mono hS.size)
          refine Shut.out hK _ _ hS (fun _ => ?_)
          clear hK K
          try simp only [Act.put, List.setIfInBounds_toArray, List.set_cons_zero, List.set_cons_succ]
          exact IH _ _ _ _ (by omega) ⟨cq0, cq1, xq0, true, xq2, v76, v77, v74, v78, v79, v80, p9, _, p11, sp, u.heap.size, sb, rfl, (by (try simp only [List.setIfInBounds_toArray, List.set_cons_zero, List.set_cons_succ]); try rfl), (by simp only [cond_true, cond_false] at hn ⊢; omega), hc0, hS, h76, h78, h79, h80, (fun h => ⟨(ksp h).1, (ksp h).2.1, blk_below (ksp h).2.2 hb (blk_lt (ksp h).2.2)⟩), (fun _ => ⟨rfl, zs, heap_alloc_new _ _⟩), (fun h => ⟨(ksb h).1, (ksb h).2.1, blk_below (ksb h).2.2 hb (blk_lt (ksb h).2.2)⟩)⟩
        · skip
          refine inv_arm (o := ⟨some 11, .alloc 38, 0, "law.go:65", #[], none⟩) rfl (fun K hK => ?_)
          go_simp
          have zs := hS.size
          have hb := (Below.refl u.heap.size u).alloc (Nat.le_refl _) (.cells #[.bool false, .bool false, .bool false, .int .i64 0, .int .i64 0, .int .u64 0, .slice none 0 0] 38)
          replace hS := hS.trans (hb.mono hS.size)
          refine Shut.out hK _ _ hS (fun _ => ?_)
          clear hK K
          try simp only [Act.put, List.setIfInBounds_toArray, List.set_cons_zero, List.set_cons_succ]
          exact IH _ _ _ _ (by omega) ⟨cq0, cq1, xq0, xq1, true, v76, v77, v74, v78, v79, v80, p9, p10, _, sp, sq, u.heap.size, rfl, (by (try simp only [List.setIfInBounds_toArray, List.set_cons_zero, List.set_cons_succ]); try rfl), (by simp only [cond_true, cond_false] at hn ⊢; omega), hc0, hS, h76, h78, h79, h80, (fun h => ⟨(ksp h).1, (ksp h).2.1, blk_below (ksp h).2.2 hb (blk_lt (ksp h).2.2)⟩), (fun h => ⟨(ksq h).1, (ksq h).2.1, blk_below (ksq h).2.2 hb (blk_lt (ksq h).2.2)⟩), (fun _ => ⟨rfl, zs, heap_alloc_new _ _⟩)⟩
      simp only [Bool.and_eq_true] at hall
      obtain ⟨rfl, rfl, rfl, rfl, rfl⟩ := hall
      obtain rfl := h76 rfl
      obtain rfl := h78 rfl
      obtain rfl := h79 rfl
      obtain rfl := h80 rfl
      obtain ⟨rfl, gsp, Vsp⟩ := ksp rfl
      obtain ⟨rfl, gsq, Vsq⟩ := ksq rfl
      obtain ⟨rfl, gsb, Vsb⟩ := ksb rfl
      obtain ⟨fu, rfl⟩ : ∃ m, fu = m + 3 := ⟨fu - 3, by simp only [cond_true] at hn; omega⟩
      clear IH hn hc0
      have neo_p := Nat.ne_of_lt (Nat.lt_of_lt_of_le (blk_lt Vo.out) gsp)
      have nex_p := Nat.ne_of_lt (Nat.lt_of_lt_of_le (blk_lt Vx.out) gsp)
      have neg_p := Nat.ne_of_lt (Nat.lt_of_lt_of_le (blk_lt Vg.out) gsp)
      have nea_p := Nat.ne_of_lt (Nat.lt_of_lt_of_le (blk_lt Va.out) gsp)
      have neo_q := Nat.ne_of_lt (Nat.lt_of_lt_of_le (blk_lt Vo.out) gsq)
      have nex_q := Nat.ne_of_lt (Nat.lt_of_lt_of_le (blk_lt Vx.out) gsq)
      have neg_q := Nat.ne_of_lt (Nat.lt_of_lt_of_le (blk_lt Vg.out) gsq)
      have nea_q := Nat.ne_of_lt (Nat.lt_of_lt_of_le (blk_lt Va.out) gsq)
      have neo_b := Nat.ne_of_lt (Nat.lt_of_lt_of_le (blk_lt Vo.out) gsb)
      have nex_b := Nat.ne_of_lt (Nat.lt_of_lt_of_le (blk_lt Vx.out) gsb)
      have neg_b := Nat.ne_of_lt (Nat.lt_of_lt_of_le (blk_lt Vg.out) gsb)
      have nea_b := Nat.ne_of_lt (Nat.lt_of_lt_of_le (blk_lt Va.out) gsb)
      have nep_q : sp ≠ sq := blk_ne Vsp Vsq (by decide)
      have nep_b : sp ≠ sb := blk_ne Vsp Vsb (by decide)
      have neq_b : sq ≠ sb := blk_ne Vsq Vsb (by decide)
      have gep := Nat.le_trans HB.out.2 gsp
      have geq := Nat.le_trans HB.out.2 gsq
      have geb := Nat.le_trans HB.out.2 gsb
      replace Vo := Lib.hid (blk_below Vo.out hS (blk_lt Vo.out))
      replace Vx := Lib.hid (blk_below Vx.out hS (blk_lt Vx.out))
      replace Vg := Lib.hid (blk_below Vg.out hS (blk_lt Vg.out))
      replace Va := Lib.hid (blk_below Va.out hS (blk_lt Va.out))
      replace HB := Lib.hid (And.intro (HB.out.1.trans (hS.mono HB.out.2)) (Nat.le_trans HB.out.2 hS.size))
      have Vp := Lib.hid Vsp
      clear Vsp
      have Vq := Lib.hid Vsq
      clear Vsq
      have Vb := Lib.hid Vsb
      clear Vsb
      obtain ⟨w8, hw8⟩ : ∃ W, u.setCells (sp) 0 [.int .i64 3, .int .i64 y, .int .i64 0, .int .i64 0, .int .i64 0, .int .i64 0, .int .i64 0, .int .u32 0, .int .u32 0, .slice none 0 0, .slice none 0 0] = W := ⟨_, rfl⟩
      have thp := Lib.hid (there_blk Vp.out (k := 11) rfl)
      replace Vo := Lib.hid (stayS hw8 neo_p Vo.out)
      replace Vx := Lib.hid (stayS hw8 nex_p Vx.out)
      replace Vg := Lib.hid (stayS hw8 neg_p Vg.out)
      replace Va := Lib.hid (stayS hw8 nea_p Va.out)
      replace Vq := Lib.hid (stayS hw8 nep_q.symm Vq.out)
      replace Vb := Lib.hid (stayS hw8 nep_b.symm Vb.out)
      replace Vp := Lib.hid (setS hw8 Vp.out rfl)
      replace HB := Lib.hid (belS hw8 gep HB.out)
      refine wpAnyH_ready (rs := [10]) (by kernel_rfl) (by simp) (AllReadyH.cons (o := ⟨none, .store 29 (.tmp 9) (.tmp 78), 0, "law.go:65", #[⟨7, .data⟩, ⟨4, .data⟩, ⟨2, .chain⟩, ⟨0, .phase⟩, ⟨1, .phase⟩, ⟨2, .phase⟩, ⟨3, .phase⟩, ⟨4, .phase⟩, ⟨5, .textOnly .lateStores⟩, ⟨6, .textOnly .lateStores⟩, ⟨7, .phase⟩, ⟨8, .phase⟩, ⟨9, .phase⟩], none⟩) rfl (fun K hK => ?_) AllReadyH.nil)
      refine op_storeS (by rfl) rfl rfl rfl thp.out (by kernel_rfl) (by simp [Value.oneCell']) hw8 ?_
      replace hS := hw8 ▸ below_setCells gsp [.int .i64 3, .int .i64 y, .int .i64 0, .int .i64 0, .int .i64 0, .int .i64 0, .int .i64 0, .int .u32 0, .int .u32 0, .slice none 0 0, .slice none 0 0] 0 _ hS
      obtain ⟨w9, hw9⟩ : ∃ W, w8.setCells (sq) 0 [.int .i64 0, .int .i64 0, .int .i64 0, .int .i64 0, .int .i64 0, .int .i64 0, .bool false, .bool false, .int .i64 0, .bool false] = W := ⟨_, rfl⟩
      have thq := Lib.hid (there_blk Vq.out (k := 10) rfl)
      replace Vo := Lib.hid (stayS hw9 neo_q Vo.out)
      replace Vx := Lib.hid (stayS hw9 nex_q Vx.out)
      replace Vg := Lib.hid (stayS hw9 neg_q Vg.out)
      replace Va := Lib.hid (stayS hw9 nea_q Va.out)
      replace Vp := Lib.hid (stayS hw9 nep_q Vp.out)
      replace Vb := Lib.hid (stayS hw9 neq_b.symm Vb.out)
      replace Vq := Lib.hid (setS hw9 Vq.out rfl)
      replace HB := Lib.hid (belS hw9 geq HB.out)
      refine Shut.out hK _ _ hS (fun _ => ?_)
      clear hK K
      try simp only [Act.put, List.setIfInBounds_toArray, List.set_cons_zero, List.set_cons_succ]
      refine wpAnyH_ready (rs := [11]) (by kernel_rfl) (by simp) (AllReadyH.cons (o := ⟨none, .store 31 (.tmp 10) (.tmp 79), 0, "law.go:65", #[⟨8, .data⟩, ⟨5, .data⟩, ⟨10, .chain⟩, ⟨0, .phase⟩, ⟨1, .phase⟩, ⟨2, .phase⟩, ⟨3, .phase⟩, ⟨4, .phase⟩, ⟨5, .phase⟩, ⟨6, .textOnly .lateStores⟩, ⟨7, .phase⟩, ⟨8, .phase⟩, ⟨9, .phase⟩, ⟨10, .phase⟩], none⟩) rfl (fun K hK => ?_) AllReadyH.nil)
      refine op_storeS (by rfl) rfl rfl rfl thq.out (by kernel_rfl) (by simp [Value.oneCell']) hw9 ?_
      replace hS := hw9 ▸ below_setCells gsq [.int .i64 0, .int .i64 0, .int .i64 0, .int .i64 0, .int .i64 0, .int .i64 0, .bool false, .bool false, .int .i64 0, .bool false] 0 _ hS
      obtain ⟨w10, hw10⟩ : ∃ W, w9.setCells (sb) 0 [.bool true, .bool false, .bool false, .int .i64 0, .int .i64 0, .int .u64 0, .slice none 0 0] = W := ⟨_, rfl⟩
      have thb := Lib.hid (there_blk Vb.out (k := 7) rfl)
      replace Vo := Lib.hid (stayS hw10 neo_b Vo.out)
      replace Vx := Lib.hid (stayS hw10 nex_b Vx.out)
      replace Vg := Lib.hid (stayS hw10 neg_b Vg.out)
      replace Va := Lib.hid (stayS hw10 nea_b Va.out)
      replace Vp := Lib.hid (stayS hw10 nep_b Vp.out)
      replace Vq := Lib.hid (stayS hw10 neq_b Vq.out)
      replace Vb := Lib.hid (setS hw10 Vb.out rfl)
      replace HB := Lib.hid (belS hw10 geb HB.out)
      refine Shut.out hK _ _ hS (fun _ => ?_)
      clear hK K
      try simp only [Act.put, List.setIfInBounds_toArray, List.set_cons_zero, List.set_cons_succ]
      refine wpAnyH_ready (rs := [12]) (by kernel_rfl) (by simp) (AllReadyH.cons (o := ⟨none, .store 38 (.tmp 11) (.tmp 80), 0, "law.go:65", #[⟨9, .data⟩, ⟨6, .data⟩, ⟨11, .chain⟩, ⟨0, .phase⟩, ⟨1, .phase⟩, ⟨2, .phase⟩, ⟨3, .phase⟩, ⟨4, .phase⟩, ⟨5, .phase⟩, ⟨6, .phase⟩, ⟨7, .phase⟩, ⟨8, .phase⟩, ⟨9, .phase⟩, ⟨10, .phase⟩, ⟨11, .phase⟩], none⟩) rfl (fun K hK => ?_) AllReadyH.nil)
      refine op_storeS (by rfl) rfl rfl rfl thb.out (by kernel_rfl) (by simp [Value.oneCell']) hw10 ?_
      replace hS := hw10 ▸ below_setCells gsb [.bool true, .bool false, .bool false, .int .i64 0, .int .i64 0, .int .u64 0, .slice none 0 0] 0 _ hS
      refine Shut.out hK _ _ hS (fun _ => ?_)
      clear hK K
      try simp only [Act.put, List.setIfInBounds_toArray, List.set_cons_zero, List.set_cons_succ]
      refine wpAnyH_done (by kernel_rfl) ?_ _
      refine NoPanic.normal ?_
      clear hS gsp gsq gsb thp thq thb
      have cb := row7 Vb.out
      go_wp2
      go_roundw
      case rel =>
        have q1 := HLT.out; have q2 := HE1.out; have q3 := HV.out; have q4 := HY.out; have q5 := HY0.out
        exact ⟨i + 1, y, rfl, by go_num, by omega, Lib.hid ⟨by omega, by omega⟩, HB, Vo⟩
      case measure =>
        have := HLT.out
        simp [intOf]; omega
    · have z0 : (y == 0) = false := by simp [hz]
      have HZ := Lib.hid hz
      clear hz
      have KC := Lib.hid (show ∀ W : World, Calls Try.prog 8 #[.agg #[.int .i64 3, .int .i64 v, .int .i64 0, .int .i64 0, .int .i64 0, .int .i64 0, .int .i64 0, .int .u32 0, .int .u32 0, .slice none 0 0, .slice none 0 0], .agg #[.int .i64 32, .int .i64 0, .int .i64 0, .int .i64 0, .int .i64 (-1), .int .i64 0, .bool false, .bool false, .int .i64 0, .bool false], .int .i64 e1_] W (fun e w' => e = .returned (.tuple #[.agg #[.int .i64 3, .int .i64 y, .int .i64 0, .int .i64 0, .int .i64 0, .int .i64 0, .int .i64 0, .int .u32 0, .int .u32 0, .slice none 0 0, .slice none 0 0], .agg #[.int .i64 0, .int .i64 0, .int .i64 0, .int .i64 0, .int .i64 0, .int .i64 0, .bool false, .bool false, .int .i64 0, .bool false], .agg #[.bool true, .bool false, .bool false, .int .i64 0, .int .i64 0, .int .u64 0, .slice none 0 0]]) ∧ Below W.heap.size W w') from fun W => by
        have h := grCount_nil 3 v 0 0 0 0 0 0 0 (⟨32, 0, 0, 0, -1, 0, false, false, 0, false⟩ : MFr) e1_ ⟨HWV.out, by kernel_rfl⟩ W
        rw [show countW v 0 (⟨32, 0, 0, 0, -1, 0, false, false, 0, false⟩ : MFr) e1_ = ((y, 0), (⟨0, 0, 0, 0, 0, 0, false, false, 0, false⟩ : MFr), (⟨true, 0, false, 0⟩ : MAct)) from (by
          have h1 := HYE.out; have h2 := HY0.out; have h3 := HV.out; have h4 := HE1.out; have h5 := HY.out; have h6 := HLT.out
          unfold countW
          rw [if_pos rfl, h1, if_neg (by omega), if_pos (Or.inr rfl)]
          rfl)] at h
        exact h)
      go_wp2
      refine wp_region_noPanic ?_
      refine wp_region_held_drew (S := (fun wv => Below wr.heap.size wr wv)) (by kernel_rfl) ((Below.refl wr.heap.size wr).drew) (fun hS => ?_)
      refine wpAnyH_take (i := 0) (oi := ⟨some 25, .load 29 (.tmp 3), 29, "law.go:53", #[], none⟩) (v := .agg (([.int .i64 3, .int .i64 v, .int .i64 0, .int .i64 0, .int .i64 0, .int .i64 0, .int .i64 0, .int .u32 0, .int .u32 0, .slice none 0 0, .slice none 0 0] : List Value)).toArray) rfl (by kernel_rfl) (by kernel_rfl) (by kernel_rfl) (fun _ _ _ h => h) (yieldsIf_load_mid (by rfl) _ _ (by rfl) (so) (0) (by rfl) _ _ (fun wv hS => blk_rngl (blk_below Vo.out hS (blk_lt Vo.out))) Try.underlying29 (by rfl) (by kernel_rfl)) hS ?_
      try simp only [Act.put, List.setIfInBounds_toArray, List.set_cons_zero, List.set_cons_succ]
      refine wpAnyH_take (i := 2) (oi := ⟨some 27, .move (.tmp 0), 45, "law.go:53", #[], none⟩) (v := ?_) rfl (by kernel_rfl) (by kernel_rfl) (by kernel_rfl) (fun _ _ _ h => h) (Or.inl ⟨by rfl, ?_⟩) hS ?_
      rotate_left
      · intro wv _; go_simp; try with_reducible rfl
      try simp only [Act.put, List.setIfInBounds_toArray, List.set_cons_zero, List.set_cons_succ]
      refine wpAnyH_take (i := 3) (oi := ⟨some 28, .move (.tmp 5), 3, "law.go:53", #[], none⟩) (v := ?_) rfl (by kernel_rfl) (by kernel_rfl) (by kernel_rfl) (fun _ _ _ h => h) (Or.inl ⟨by rfl, ?_⟩) hS ?_
      rotate_left
      · intro wv _; go_simp; try with_reducible rfl
      try simp only [Act.put, List.setIfInBounds_toArray, List.set_cons_zero, List.set_cons_succ]
      refine wpAnyH_take (i := 4) (oi := ⟨some 29, .indexAddr 45 (.tmp 27) (.tmp 28), 0, "law.go:53", #[⟨2, .data⟩, ⟨3, .data⟩], none⟩) (v := ?_) rfl (by kernel_rfl) (by kernel_rfl) (by kernel_rfl) (fun _ _ _ h => h) (Or.inl ⟨by rfl, ?_⟩) hS ?_
      rotate_left
      · intro wv _; go_simp; try with_reducible rfl
      try simp only [Act.put, List.setIfInBounds_toArray, List.set_cons_zero, List.set_cons_succ]
      refine wpAnyH_take (i := 5) (oi := ⟨some 30, .load 47 (.tmp 29), 47, "law.go:53", #[⟨4, .data⟩], none⟩) (v := ?_) rfl (by kernel_rfl) (by kernel_rfl) (by kernel_rfl) (fun _ _ _ h => h) (Or.inl ⟨by rfl, ?_⟩) hS ?_
      rotate_left
      · intro wv hS; have hrun := ((hS.cell (p := ⟨b1_, off1 + i, none⟩) (Nat.lt_of_lt_of_le HB1.out HB.out.2)).trans ((HB.out.1.cell (p := ⟨b1_, off1 + i, none⟩) HB1.out).trans HC1.out)); go_simp; try with_reducible rfl
      try simp only [Act.put, List.setIfInBounds_toArray, List.set_cons_zero, List.set_cons_succ]
      refine wpAnyH_take (i := 6) (oi := ⟨some 31, .convert 47 2 (.tmp 30), 2, "law.go:53", #[⟨5, .data⟩], none⟩) (v := ?_) rfl (by kernel_rfl) (by kernel_rfl) (by kernel_rfl) (fun _ _ _ h => h) (Or.inl ⟨by rfl, ?_⟩) hS ?_
      rotate_left
      · intro wv _; go_simp; try with_reducible rfl
      try simp only [Act.put, List.setIfInBounds_toArray, List.set_cons_zero, List.set_cons_succ]
      refine inv_region (fun a0 fu listed a u => ∃ (cq0 cq1 xq0 xq1 xq2 : Bool) (v26 v32 v24 v33 v34 v35 p6 p7 p8 : Value) (sx sg sa : Nat), listed = #[true, cq0, true, true, true, true, true, cq1, cq1, cq1, cq1, cq1, xq0, xq1, xq2, false, false, false] ∧ a = ⟨(((((((((a0.tmps.setIfInBounds 26 v26).setIfInBounds 32 v32).setIfInBounds 24 v24).setIfInBounds 33 v33).setIfInBounds 34 v34).setIfInBounds 35 v35).setIfInBounds 6 p6).setIfInBounds 7 p7).setIfInBounds 8 p8), a0.defers⟩ ∧ (bif cq0 then 0 else 1) + (bif cq1 then 0 else 5) + (bif xq0 then 0 else 1) + (bif xq1 then 0 else 1) + (bif xq2 then 0 else 1) + 3 ≤ fu ∧ (cq1 = true → cq0 = true) ∧ Below wr.heap.size wr u ∧ (cq0 = true → v26 = .agg #[.int .i64 32, .int .i64 0, .int .i64 0, .int .i64 0, .int .i64 (-1), .int .i64 0, .bool false, .bool false, .int .i64 0, .bool false]) ∧ (cq1 = true → v33 = .agg #[.int .i64 3, .int .i64 y, .int .i64 0, .int .i64 0, .int .i64 0, .int .i64 0, .int .i64 0, .int .u32 0, .int .u32 0, .slice none 0 0, .slice none 0 0]) ∧ (cq1 = true → v34 = .agg #[.int .i64 0, .int .i64 0, .int .i64 0, .int .i64 0, .int .i64 0, .int .i64 0, .bool false, .bool false, .int .i64 0, .bool false]) ∧ (cq1 = true → v35 = .agg #[.bool true, .bool false, .bool false, .int .i64 0, .int .i64 0, .int .u64 0, .slice none 0 0]) ∧ (xq0 = true → p6 = .pointer (some ⟨sx, 0, none⟩) ∧ wr.heap.size ≤ sx ∧ u.heap[sx]? = some (.cells #[.int .i64 0, .int .i64 0, .int .i64 0, .int .i64 0, .int .i64 0, .int .i64 0, .int .i64 0, .int .u32 0, .int .u32 0, .slice none 0 0, .slice none 0 0] 29)) ∧ (xq1 = true → p7 = .pointer (some ⟨sg, 0, none⟩) ∧ wr.heap.size ≤ sg ∧ u.heap[sg]? = some (.cells #[.int .i64 0, .int .i64 0, .int .i64 0, .int .i64 0, .int .i64 0, .int .i64 0, .bool false, .bool false, .int .i64 0, .bool false] 31)) ∧ (xq2 = true → p8 = .pointer (some ⟨sa, 0, none⟩) ∧ wr.heap.size ≤ sa ∧ u.heap[sa]? = some (.cells #[.bool false, .bool false, .bool false, .int .i64 0, .int .i64 0, .int .u64 0, .slice none 0 0] 38))) ⟨false, false, false, false, false, u26, u32, u24, u33, u34, u35, u6, u7, u8, 0, 0, 0, rfl, (by first | (simp only [List.setIfInBounds_toArray, List.set_cons_zero, List.set_cons_succ]; done) | rfl), (by show _ + _ ≤ _; decide), (fun h => nomatch h), hS, (fun h => nomatch h), (fun h => nomatch h), (fun h => nomatch h), (fun h => nomatch h), (fun h => nomatch h), (fun h => nomatch h), (fun h => nomatch h)⟩ ?_
      clear hS; rintro fu listed a u ⟨cq0, cq1, xq0, xq1, xq2, v26, v32, v24, v33, v34, v35, p6, p7, p8, sx, sg, sa, rfl, rfl, hn, hc0, hS, h26, h33, h34, h35, ksx, ksg, ksa⟩ IH
      try simp only [List.setIfInBounds_toArray, List.set_cons_zero, List.set_cons_succ]
      by_cases hall : (cq0 && (cq1 && (xq0 && (xq1 && (xq2))))) = true
      rotate_left
      · have hbad : ((cq1 && !cq0) || ((cq0 && (cq1 && (xq0 && (xq1 && (xq2))))))) = false := inv_or (inv_imp hc0) (inv_not hall)
        obtain ⟨fu, rfl⟩ : ∃ m, fu = m + 1 := ⟨fu - 1, by omega⟩
        refine inv_step (bad := ((cq1 && !cq0) || ((cq0 && (cq1 && (xq0 && (xq1 && (xq2)))))))) (fun i => ((i == 1 && !cq0) || ((i == 7 && (cq0 && !cq1)) || ((i == 12 && !xq0) || ((i == 13 && !xq1) || ((i == 14 && !xq2))))))) ((show ∀ cq0 cq1 xq0 xq1 xq2 : Bool, (((cq1 && !cq0) || ((cq0 && (cq1 && (xq0 && (xq1 && (xq2))))))) || (!(Region.ready _ _ #[true, cq0, true, true, true, true, true, cq1, cq1, cq1, cq1, cq1, xq0, xq1, xq2, false, false, false]).isEmpty && (Region.ready _ _ #[true, cq0, true, true, true, true, true, cq1, cq1, cq1, cq1, cq1, xq0, xq1, xq2, false, false, false]).all (fun i => ((i == 1 && !cq0) || ((i == 7 && (cq0 && !cq1)) || ((i == 12 && !xq0) || ((i == 13 && !xq1) || ((i == 14 && !xq2))))))))) = true from by intro cq0 cq1 xq0 xq1 xq2; cases cq0 <;> cases cq1 <;> cases xq0 <;> cases xq1 <;> cases xq2 <;> kernel_rfl) cq0 cq1 xq0 xq1 xq2) hbad (fun i hi => ?_)
        simp only [Bool.or_eq_true, Bool.and_eq_true, beq_iff_eq, Bool.not_eq_true'] at hi
        clear hall hbad
        rcases hi with ⟨rfl, rfl⟩ | ⟨rfl, rfl, rfl⟩ | ⟨rfl, rfl⟩ | ⟨rfl, rfl⟩ | ⟨rfl, rfl⟩
        · skip
          refine inv_arm (o := ⟨some 26, .call { callee := .value (.func 14), args := #[.const (Value.int IntKind.i64 32)], argTypes := #[3] }, 31, "law.go:53", #[], none⟩) rfl (fun K hK => ?_)
          go_simp
          go_wp2_with fail
          refine (N1.out _).mono ?_; rintro e u1 ⟨rfl, hb⟩
          replace hS := hS.trans (hb.mono hS.size)
          refine Shut.out hK _ _ hS (fun _ => ?_)
          clear hK K
          try simp only [Act.put, List.setIfInBounds_toArray, List.set_cons_zero, List.set_cons_succ]
          exact IH _ _ _ _ (by omega) ⟨true, cq1, xq0, xq1, xq2, _, v32, v24, v33, v34, v35, p6, p7, p8, sx, sg, sa, rfl, (by (try simp only [List.setIfInBounds_toArray, List.set_cons_zero, List.set_cons_succ]); try rfl), (by simp only [cond_true, cond_false] at hn ⊢; omega), (fun _ => rfl), hS, (fun _ => rfl), h33, h34, h35, (fun h => ⟨(ksx h).1, (ksx h).2.1, blk_below (ksx h).2.2 hb (blk_lt (ksx h).2.2)⟩), (fun h => ⟨(ksg h).1, (ksg h).2.1, blk_below (ksg h).2.2 hb (blk_lt (ksg h).2.2)⟩), (fun h => ⟨(ksa h).1, (ksa h).2.1, blk_below (ksa h).2.2 hb (blk_lt (ksa h).2.2)⟩)⟩
        · skip
          obtain rfl := h26 rfl
          refine inv_arm (o := ⟨some 32, .call { callee := .value (.func 8), args := #[.tmp 25, .tmp 26, .tmp 31], argTypes := #[29, 31, 2] }, 39, "law.go:53", #[⟨0, .data⟩, ⟨1, .data⟩, ⟨6, .data⟩, ⟨1, .chain⟩], none⟩) rfl (fun K hK => ?_)
          go_simp
          go_wp2_with fail
          refine (KC.out _).mono ?_; rintro e u7 ⟨rfl, hb⟩
          replace hS := hS.trans (hb.mono hS.size)
          obtain ⟨fu, rfl⟩ : ∃ m, fu = m + 4 := ⟨fu - 4, by simp only [cond_true, cond_false] at hn; omega⟩
          refine Shut.out hK _ _ hS (fun _ => ?_)
          clear hK K
          try simp only [Act.put, List.setIfInBounds_toArray, List.set_cons_zero, List.set_cons_succ]
          refine wpAnyH_take (i := 8) (oi := ⟨some 24, .move (.tmp 32), 39, "law.go:53", #[⟨7, .data⟩], none⟩) (v := ?_) rfl (by kernel_rfl) ((show ∀ xq0 xq1 xq2 : Bool, Region.free _ _ #[true, true, true, true, true, true, true, true, false, false, false, false, xq0, xq1, xq2, false, false, false] 8 = true from by intro xq0 xq1 xq2; cases xq0 <;> cases xq1 <;> cases xq2 <;> kernel_rfl) xq0 xq1 xq2) ((show ∀ xq0 xq1 xq2 : Bool, (Region.ready _ _ #[true, true, true, true, true, true, true, true, false, false, false, false, xq0, xq1, xq2, false, false, false]).contains 8 = true from by intro xq0 xq1 xq2; cases xq0 <;> cases xq1 <;> cases xq2 <;> kernel_rfl) xq0 xq1 xq2) (fun _ _ _ h => h) (Or.inl ⟨by rfl, ?_⟩) hS ?_
          rotate_left
          · intro wv _; go_simp; try with_reducible rfl
          try simp only [Act.put, List.setIfInBounds_toArray, List.set_cons_zero, List.set_cons_succ]
          refine wpAnyH_take (i := 9) (oi := ⟨some 33, .extract (.tmp 24) 0, 29, "law.go:53", #[⟨8, .data⟩], none⟩) (v := ?_) rfl (by kernel_rfl) ((show ∀ xq0 xq1 xq2 : Bool, Region.free _ _ #[true, true, true, true, true, true, true, true, true, false, false, false, xq0, xq1, xq2, false, false, false] 9 = true from by intro xq0 xq1 xq2; cases xq0 <;> cases xq1 <;> cases xq2 <;> kernel_rfl) xq0 xq1 xq2) ((show ∀ xq0 xq1 xq2 : Bool, (Region.ready _ _ #[true, true, true, true, true, true, true, true, true, false, false, false, xq0, xq1, xq2, false, false, false]).contains 9 = true from by intro xq0 xq1 xq2; cases xq0 <;> cases xq1 <;> cases xq2 <;> kernel_rfl) xq0 xq1 xq2) (fun _ _ _ h => h) (Or.inl ⟨by rfl, ?_⟩) hS ?_
          rotate_left
          · intro wv _; go_simp; try with_reducible rfl
          try simp only [Act.put, List.setIfInBounds_toArray, List.set_cons_zero, List.set_cons_succ]
          refine wpAnyH_take (i := 10) (oi := ⟨some 34, .extract (.tmp 24) 1, 31, "law.go:53", #[⟨8, .data⟩, ⟨15, .gcOnly .lateStores⟩], none⟩) (v := ?_) rfl (by kernel_rfl) ((show ∀ xq0 xq1 xq2 : Bool, Region.free _ _ #[true, true, true, true, true, true, true, true, true, true, false, false, xq0, xq1, xq2, false, false, false] 10 = true from by intro xq0 xq1 xq2; cases xq0 <;> cases xq1 <;> cases xq2 <;> kernel_rfl) xq0 xq1 xq2) ((show ∀ xq0 xq1 xq2 : Bool, (Region.ready _ _ #[true, true, true, true, true, true, true, true, true, true, false, false, xq0, xq1, xq2, false, false, false]).contains 10 = true from by intro xq0 xq1 xq2; cases xq0 <;> cases xq1 <;> cases xq2 <;> kernel_rfl) xq0 xq1 xq2) (fun _ _ _ h => h) (Or.inl ⟨by rfl, ?_⟩) hS ?_
          rotate_left
          · intro wv _; go_simp; try with_reducible rfl
          try simp only [Act.put, List.setIfInBounds_toArray, List.set_cons_zero, List.set_cons_succ]
          refine wpAnyH_take (i := 11) (oi := ⟨some 35, .extract (.tmp 24) 2, 38, "law.go:53", #[⟨8, .data⟩, ⟨16, .gcOnly .lateStores⟩], none⟩) (v := ?_) rfl (by kernel_rfl) ((show ∀ xq0 xq1 xq2 : Bool, Region.free _ _ #[true, true, true, true, true, true, true, true, true, true, true, false, xq0, xq1, xq2, false, false, false] 11 = true from by intro xq0 xq1 xq2; cases xq0 <;> cases xq1 <;> cases xq2 <;> kernel_rfl) xq0 xq1 xq2) ((show ∀ xq0 xq1 xq2 : Bool, (Region.ready _ _ #[true, true, true, true, true, true, true, true, true, true, true, false, xq0, xq1, xq2, false, false, false]).contains 11 = true from by intro xq0 xq1 xq2; cases xq0 <;> cases xq1 <;> cases xq2 <;> kernel_rfl) xq0 xq1 xq2) (fun _ _ _ h => h) (Or.inl ⟨by rfl, ?_⟩) hS ?_
          rotate_left
          · intro wv _; go_simp; try with_reducible rfl
          try simp only [Act.put, List.setIfInBounds_toArray, List.set_cons_zero, List.set_cons_succ]
          exact IH _ _ _ _ (by omega) ⟨true, true, xq0, xq1, xq2, _, _, _, _, _, _, p6, p7, p8, sx, sg, sa, rfl, (by (try simp only [List.setIfInBounds_toArray, List.set_cons_zero, List.set_cons_succ]); try rfl), (by simp only [cond_true, cond_false] at hn ⊢; omega), (fun _ => rfl), hS, (fun _ => rfl), (fun _ => rfl), (fun _ => rfl), (fun _ => rfl), (fun h => ⟨(ksx h).1, (ksx h).2.1, blk_below (ksx h).2.2 hb (blk_lt (ksx h).2.2)⟩), (fun h => ⟨(ksg h).1, (ksg h).2.1, blk_below (ksg h).2.2 hb (blk_lt (ksg h).2.2)⟩), (fun h => ⟨(ksa h).1, (ksa h).2.1, blk_below (ksa h).2.2 hb (blk_lt (ksa h).2.2)⟩)⟩
        · skip
          refine inv_arm (o := ⟨some 6, .alloc 29, 0, "law.go:53", #[], none⟩) rfl (fun K hK => ?_)
          go_simp
          have zs := hS.size
          have hb := (Below.refl u.heap.size u).alloc (Nat.le_refl _) (.cells #[.int .i64 0, .int .i64 0, .int .i64 0, .int .i64 0, .int .i64 0, .int .i64 0, .int .i64 0, .int .u32 0, .int .u32 0, .slice none 0 0, .slice none 0 0] 29)
          replace hS := hS.trans (hb.mono hS.size)
          refine Shut.out hK _ _ hS (fun _ => ?_)
          clear hK K
          try simp only [Act.put, List.setIfInBounds_toArray, List.set_cons_zero, List.set_cons_succ]
          exact IH _ _ _ _ (by omega) ⟨cq0, cq1, true, xq1, xq2, v26, v32, v24, v33, v34, v35, _, p7, p8, u.heap.size, sg, sa, rfl, (by (try simp only [List.setIfInBounds_toArray, List.set_cons_zero, List.set_cons_succ]); try rfl), (by simp only [cond_true, cond_false] at hn ⊢; omega), hc0, hS, h26, h33, h34, h35, (fun _ => ⟨rfl, zs, heap_alloc_new _ _⟩), (fun h => ⟨(ksg h).1, (ksg h).2.1, blk_below (ksg h).2.2 hb (blk_lt (ksg h).2.2)⟩), (fun h => ⟨(ksa h).1, (ksa h).2.1, blk_below (ksa h).2.2 hb (blk_lt (ksa h).2.2)⟩)⟩
        · skip
          refine inv_arm (o := ⟨some 7, .alloc 31, 0, "law.go:53", #[], none⟩) rfl (fun K hK => ?_)
          go_simp
          have zs := hS.size
          have hb := (Below.refl u.heap.size u).alloc (Nat.le_refl _) (.cells #[.int .i64 0, .int .i64 0, .int .i64 0, .int .i64 0, .int .i64 0, .int .i64 0, .bool false, .bool false, .int .i64 0, .bool false] 31)
          replace hS := hS.trans (hb.mono hS.size)
          refine Shut.out hK _ _ hS (fun _ => ?_)
          clear hK K
          try simp only [Act.put, List.setIfInBounds_toArray, List.set_cons_zero, List.set_cons_succ]
          exact IH _ _ _ _ (by omega) ⟨cq0, cq1, xq0, true, xq2, v26, v32, v24, v33, v34, v35, p6, _, p8, sx, u.heap.size, sa, rfl, (by (try simp only [List.setIfInBounds_toArray, List.set_cons_zero, List.set_cons_succ]); try rfl), (by simp only [cond_true, cond_false] at hn ⊢; omega), hc0, hS, h26, h33, h34, h35, (fun h => ⟨(ksx h).1, (ksx h).2.1, blk_below (ksx h).2.2 hb (blk_lt (ksx h).2.2)⟩), (fun _ => ⟨rfl, zs, heap_alloc_new _ _⟩), (fun h => ⟨(ksa h).1, (ksa h).2.1, blk_below (ksa h).2.2 hb (blk_lt (ksa h).2.2)⟩)⟩
        · skip
          refine inv_arm (o := ⟨some 8, .alloc 38, 0, "law.go:53", #[], none⟩) rfl (fun K hK => ?_)
          go_simp
          have zs := hS.size
          have hb := (Below.refl u.heap.size u).alloc (Nat.le_refl _) (.cells #[.bool false, .bool false, .bool false, .int .i64 0, .int .i64 0, .int .u64 0, .slice none 0 0] 38)
          replace hS := hS.trans (hb.mono hS.size)
          refine Shut.out hK _ _ hS (fun _ => ?_)
          clear hK K
          try simp only [Act.put, List.setIfInBounds_toArray, List.set_cons_zero, List.set_cons_succ]
          exact IH _ _ _ _ (by omega) ⟨cq0, cq1, xq0, xq1, true, v26, v32, v24, v33, v34, v35, p6, p7, _, sx, sg, u.heap.size, rfl, (by (try simp only [List.setIfInBounds_toArray, List.set_cons_zero, List.set_cons_succ]); try rfl), (by simp only [cond_true, cond_false] at hn ⊢; omega), hc0, hS, h26, h33, h34, h35, (fun h => ⟨(ksx h).1, (ksx h).2.1, blk_below (ksx h).2.2 hb (blk_lt (ksx h).2.2)⟩), (fun h => ⟨(ksg h).1, (ksg h).2.1, blk_below (ksg h).2.2 hb (blk_lt (ksg h).2.2)⟩), (fun _ => ⟨rfl, zs, heap_alloc_new _ _⟩)⟩
      simp only [Bool.and_eq_true] at hall
      obtain ⟨rfl, rfl, rfl, rfl, rfl⟩ := hall
      obtain rfl := h26 rfl
      obtain rfl := h33 rfl
      obtain rfl := h34 rfl
      obtain rfl := h35 rfl
      obtain ⟨rfl, gsx, Vsx⟩ := ksx rfl
      obtain ⟨rfl, gsg, Vsg⟩ := ksg rfl
      obtain ⟨rfl, gsa, Vsa⟩ := ksa rfl
      obtain ⟨fu, rfl⟩ : ∃ m, fu = m + 3 := ⟨fu - 3, by simp only [cond_true] at hn; omega⟩
      clear IH hn hc0
      have neo_x := Nat.ne_of_lt (Nat.lt_of_lt_of_le (blk_lt Vo.out) gsx)
      have neo_g := Nat.ne_of_lt (Nat.lt_of_lt_of_le (blk_lt Vo.out) gsg)
      have neo_a := Nat.ne_of_lt (Nat.lt_of_lt_of_le (blk_lt Vo.out) gsa)
      have nex_g : sx ≠ sg := blk_ne Vsx Vsg (by decide)
      have nex_a : sx ≠ sa := blk_ne Vsx Vsa (by decide)
      have neg_a : sg ≠ sa := blk_ne Vsg Vsa (by decide)
      have gex := Nat.le_trans HB.out.2 gsx
      have geg := Nat.le_trans HB.out.2 gsg
      have gea := Nat.le_trans HB.out.2 gsa
      replace Vo := Lib.hid (blk_below Vo.out hS (blk_lt Vo.out))
      replace HB := Lib.hid (And.intro (HB.out.1.trans (hS.mono HB.out.2)) (Nat.le_trans HB.out.2 hS.size))
      have Vx := Lib.hid Vsx
      clear Vsx
      have Vg := Lib.hid Vsg
      clear Vsg
      have Va := Lib.hid Vsa
      clear Vsa
      obtain ⟨w4, hw4⟩ : ∃ W, u.setCells (sx) 0 [.int .i64 3, .int .i64 y, .int .i64 0, .int .i64 0, .int .i64 0, .int .i64 0, .int .i64 0, .int .u32 0, .int .u32 0, .slice none 0 0, .slice none 0 0] = W := ⟨_, rfl⟩
      have thx := Lib.hid (there_blk Vx.out (k := 11) rfl)
      replace Vo := Lib.hid (stayS hw4 neo_x Vo.out)
      replace Vg := Lib.hid (stayS hw4 nex_g.symm Vg.out)
      replace Va := Lib.hid (stayS hw4 nex_a.symm Va.out)
      replace Vx := Lib.hid (setS hw4 Vx.out rfl)
      replace HB := Lib.hid (belS hw4 gex HB.out)
      refine wpAnyH_ready (rs := [15]) (by kernel_rfl) (by simp) (AllReadyH.cons (o := ⟨none, .store 29 (.tmp 6) (.tmp 33), 0, "law.go:53", #[⟨12, .data⟩, ⟨9, .data⟩, ⟨7, .chain⟩, ⟨0, .phase⟩, ⟨1, .phase⟩, ⟨2, .phase⟩, ⟨3, .phase⟩, ⟨4, .phase⟩, ⟨5, .phase⟩, ⟨6, .phase⟩, ⟨7, .phase⟩, ⟨8, .phase⟩, ⟨9, .phase⟩, ⟨10, .textOnly .lateStores⟩, ⟨11, .textOnly .lateStores⟩, ⟨12, .phase⟩, ⟨13, .phase⟩, ⟨14, .phase⟩], none⟩) rfl (fun K hK => ?_) AllReadyH.nil)
      refine op_storeS (by rfl) rfl rfl rfl thx.out (by kernel_rfl) (by simp [Value.oneCell']) hw4 ?_
      replace hS := hw4 ▸ below_setCells gsx [.int .i64 3, .int .i64 y, .int .i64 0, .int .i64 0, .int .i64 0, .int .i64 0, .int .i64 0, .int .u32 0, .int .u32 0, .slice none 0 0, .slice none 0 0] 0 _ hS
      obtain ⟨w5, hw5⟩ : ∃ W, w4.setCells (sg) 0 [.int .i64 0, .int .i64 0, .int .i64 0, .int .i64 0, .int .i64 0, .int .i64 0, .bool false, .bool false, .int .i64 0, .bool false] = W := ⟨_, rfl⟩
      have thg := Lib.hid (there_blk Vg.out (k := 10) rfl)
      replace Vo := Lib.hid (stayS hw5 neo_g Vo.out)
      replace Vx := Lib.hid (stayS hw5 nex_g Vx.out)
      replace Va := Lib.hid (stayS hw5 neg_a.symm Va.out)
      replace Vg := Lib.hid (setS hw5 Vg.out rfl)
      replace HB := Lib.hid (belS hw5 geg HB.out)
      refine Shut.out hK _ _ hS (fun _ => ?_)
      clear hK K
      try simp only [Act.put, List.setIfInBounds_toArray, List.set_cons_zero, List.set_cons_succ]
      refine wpAnyH_ready (rs := [16]) (by kernel_rfl) (by simp) (AllReadyH.cons (o := ⟨none, .store 31 (.tmp 7) (.tmp 34), 0, "law.go:53", #[⟨13, .data⟩, ⟨10, .data⟩, ⟨15, .chain⟩, ⟨0, .phase⟩, ⟨1, .phase⟩, ⟨2, .phase⟩, ⟨3, .phase⟩, ⟨4, .phase⟩, ⟨5, .phase⟩, ⟨6, .phase⟩, ⟨7, .phase⟩, ⟨8, .phase⟩, ⟨9, .phase⟩, ⟨10, .phase⟩, ⟨11, .textOnly .lateStores⟩, ⟨12, .phase⟩, ⟨13, .phase⟩, ⟨14, .phase⟩, ⟨15, .phase⟩], none⟩) rfl (fun K hK => ?_) AllReadyH.nil)
      refine op_storeS (by rfl) rfl rfl rfl thg.out (by kernel_rfl) (by simp [Value.oneCell']) hw5 ?_
      replace hS := hw5 ▸ below_setCells gsg [.int .i64 0, .int .i64 0, .int .i64 0, .int .i64 0, .int .i64 0, .int .i64 0, .bool false, .bool false, .int .i64 0, .bool false] 0 _ hS
      obtain ⟨w6, hw6⟩ : ∃ W, w5.setCells (sa) 0 [.bool true, .bool false, .bool false, .int .i64 0, .int .i64 0, .int .u64 0, .slice none 0 0] = W := ⟨_, rfl⟩
      have tha := Lib.hid (there_blk Va.out (k := 7) rfl)
      replace Vo := Lib.hid (stayS hw6 neo_a Vo.out)
      replace Vx := Lib.hid (stayS hw6 nex_a Vx.out)
      replace Vg := Lib.hid (stayS hw6 neg_a Vg.out)
      replace Va := Lib.hid (setS hw6 Va.out rfl)
      replace HB := Lib.hid (belS hw6 gea HB.out)
      refine Shut.out hK _ _ hS (fun _ => ?_)
      clear hK K
      try simp only [Act.put, List.setIfInBounds_toArray, List.set_cons_zero, List.set_cons_succ]
      refine wpAnyH_ready (rs := [17]) (by kernel_rfl) (by simp) (AllReadyH.cons (o := ⟨none, .store 38 (.tmp 8) (.tmp 35), 0, "law.go:53", #[⟨14, .data⟩, ⟨11, .data⟩, ⟨16, .chain⟩, ⟨0, .phase⟩, ⟨1, .phase⟩, ⟨2, .phase⟩, ⟨3, .phase⟩, ⟨4, .phase⟩, ⟨5, .phase⟩, ⟨6, .phase⟩, ⟨7, .phase⟩, ⟨8, .phase⟩, ⟨9, .phase⟩, ⟨10, .phase⟩, ⟨11, .phase⟩, ⟨12, .phase⟩, ⟨13, .phase⟩, ⟨14, .phase⟩, ⟨15, .phase⟩, ⟨16, .phase⟩], none⟩) rfl (fun K hK => ?_) AllReadyH.nil)
      refine op_storeS (by rfl) rfl rfl rfl tha.out (by kernel_rfl) (by simp [Value.oneCell']) hw6 ?_
      replace hS := hw6 ▸ below_setCells gsa [.bool true, .bool false, .bool false, .int .i64 0, .int .i64 0, .int .u64 0, .slice none 0 0] 0 _ hS
      refine Shut.out hK _ _ hS (fun _ => ?_)
      clear hK K
      try simp only [Act.put, List.setIfInBounds_toArray, List.set_cons_zero, List.set_cons_succ]
      refine wpAnyH_done (by kernel_rfl) ?_ _
      refine NoPanic.normal ?_
      clear hS gsx gsg gsa thx thg tha
      have hcx : w6.cell? ⟨b1_, off1 + i, none⟩ = some (.int .i8 e1_) := (HB.out.1.cell (p := ⟨b1_, off1 + i, none⟩) HB1.out).trans HC1.out
      have ca := row7 Va.out
      have cg := row10 Vg.out
      have cx := row11 Vx.out
      have co := row11 Vo.out
      obtain ⟨mw7, w7, hw7, hse, VN⟩ := set11 Vo.out (.int .i64 3) (.int .i64 y) (.int .i64 0) (.int .i64 0) (.int .i64 0) (.int .i64 0) (.int .i64 0) (.int .u32 0) (.int .u32 0) (.slice none 0 0) (.slice none 0 0)
      replace Vx := Lib.hid (stayS hse neo_x.symm Vx.out)
      replace Vg := Lib.hid (stayS hse neo_g.symm Vg.out)
      replace Va := Lib.hid (stayS hse neo_a.symm Va.out)
      replace Vo := VN
      replace HB := Lib.hid (belS hse geo HB.out)
      clear VN hse
      have KW := Lib.hid (show ∀ W : World, Calls Try.prog 10 #[.agg #[.int .i64 3, .int .i64 y, .int .i64 0, .int .i64 0, .int .i64 0, .int .i64 0, .int .i64 0, .int .u32 0, .int .u32 0, .slice none 0 0, .slice none 0 0], .agg #[.int .i64 33, .int .i64 0, .int .i64 0, .int .i64 0, .int .i64 (-1), .int .i64 0, .bool false, .bool false, .int .i64 0, .bool false]] W (fun e w' => e = .returned (.tuple #[.agg #[.int .i64 3, .int .i64 y, .int .i64 1, .int .i64 0, .int .i64 0, .int .i64 0, .int .i64 0, .int .u32 0, .int .u32 0, .slice none 0 0, .slice none 0 0], .agg #[.int .i64 33, .int .i64 1, .int .i64 0, .int .i64 0, .int .i64 (-1), .int .i64 0, .bool false, .bool false, .int .i64 3, .bool false], .agg #[.bool false, .bool false, .bool false, .int .i64 0, .int .i64 0, .int .u64 0, .slice none 0 0]]) ∧ Below W.heap.size W w') from fun W => by
        have h := grWait_nil 3 y 0 0 0 0 0 0 0 (⟨33, 0, 0, 0, -1, 0, false, false, 0, false⟩ : MFr) ⟨by have h3 := HV.out; have h4 := HE1.out; have h5 := HY.out; have h6 := HY0.out; have h7 := HLT.out; rw [IntKind.wrap_i64]; omega, by kernel_rfl⟩ W
        rw [show waitW y 0 (⟨33, 0, 0, 0, -1, 0, false, false, 0, false⟩ : MFr) = ((y, 1), (⟨33, 1, 0, 0, -1, 0, false, false, 3, false⟩ : MFr), (⟨false, 0, false, 0⟩ : MAct)) from (by
          have h1 := HZ.out
          unfold waitW
          rw [if_neg (fun h => by rcases h with h | h; exact absurd (show (0 : Int) = 1 from h) (by decide); exact h1 h.2), if_pos rfl]
          rfl)] at h
        exact h)
      go_wp2
      clear hcx ca cg cx co mw7 hw7
      refine wp_region_noPanic ?_
      refine wp_region_held_drew (S := (fun wv => Below w7.heap.size w7 wv)) (by kernel_rfl) ((Below.refl w7.heap.size w7).drew) (fun hS => ?_)
      refine wpAnyH_take (i := 0) (oi := ⟨some 75, .load 29 (.tmp 3), 29, "law.go:65", #[], none⟩) (v := .agg (([.int .i64 3, .int .i64 y, .int .i64 0, .int .i64 0, .int .i64 0, .int .i64 0, .int .i64 0, .int .u32 0, .int .u32 0, .slice none 0 0, .slice none 0 0] : List Value)).toArray) rfl (by kernel_rfl) (by kernel_rfl) (by kernel_rfl) (fun _ _ _ h => h) (yieldsIf_load_mid (by rfl) _ _ (by rfl) (so) (0) (by rfl) _ _ (fun wv hS => blk_rngl (blk_below Vo.out hS (blk_lt Vo.out))) Try.underlying29 (by rfl) (by kernel_rfl)) hS ?_
      try simp only [Act.put, List.setIfInBounds_toArray, List.set_cons_zero, List.set_cons_succ]
      refine inv_region (fun a0 fu listed a u => ∃ (cq0 cq1 xq0 xq1 xq2 : Bool) (v76 v77 v74 v78 v79 v80 p9 p10 p11 : Value) (sp sq sb : Nat), listed = #[true, cq0, cq1, cq1, cq1, cq1, cq1, xq0, xq1, xq2, false, false, false] ∧ a = ⟨(((((((((a0.tmps.setIfInBounds 76 v76).setIfInBounds 77 v77).setIfInBounds 74 v74).setIfInBounds 78 v78).setIfInBounds 79 v79).setIfInBounds 80 v80).setIfInBounds 9 p9).setIfInBounds 10 p10).setIfInBounds 11 p11), a0.defers⟩ ∧ (bif cq0 then 0 else 1) + (bif cq1 then 0 else 5) + (bif xq0 then 0 else 1) + (bif xq1 then 0 else 1) + (bif xq2 then 0 else 1) + 3 ≤ fu ∧ (cq1 = true → cq0 = true) ∧ Below w7.heap.size w7 u ∧ (cq0 = true → v76 = .agg #[.int .i64 33, .int .i64 0, .int .i64 0, .int .i64 0, .int .i64 (-1), .int .i64 0, .bool false, .bool false, .int .i64 0, .bool false]) ∧ (cq1 = true → v78 = .agg #[.int .i64 3, .int .i64 y, .int .i64 1, .int .i64 0, .int .i64 0, .int .i64 0, .int .i64 0, .int .u32 0, .int .u32 0, .slice none 0 0, .slice none 0 0]) ∧ (cq1 = true → v79 = .agg #[.int .i64 33, .int .i64 1, .int .i64 0, .int .i64 0, .int .i64 (-1), .int .i64 0, .bool false, .bool false, .int .i64 3, .bool false]) ∧ (cq1 = true → v80 = .agg #[.bool false, .bool false, .bool false, .int .i64 0, .int .i64 0, .int .u64 0, .slice none 0 0]) ∧ (xq0 = true → p9 = .pointer (some ⟨sp, 0, none⟩) ∧ w7.heap.size ≤ sp ∧ u.heap[sp]? = some (.cells #[.int .i64 0, .int .i64 0, .int .i64 0, .int .i64 0, .int .i64 0, .int .i64 0, .int .i64 0, .int .u32 0, .int .u32 0, .slice none 0 0, .slice none 0 0] 29)) ∧ (xq1 = true → p10 = .pointer (some ⟨sq, 0, none⟩) ∧ w7.heap.size ≤ sq ∧ u.heap[sq]? = some (.cells #[.int .i64 0, .int .i64 0, .int .i64 0, .int .i64 0, .int .i64 0, .int .i64 0, .bool false, .bool false, .int .i64 0, .bool false] 31)) ∧ (xq2 = true → p11 = .pointer (some ⟨sb, 0, none⟩) ∧ w7.heap.size ≤ sb ∧ u.heap[sb]? = some (.cells #[.bool false, .bool false, .bool false, .int .i64 0, .int .i64 0, .int .u64 0, .slice none 0 0] 38))) ⟨false, false, false, false, false, u76, u77, u74, u78, u79, u80, u9, u10, u11, 0, 0, 0, rfl, (by first | (simp only [List.setIfInBounds_toArray, List.set_cons_zero, List.set_cons_succ]; done) | rfl), (by show _ + _ ≤ _; decide), (fun h => nomatch h), hS, (fun h => nomatch h), (fun h => nomatch h), (fun h => nomatch h), (fun h => nomatch h), (fun h => nomatch h), (fun h => nomatch h), (fun h => nomatch h)⟩ ?_
      clear hS; rintro fu listed a u ⟨cq0, cq1, xq0, xq1, xq2, v76, v77, v74, v78, v79, v80, p9, p10, p11, sp, sq, sb, rfl, rfl, hn, hc0, hS, h76, h78, h79, h80, ksp, ksq, ksb⟩ IH
      try simp only [List.setIfInBounds_toArray, List.set_cons_zero, List.set_cons_succ]
      by_cases hall : (cq0 && (cq1 && (xq0 && (xq1 && (xq2))))) = true
      rotate_left
      · have hbad : ((cq1 && !cq0) || ((cq0 && (cq1 && (xq0 && (xq1 && (xq2))))))) = false := inv_or (inv_imp hc0) (inv_not hall)
        obtain ⟨fu, rfl⟩ : ∃ m, fu = m + 1 := ⟨fu - 1, by omega⟩
        refine inv_step (bad := ((cq1 && !cq0) || ((cq0 && (cq1 && (xq0 && (xq1 && (xq2)))))))) (fun i => ((i == 1 && !cq0) || ((i == 2 && (cq0 && !cq1)) || ((i == 7 && !xq0) || ((i == 8 && !xq1) || ((i == 9 && !xq2))))))) ((show ∀ cq0 cq1 xq0 xq1 xq2 : Bool, (((cq1 && !cq0) || ((cq0 && (cq1 && (xq0 && (xq1 && (xq2))))))) || (!(Region.ready _ _ #[true, cq0, cq1, cq1, cq1, cq1, cq1, xq0, xq1, xq2, false, false, false]).isEmpty && (Region.ready _ _ #[true, cq0, cq1, cq1, cq1, cq1, cq1, xq0, xq1, xq2, false, false, false]).all (fun i => ((i == 1 && !cq0) || ((i == 2 && (cq0 && !cq1)) || ((i == 7 && !xq0) || ((i == 8 && !xq1) || ((i == 9 && !xq2))))))))) = true from by intro cq0 cq1 xq0 xq1 xq2; cases cq0 <;> cases cq1 <;> cases xq0 <;> cases xq1 <;> cases xq2 <;> kernel_rfl) cq0 cq1 xq0 xq1 xq2) hbad (fun i hi => ?_)
        simp only [Bool.or_eq_true, Bool.and_eq_true, beq_iff_eq, Bool.not_eq_true'] at hi
        clear hall hbad
        rcases hi with ⟨rfl, rfl⟩ | ⟨rfl, rfl, rfl⟩ | ⟨rfl, rfl⟩ | ⟨rfl, rfl⟩ | ⟨rfl, rfl⟩
        · skip
          refine inv_arm (o := ⟨some 76, .call { callee := .value (.func 14), args := #[.const (Value.int IntKind.i64 33)], argTypes := #[3] }, 31, "law.go:65", #[], none⟩) rfl (fun K hK => ?_)
          go_simp
          go_wp2_with fail
          refine (N2.out _).mono ?_; rintro e u1 ⟨rfl, hb⟩
          replace hS := hS.trans (hb.mono hS.size)
          refine Shut.out hK _ _ hS (fun _ => ?_)
          clear hK K
          try simp only [Act.put, List.setIfInBounds_toArray, List.set_cons_zero, List.set_cons_succ]
          exact IH _ _ _ _ (by omega) ⟨true, cq1, xq0, xq1, xq2, _, v77, v74, v78, v79, v80, p9, p10, p11, sp, sq, sb, rfl, (by (try simp only [List.setIfInBounds_toArray, List.set_cons_zero, List.set_cons_succ]); try rfl), (by simp only [cond_true, cond_false] at hn ⊢; omega), (fun _ => rfl), hS, (fun _ => rfl), h78, h79, h80, (fun h => ⟨(ksp h).1, (ksp h).2.1, blk_below (ksp h).2.2 hb (blk_lt (ksp h).2.2)⟩), (fun h => ⟨(ksq h).1, (ksq h).2.1, blk_below (ksq h).2.2 hb (blk_lt (ksq h).2.2)⟩), (fun h => ⟨(ksb h).1, (ksb h).2.1, blk_below (ksb h).2.2 hb (blk_lt (ksb h).2.2)⟩)⟩
        · skip
          obtain rfl := h76 rfl
          refine inv_arm (o := ⟨some 77, .call { callee := .value (.func 10), args := #[.tmp 75, .tmp 76], argTypes := #[29, 31] }, 39, "law.go:65", #[⟨0, .data⟩, ⟨1, .data⟩, ⟨1, .chain⟩], none⟩) rfl (fun K hK => ?_)
          go_simp
          go_wp2_with fail
          refine (KW.out _).mono ?_; rintro e u2 ⟨rfl, hb⟩
          replace hS := hS.trans (hb.mono hS.size)
          obtain ⟨fu, rfl⟩ : ∃ m, fu = m + 4 := ⟨fu - 4, by simp only [cond_true, cond_false] at hn; omega⟩
          refine Shut.out hK _ _ hS (fun _ => ?_)
          clear hK K
          try simp only [Act.put, List.setIfInBounds_toArray, List.set_cons_zero, List.set_cons_succ]
          refine wpAnyH_take (i := 3) (oi := ⟨some 74, .move (.tmp 77), 39, "law.go:65", #[⟨2, .data⟩], none⟩) (v := ?_) rfl (by kernel_rfl) ((show ∀ xq0 xq1 xq2 : Bool, Region.free _ _ #[true, true, true, false, false, false, false, xq0, xq1, xq2, false, false, false] 3 = true from by intro xq0 xq1 xq2; cases xq0 <;> cases xq1 <;> cases xq2 <;> kernel_rfl) xq0 xq1 xq2) ((show ∀ xq0 xq1 xq2 : Bool, (Region.ready _ _ #[true, true, true, false, false, false, false, xq0, xq1, xq2, false, false, false]).contains 3 = true from by intro xq0 xq1 xq2; cases xq0 <;> cases xq1 <;> cases xq2 <;> kernel_rfl) xq0 xq1 xq2) (fun _ _ _ h => h) (Or.inl ⟨by rfl, ?_⟩) hS ?_
          rotate_left
          · intro wv _; go_simp; try with_reducible rfl
          try simp only [Act.put, List.setIfInBounds_toArray, List.set_cons_zero, List.set_cons_succ]
          refine wpAnyH_take (i := 4) (oi := ⟨some 78, .extract (.tmp 74) 0, 29, "law.go:65", #[⟨3, .data⟩], none⟩) (v := ?_) rfl (by kernel_rfl) ((show ∀ xq0 xq1 xq2 : Bool, Region.free _ _ #[true, true, true, true, false, false, false, xq0, xq1, xq2, false, false, false] 4 = true from by intro xq0 xq1 xq2; cases xq0 <;> cases xq1 <;> cases xq2 <;> kernel_rfl) xq0 xq1 xq2) ((show ∀ xq0 xq1 xq2 : Bool, (Region.ready _ _ #[true, true, true, true, false, false, false, xq0, xq1, xq2, false, false, false]).contains 4 = true from by intro xq0 xq1 xq2; cases xq0 <;> cases xq1 <;> cases xq2 <;> kernel_rfl) xq0 xq1 xq2) (fun _ _ _ h => h) (Or.inl ⟨by rfl, ?_⟩) hS ?_
          rotate_left
          · intro wv _; go_simp; try with_reducible rfl
          try simp only [Act.put, List.setIfInBounds_toArray, List.set_cons_zero, List.set_cons_succ]
          refine wpAnyH_take (i := 5) (oi := ⟨some 79, .extract (.tmp 74) 1, 31, "law.go:65", #[⟨3, .data⟩, ⟨10, .gcOnly .lateStores⟩], none⟩) (v := ?_) rfl (by kernel_rfl) ((show ∀ xq0 xq1 xq2 : Bool, Region.free _ _ #[true, true, true, true, true, false, false, xq0, xq1, xq2, false, false, false] 5 = true from by intro xq0 xq1 xq2; cases xq0 <;> cases xq1 <;> cases xq2 <;> kernel_rfl) xq0 xq1 xq2) ((show ∀ xq0 xq1 xq2 : Bool, (Region.ready _ _ #[true, true, true, true, true, false, false, xq0, xq1, xq2, false, false, false]).contains 5 = true from by intro xq0 xq1 xq2; cases xq0 <;> cases xq1 <;> cases xq2 <;> kernel_rfl) xq0 xq1 xq2) (fun _ _ _ h => h) (Or.inl ⟨by rfl, ?_⟩) hS ?_
          rotate_left
          · intro wv _; go_simp; try with_reducible rfl
          try simp only [Act.put, List.setIfInBounds_toArray, List.set_cons_zero, List.set_cons_succ]
          refine wpAnyH_take (i := 6) (oi := ⟨some 80, .extract (.tmp 74) 2, 38, "law.go:65", #[⟨3, .data⟩, ⟨11, .gcOnly .lateStores⟩], none⟩) (v := ?_) rfl (by kernel_rfl) ((show ∀ xq0 xq1 xq2 : Bool, Region.free _ _ #[true, true, true, true, true, true, false, xq0, xq1, xq2, false, false, false] 6 = true from by intro xq0 xq1 xq2; cases xq0 <;> cases xq1 <;> cases xq2 <;> kernel_rfl) xq0 xq1 xq2) ((show ∀ xq0 xq1 xq2 : Bool, (Region.ready _ _ #[true, true, true, true, true, true, false, xq0, xq1, xq2, false, false, false]).contains 6 = true from by intro xq0 xq1 xq2; cases xq0 <;> cases xq1 <;> cases xq2 <;> kernel_rfl) xq0 xq1 xq2) (fun _ _ _ h => h) (Or.inl ⟨by rfl, ?_⟩) hS ?_
          rotate_left
          · intro wv _; go_simp; try with_reducible rfl
          try simp only [Act.put, List.setIfInBounds_toArray, List.set_cons_zero, List.set_cons_succ]
          exact IH _ _ _ _ (by omega) ⟨true, true, xq0, xq1, xq2, _, _, _, _, _, _, p9, p10, p11, sp, sq, sb, rfl, (by (try simp only [List.setIfInBounds_toArray, List.set_cons_zero, List.set_cons_succ]); try rfl), (by simp only [cond_true, cond_false] at hn ⊢; omega), (fun _ => rfl), hS, (fun _ => rfl), (fun _ => rfl), (fun _ => rfl), (fun _ => rfl), (fun h => ⟨(ksp h).1, (ksp h).2.1, blk_below (ksp h).2.2 hb (blk_lt (ksp h).2.2)⟩), (fun h => ⟨(ksq h).1, (ksq h).2.1, blk_below (ksq h).2.2 hb (blk_lt (ksq h).2.2)⟩), (fun h => ⟨(ksb h).1, (ksb h).2.1, blk_below (ksb h).2.2 hb (blk_lt (ksb h).2.2)⟩)⟩
        · skip
          refine inv_arm (o := ⟨some 9, .alloc 29, 0, "law.go:65", #[], none⟩) rfl (fun K hK => ?_)
          go_simp
          have zs := hS.size
          have hb := (Below.refl u.heap.size u).alloc (Nat.le_refl _) (.cells #[.int .i64 0, .int .i64 0, .int .i64 0, .int .i64 0, .int .i64 0, .int .i64 0, .int .i64 0, .int .u32 0, .int .u32 0, .slice none 0 0, .slice none 0 0] 29)
          replace hS := hS.trans (hb.mono hS.size)
          refine Shut.out hK _ _ hS (fun _ => ?_)
          clear hK K
          try simp only [Act.put, List.setIfInBounds_toArray, List.set_cons_zero, List.set_cons_succ]
          exact IH _ _ _ _ (by omega) ⟨cq0, cq1, true, xq1, xq2, v76, v77, v74, v78, v79, v80, _, p10, p11, u.heap.size, sq, sb, rfl, (by (try simp only [List.setIfInBounds_toArray, List.set_cons_zero, List.set_cons_succ]); try rfl), (by simp only [cond_true, cond_false] at hn ⊢; omega), hc0, hS, h76, h78, h79, h80, (fun _ => ⟨rfl, zs, heap_alloc_new _ _⟩), (fun h => ⟨(ksq h).1, (ksq h).2.1, blk_below (ksq h).2.2 hb (blk_lt (ksq h).2.2)⟩), (fun h => ⟨(ksb h).1, (ksb h).2.1, blk_below (ksb h).2.2 hb (blk_lt (ksb h).2.2)⟩)⟩
        · skip
          refine inv_arm (o := ⟨some 10, .alloc 31, 0, "law.go:65", #[], none⟩) rfl (fun K hK => ?_)
          go_simp
          have zs := hS.size
          have hb := (Below.refl u.heap.size u).alloc (Nat.le_refl _) (.cells #[.int .i64 0, .int .i64 0, .int .i64 0, .int .i64 0, .int .i64 0, .int .i64 0, .bool false, .bool false, .int .i64 0, .bool false] 31)
          replace hS := hS.trans (hb.mono hS.size)
          refine Shut.out hK _ _ hS (fun _ => ?_)
          clear hK K
          try simp only [Act.put, List.setIfInBounds_toArray, List.set_cons_zero, List.set_cons_succ]
          exact IH _ _ _ _ (by omega) ⟨cq0, cq1, xq0, true, xq2, v76, v77, v74, v78, v79, v80, p9, _, p11, sp, u.heap.size, sb, rfl, (by (try simp only [List.setIfInBounds_toArray, List.set_cons_zero, List.set_cons_succ]); try rfl), (by simp only [cond_true, cond_false] at hn ⊢; omega), hc0, hS, h76, h78, h79, h80, (fun h => ⟨(ksp h).1, (ksp h).2.1, blk_below (ksp h).2.2 hb (blk_lt (ksp h).2.2)⟩), (fun _ => ⟨rfl, zs, heap_alloc_new _ _⟩), (fun h => ⟨(ksb h).1, (ksb h).2.1, blk_below (ksb h).2.2 hb (blk_lt (ksb h).2.2)⟩)⟩
        · skip
          refine inv_arm (o := ⟨some 11, .alloc 38, 0, "law.go:65", #[], none⟩) rfl (fun K hK => ?_)
          go_simp
          have zs := hS.size
          have hb := (Below.refl u.heap.size u).alloc (Nat.le_refl _) (.cells #[.bool false, .bool false, .bool false, .int .i64 0, .int .i64 0, .int .u64 0, .slice none 0 0] 38)
          replace hS := hS.trans (hb.mono hS.size)
          refine Shut.out hK _ _ hS (fun _ => ?_)
          clear hK K
          try simp only [Act.put, List.setIfInBounds_toArray, List.set_cons_zero, List.set_cons_succ]
          exact IH _ _ _ _ (by omega) ⟨cq0, cq1, xq0, xq1, true, v76, v77, v74, v78, v79, v80, p9, p10, _, sp, sq, u.heap.size, rfl, (by (try simp only [List.setIfInBounds_toArray, List.set_cons_zero, List.set_cons_succ]); try rfl), (by simp only [cond_true, cond_false] at hn ⊢; omega), hc0, hS, h76, h78, h79, h80, (fun h => ⟨(ksp h).1, (ksp h).2.1, blk_below (ksp h).2.2 hb (blk_lt (ksp h).2.2)⟩), (fun h => ⟨(ksq h).1, (ksq h).2.1, blk_below (ksq h).2.2 hb (blk_lt (ksq h).2.2)⟩), (fun _ => ⟨rfl, zs, heap_alloc_new _ _⟩)⟩
      simp only [Bool.and_eq_true] at hall
      obtain ⟨rfl, rfl, rfl, rfl, rfl⟩ := hall
      obtain rfl := h76 rfl
      obtain rfl := h78 rfl
      obtain rfl := h79 rfl
      obtain rfl := h80 rfl
      obtain ⟨rfl, gsp, Vsp⟩ := ksp rfl
      obtain ⟨rfl, gsq, Vsq⟩ := ksq rfl
      obtain ⟨rfl, gsb, Vsb⟩ := ksb rfl
      obtain ⟨fu, rfl⟩ : ∃ m, fu = m + 3 := ⟨fu - 3, by simp only [cond_true] at hn; omega⟩
      clear IH hn hc0
      have neo_p := Nat.ne_of_lt (Nat.lt_of_lt_of_le (blk_lt Vo.out) gsp)
      have nex_p := Nat.ne_of_lt (Nat.lt_of_lt_of_le (blk_lt Vx.out) gsp)
      have neg_p := Nat.ne_of_lt (Nat.lt_of_lt_of_le (blk_lt Vg.out) gsp)
      have nea_p := Nat.ne_of_lt (Nat.lt_of_lt_of_le (blk_lt Va.out) gsp)
      have neo_q := Nat.ne_of_lt (Nat.lt_of_lt_of_le (blk_lt Vo.out) gsq)
      have nex_q := Nat.ne_of_lt (Nat.lt_of_lt_of_le (blk_lt Vx.out) gsq)
      have neg_q := Nat.ne_of_lt (Nat.lt_of_lt_of_le (blk_lt Vg.out) gsq)
      have nea_q := Nat.ne_of_lt (Nat.lt_of_lt_of_le (blk_lt Va.out) gsq)
      have neo_b := Nat.ne_of_lt (Nat.lt_of_lt_of_le (blk_lt Vo.out) gsb)
      have nex_b := Nat.ne_of_lt (Nat.lt_of_lt_of_le (blk_lt Vx.out) gsb)
      have neg_b := Nat.ne_of_lt (Nat.lt_of_lt_of_le (blk_lt Vg.out) gsb)
      have nea_b := Nat.ne_of_lt (Nat.lt_of_lt_of_le (blk_lt Va.out) gsb)
      have nep_q : sp ≠ sq := blk_ne Vsp Vsq (by decide)
      have nep_b : sp ≠ sb := blk_ne Vsp Vsb (by decide)
      have neq_b : sq ≠ sb := blk_ne Vsq Vsb (by decide)
      have gep := Nat.le_trans HB.out.2 gsp
      have geq := Nat.le_trans HB.out.2 gsq
      have geb := Nat.le_trans HB.out.2 gsb
      replace Vo := Lib.hid (blk_below Vo.out hS (blk_lt Vo.out))
      replace Vx := Lib.hid (blk_below Vx.out hS (blk_lt Vx.out))
      replace Vg := Lib.hid (blk_below Vg.out hS (blk_lt Vg.out))
      replace Va := Lib.hid (blk_below Va.out hS (blk_lt Va.out))
      replace HB := Lib.hid (And.intro (HB.out.1.trans (hS.mono HB.out.2)) (Nat.le_trans HB.out.2 hS.size))
      have Vp := Lib.hid Vsp
      clear Vsp
      have Vq := Lib.hid Vsq
      clear Vsq
      have Vb := Lib.hid Vsb
      clear Vsb
      obtain ⟨w8, hw8⟩ : ∃ W, u.setCells (sp) 0 [.int .i64 3, .int .i64 y, .int .i64 1, .int .i64 0, .int .i64 0, .int .i64 0, .int .i64 0, .int .u32 0, .int .u32 0, .slice none 0 0, .slice none 0 0] = W := ⟨_, rfl⟩
      have thp := Lib.hid (there_blk Vp.out (k := 11) rfl)
      replace Vo := Lib.hid (stayS hw8 neo_p Vo.out)
      replace Vx := Lib.hid (stayS hw8 nex_p Vx.out)
      replace Vg := Lib.hid (stayS hw8 neg_p Vg.out)
      replace Va := Lib.hid (stayS hw8 nea_p Va.out)
      replace Vq := Lib.hid (stayS hw8 nep_q.symm Vq.out)
      replace Vb := Lib.hid (stayS hw8 nep_b.symm Vb.out)
      replace Vp := Lib.hid (setS hw8 Vp.out rfl)
      replace HB := Lib.hid (belS hw8 gep HB.out)
      refine wpAnyH_ready (rs := [10]) (by kernel_rfl) (by simp) (AllReadyH.cons (o := ⟨none, .store 29 (.tmp 9) (.tmp 78), 0, "law.go:65", #[⟨7, .data⟩, ⟨4, .data⟩, ⟨2, .chain⟩, ⟨0, .phase⟩, ⟨1, .phase⟩, ⟨2, .phase⟩, ⟨3, .phase⟩, ⟨4, .phase⟩, ⟨5, .textOnly .lateStores⟩, ⟨6, .textOnly .lateStores⟩, ⟨7, .phase⟩, ⟨8, .phase⟩, ⟨9, .phase⟩], none⟩) rfl (fun K hK => ?_) AllReadyH.nil)
      refine op_storeS (by rfl) rfl rfl rfl thp.out (by kernel_rfl) (by simp [Value.oneCell']) hw8 ?_
      replace hS := hw8 ▸ below_setCells gsp [.int .i64 3, .int .i64 y, .int .i64 1, .int .i64 0, .int .i64 0, .int .i64 0, .int .i64 0, .int .u32 0, .int .u32 0, .slice none 0 0, .slice none 0 0] 0 _ hS
      obtain ⟨w9, hw9⟩ : ∃ W, w8.setCells (sq) 0 [.int .i64 33, .int .i64 1, .int .i64 0, .int .i64 0, .int .i64 (-1), .int .i64 0, .bool false, .bool false, .int .i64 3, .bool false] = W := ⟨_, rfl⟩
      have thq := Lib.hid (there_blk Vq.out (k := 10) rfl)
      replace Vo := Lib.hid (stayS hw9 neo_q Vo.out)
      replace Vx := Lib.hid (stayS hw9 nex_q Vx.out)
      replace Vg := Lib.hid (stayS hw9 neg_q Vg.out)
      replace Va := Lib.hid (stayS hw9 nea_q Va.out)
      replace Vp := Lib.hid (stayS hw9 nep_q Vp.out)
      replace Vb := Lib.hid (stayS hw9 neq_b.symm Vb.out)
      replace Vq := Lib.hid (setS hw9 Vq.out rfl)
      replace HB := Lib.hid (belS hw9 geq HB.out)
      refine Shut.out hK _ _ hS (fun _ => ?_)
      clear hK K
      try simp only [Act.put, List.setIfInBounds_toArray, List.set_cons_zero, List.set_cons_succ]
      refine wpAnyH_ready (rs := [11]) (by kernel_rfl) (by simp) (AllReadyH.cons (o := ⟨none, .store 31 (.tmp 10) (.tmp 79), 0, "law.go:65", #[⟨8, .data⟩, ⟨5, .data⟩, ⟨10, .chain⟩, ⟨0, .phase⟩, ⟨1, .phase⟩, ⟨2, .phase⟩, ⟨3, .phase⟩, ⟨4, .phase⟩, ⟨5, .phase⟩, ⟨6, .textOnly .lateStores⟩, ⟨7, .phase⟩, ⟨8, .phase⟩, ⟨9, .phase⟩, ⟨10, .phase⟩], none⟩) rfl (fun K hK => ?_) AllReadyH.nil)
      refine op_storeS (by rfl) rfl rfl rfl thq.out (by kernel_rfl) (by simp [Value.oneCell']) hw9 ?_
      replace hS := hw9 ▸ below_setCells gsq [.int .i64 33, .int .i64 1, .int .i64 0, .int .i64 0, .int .i64 (-1), .int .i64 0, .bool false, .bool false, .int .i64 3, .bool false] 0 _ hS
      obtain ⟨w10, hw10⟩ : ∃ W, w9.setCells (sb) 0 [.bool false, .bool false, .bool false, .int .i64 0, .int .i64 0, .int .u64 0, .slice none 0 0] = W := ⟨_, rfl⟩
      have thb := Lib.hid (there_blk Vb.out (k := 7) rfl)
      replace Vo := Lib.hid (stayS hw10 neo_b Vo.out)
      replace Vx := Lib.hid (stayS hw10 nex_b Vx.out)
      replace Vg := Lib.hid (stayS hw10 neg_b Vg.out)
      replace Va := Lib.hid (stayS hw10 nea_b Va.out)
      replace Vp := Lib.hid (stayS hw10 nep_b Vp.out)
      replace Vq := Lib.hid (stayS hw10 neq_b Vq.out)
      replace Vb := Lib.hid (setS hw10 Vb.out rfl)
      replace HB := Lib.hid (belS hw10 geb HB.out)
      refine Shut.out hK _ _ hS (fun _ => ?_)
      clear hK K
      try simp only [Act.put, List.setIfInBounds_toArray, List.set_cons_zero, List.set_cons_succ]
      refine wpAnyH_ready (rs := [12]) (by kernel_rfl) (by simp) (AllReadyH.cons (o := ⟨none, .store 38 (.tmp 11) (.tmp 80), 0, "law.go:65", #[⟨9, .data⟩, ⟨6, .data⟩, ⟨11, .chain⟩, ⟨0, .phase⟩, ⟨1, .phase⟩, ⟨2, .phase⟩, ⟨3, .phase⟩, ⟨4, .phase⟩, ⟨5, .phase⟩, ⟨6, .phase⟩, ⟨7, .phase⟩, ⟨8, .phase⟩, ⟨9, .phase⟩, ⟨10, .phase⟩, ⟨11, .phase⟩], none⟩) rfl (fun K hK => ?_) AllReadyH.nil)
      refine op_storeS (by rfl) rfl rfl rfl thb.out (by kernel_rfl) (by simp [Value.oneCell']) hw10 ?_
      replace hS := hw10 ▸ below_setCells gsb [.bool false, .bool false, .bool false, .int .i64 0, .int .i64 0, .int .u64 0, .slice none 0 0] 0 _ hS
      refine Shut.out hK _ _ hS (fun _ => ?_)
      clear hK K
      try simp only [Act.put, List.setIfInBounds_toArray, List.set_cons_zero, List.set_cons_succ]
      refine wpAnyH_done (by kernel_rfl) ?_ _
      refine NoPanic.normal ?_
      clear hS gsp gsq gsb thp thq thb
      have cb := row7 Vb.out
      go_wp2
      go_roundw
      case rel =>
        have q1 := HLT.out; have q2 := HE1.out; have q3 := HV.out; have q4 := HY.out; have q5 := HY0.out
        exact ⟨i + 1, y, rfl, by go_num, by omega, Lib.hid ⟨by omega, by omega⟩, HB, Vo⟩
      case measure =>
        have := HLT.out
        simp [intOf]; omega
end Go.Proofs.Ytglldhmdifnobaa
