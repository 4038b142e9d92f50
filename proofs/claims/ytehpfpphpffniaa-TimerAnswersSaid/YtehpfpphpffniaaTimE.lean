/- What the document's own Right of layer 12 answers; for lists of up to 16384. -/
import Derived.Test.YtehpfpphpffniaaTimC
namespace Go.Proofs.Ytehpfpphpffniaa
set_option linter.unusedVariables false
set_option linter.unusedSimpArgs false
open Go.RowKit
set_option maxRecDepth 100000 in
set_option maxHeartbeats 8000000 in
theorem refRight12_any (A : Option Addr) (n c : Nat) (h : List Tm) (w : World) (hx : Tms w A n c h) (hn : n ≤ 16384) :
    Calls Try.prog 17 #[.slice A n c] w (YesT w (rightH h)) := by
  have hlen : h.length = n := hx.len
  have RX := Lib.hid hx
  have HL := Lib.hid hlen
  have HF := Lib.hid (fun (a1 a2 b1 b2 : Int) (W : World) => refBefore_any a1 a2 b1 b2 W)
  obtain ⟨R, hR⟩ : ∃ R, rightH h = R := ⟨_, rfl⟩
  rw [hR]
  clear hx
  by_cases h2 : 12 < n
  · have b1 : decide ((12 : Int) < (n : Int)) = true := by simp; omega
    have b1n : decide (12 < n) = true := by simp; omega
    have HE := Lib.hid (show R = false from by rw [← hR]; exact decide_eq_false (fun h5 => by have := h5.1; omega))
    clear h2 hR hlen
    go_enter Try.func17, Try.ntmps17
    go_wp2
    go_ret
    rw [HE.out]
    exact ⟨rfl, Below.refl _ _⟩
  · have b1 : decide ((12 : Int) < (n : Int)) = false := by simp; omega
    have b1n : decide (12 < n) = false := by simp; omega
    have n12 : n ≤ 12 := by omega
    have HRO := Lib.hid (show okTs h n → R = true from fun h5 => by rw [← hR]; exact decide_eq_true ⟨by omega, by rw [hlen]; exact h5⟩)
    have HRN := Lib.hid (show ∀ i : Nat, i < n → ¬ okT h i → R = false from fun i hi h5 => by rw [← hR]; exact decide_eq_false (fun hh => h5 (hh.2 i (by omega))))
    clear h2 hR hlen
    go_enter Try.func17, Try.ntmps17
    go_wp2
    go_loopw [3, 4] (fun iv kv wr => ∃ (i : Nat), iv = .int .i64 (i : Int) ∧ i ≤ n ∧ Hid (okTs h i) ∧ Hid (Below w.heap.size w wr)) (fun iv _ _ => n - (intOf iv).toNat)
    case atStart => exact ⟨0, rfl, by omega, fun j hj => by omega, Below.refl _ _⟩
    case round =>
      obtain ⟨i, rfl, hi, HOK, HB⟩ := hrel
      by_cases hlt : i < n
      · have c1 : decide ((i : Int) < (n : Int)) = true := by simpa using hlt
        have i0 : (0 : Int) ≤ (i : Int) := by omega
        have i1 : (i : Int) < (n : Int) := by omega
        obtain ⟨b, off, rfl, hb0, k0, k1⟩ := Tms.look (Es.below RX.out HB.out) i hlt
        obtain ⟨⟨tw, tk⟩, hti⟩ : ∃ x, tmAt h i = x := ⟨_, rfl⟩
        rw [hti] at k0 k1
        simp only at k0 k1
        have HTI := Lib.hid hti
        have HLT := Lib.hid hlt
        have HB0 := Lib.hid hb0
        have K0 := Lib.hid k0; have K1 := Lib.hid k1
        clear hti hb0 k0 k1 hlt
        by_cases h3 : tw < 0
        · have c2 : decide (tw < 0) = true := by simpa using h3
          have HE := Lib.hid (HRN.out i HLT.out (fun h5 => by have h4 := h5.1; rw [HTI.out] at h4; simp only at h4; omega))
          clear h3
          go_upto_region 6 with fail
          refine wp_region_noPanic ?_
          refine wp_region_held_drew (S := (fun wv => Hid (Below wr.heap.size wr wv))) (by kernel_rfl) (Lib.hid (Below.refl _ wr).drew) (fun hS => ?_)
          refine wpAnyH_take (i := 0) (oi := ⟨some 14, .move (.tmp 0), 22, "ref.go:17", #[], none⟩) (v := ?_) rfl (by kernel_rfl) (by kernel_rfl) (by kernel_rfl) (fun _ _ _ h => h) (Or.inl ⟨by rfl, ?_⟩) hS ?_
          rotate_left
          · intro wv _; go_simp; try with_reducible rfl
          try simp only [Act.put, List.setIfInBounds_toArray, List.set_cons_zero, List.set_cons_succ]
          refine wpAnyH_take (i := 1) (oi := ⟨some 15, .move (.tmp 3), 3, "ref.go:17", #[], none⟩) (v := ?_) rfl (by kernel_rfl) (by kernel_rfl) (by kernel_rfl) (fun _ _ _ h => h) (Or.inl ⟨by rfl, ?_⟩) hS ?_
          rotate_left
          · intro wv _; go_simp; try with_reducible rfl
          try simp only [Act.put, List.setIfInBounds_toArray, List.set_cons_zero, List.set_cons_succ]
          refine wpAnyH_take (i := 2) (oi := ⟨some 16, .indexAddr 22 (.tmp 14) (.tmp 15), 0, "ref.go:17", #[⟨0, .data⟩, ⟨1, .data⟩], none⟩) (v := ?_) rfl (by kernel_rfl) (by kernel_rfl) (by kernel_rfl) (fun _ _ _ h => h) (Or.inl ⟨by rfl, ?_⟩) hS ?_
          rotate_left
          · intro wv _; go_simp; try with_reducible rfl
          try simp only [Act.put, List.setIfInBounds_toArray, List.set_cons_zero, List.set_cons_succ]
          refine wpAnyH_take (i := 3) (oi := ⟨some 17, .fieldAddr 24 (.tmp 16) 0, 0, "ref.go:17", #[⟨2, .data⟩], none⟩) (v := ?_) rfl (by kernel_rfl) (by kernel_rfl) (by kernel_rfl) (fun _ _ _ h => h) (Or.inl ⟨by rfl, ?_⟩) hS ?_
          rotate_left
          · intro wv _; go_simp; try with_reducible rfl
          try simp only [Act.put, List.setIfInBounds_toArray, List.set_cons_zero, List.set_cons_succ]
          refine wpAnyH_take (i := 4) (oi := ⟨some 18, .load 2 (.tmp 17), 2, "ref.go:17", #[⟨3, .data⟩], none⟩) (v := ?_) rfl (by kernel_rfl) (by kernel_rfl) (by kernel_rfl) (fun _ _ _ h => h) (Or.inl ⟨by rfl, ?_⟩) hS ?_
          rotate_left
          · intro wv hS; have hrun := (hS.out.cell (p := ⟨b, off + i * 2, none⟩) HB0.out).trans K0.out; go_simp; try with_reducible rfl
          try simp only [Act.put, List.setIfInBounds_toArray, List.set_cons_zero, List.set_cons_succ]
          refine wpAnyH_take (i := 5) (oi := ⟨some 19, .binOp .lss 2 (.tmp 18) (.const (Value.int IntKind.i64 0)) 2, 4, "ref.go:17", #[⟨4, .data⟩], none⟩) (v := ?_) rfl (by kernel_rfl) (by kernel_rfl) (by kernel_rfl) (fun _ _ _ h => h) (Or.inl ⟨by rfl, ?_⟩) hS ?_
          rotate_left
          · intro wv _; go_simp; try with_reducible rfl
          try simp only [Act.put, List.setIfInBounds_toArray, List.set_cons_zero, List.set_cons_succ]
          refine wpAnyH_take (i := 6) (oi := ⟨some 20, .move (.tmp 19), 4, "ref.go:17", #[⟨5, .data⟩], none⟩) (v := ?_) rfl (by kernel_rfl) (by kernel_rfl) (by kernel_rfl) (fun _ _ _ h => h) (Or.inl ⟨by rfl, ?_⟩) hS ?_
          rotate_left
          · intro wv _; go_simp; try with_reducible rfl
          try simp only [Act.put, List.setIfInBounds_toArray, List.set_cons_zero, List.set_cons_succ]
          refine wpAnyH_take (i := 7) (oi := ⟨some 21, .move (.tmp 0), 22, "ref.go:17", #[⟨6, .guard⟩], some (6, false)⟩) (v := undef) rfl (by kernel_rfl) (by kernel_rfl) (by kernel_rfl) (fun _ _ _ h => h) (Or.inr ⟨by rfl, rfl⟩) hS ?_
          try simp only [Act.put, List.setIfInBounds_toArray, List.set_cons_zero, List.set_cons_succ]
          refine wpAnyH_take (i := 8) (oi := ⟨some 22, .move (.tmp 3), 3, "ref.go:17", #[⟨6, .guard⟩], some (6, false)⟩) (v := undef) rfl (by kernel_rfl) (by kernel_rfl) (by kernel_rfl) (fun _ _ _ h => h) (Or.inr ⟨by rfl, rfl⟩) hS ?_
          try simp only [Act.put, List.setIfInBounds_toArray, List.set_cons_zero, List.set_cons_succ]
          refine wpAnyH_take (i := 9) (oi := ⟨some 23, .indexAddr 22 (.tmp 21) (.tmp 22), 0, "ref.go:17", #[⟨7, .data⟩, ⟨8, .data⟩, ⟨6, .guard⟩], some (6, false)⟩) (v := undef) rfl (by kernel_rfl) (by kernel_rfl) (by kernel_rfl) (fun _ _ _ h => h) (Or.inr ⟨by rfl, rfl⟩) hS ?_
          try simp only [Act.put, List.setIfInBounds_toArray, List.set_cons_zero, List.set_cons_succ]
          refine wpAnyH_take (i := 10) (oi := ⟨some 24, .fieldAddr 24 (.tmp 23) 1, 0, "ref.go:17", #[⟨9, .data⟩, ⟨6, .guard⟩], some (6, false)⟩) (v := undef) rfl (by kernel_rfl) (by kernel_rfl) (by kernel_rfl) (fun _ _ _ h => h) (Or.inr ⟨by rfl, rfl⟩) hS ?_
          try simp only [Act.put, List.setIfInBounds_toArray, List.set_cons_zero, List.set_cons_succ]
          refine wpAnyH_take (i := 11) (oi := ⟨some 25, .load 3 (.tmp 24), 3, "ref.go:17", #[⟨10, .data⟩, ⟨6, .guard⟩], some (6, false)⟩) (v := undef) rfl (by kernel_rfl) (by kernel_rfl) (by kernel_rfl) (fun _ _ _ h => h) (Or.inr ⟨by rfl, rfl⟩) hS ?_
          try simp only [Act.put, List.setIfInBounds_toArray, List.set_cons_zero, List.set_cons_succ]
          refine wpAnyH_take (i := 12) (oi := ⟨some 26, .binOp .lss 3 (.tmp 25) (.const (Value.int IntKind.i64 0)) 3, 4, "ref.go:17", #[⟨11, .data⟩, ⟨6, .guard⟩], some (6, false)⟩) (v := undef) rfl (by kernel_rfl) (by kernel_rfl) (by kernel_rfl) (fun _ _ _ h => h) (Or.inr ⟨by rfl, rfl⟩) hS ?_
          try simp only [Act.put, List.setIfInBounds_toArray, List.set_cons_zero, List.set_cons_succ]
          refine wpAnyH_take (i := 13) (oi := ⟨some 27, .pick (.tmp 20) (.const (Value.bool true)) (.tmp 26), 4, "ref.go:17", #[⟨6, .data⟩, ⟨12, .data⟩], none⟩) (v := ?_) rfl (by kernel_rfl) (by kernel_rfl) (by kernel_rfl) (fun _ _ _ h => h) (Or.inl ⟨by rfl, ?_⟩) hS ?_
          rotate_left
          · intro wv _; go_simp; try with_reducible rfl
          try simp only [Act.put, List.setIfInBounds_toArray, List.set_cons_zero, List.set_cons_succ]
          refine wpAnyH_take (i := 14) (oi := ⟨some 28, .move (.tmp 27), 4, "ref.go:17", #[⟨13, .data⟩, ⟨6, .chain⟩], none⟩) (v := ?_) rfl (by kernel_rfl) (by kernel_rfl) (by kernel_rfl) (fun _ _ _ h => h) (Or.inl ⟨by rfl, ?_⟩) hS ?_
          rotate_left
          · intro wv _; go_simp; try with_reducible rfl
          try simp only [Act.put, List.setIfInBounds_toArray, List.set_cons_zero, List.set_cons_succ]
          refine wpAnyH_take (i := 15) (oi := ⟨some 29, .move (.tmp 3), 3, "ref.go:17", #[⟨14, .guard⟩], some (14, false)⟩) (v := undef) rfl (by kernel_rfl) (by kernel_rfl) (by kernel_rfl) (fun _ _ _ h => h) (Or.inr ⟨by rfl, rfl⟩) hS ?_
          try simp only [Act.put, List.setIfInBounds_toArray, List.set_cons_zero, List.set_cons_succ]
          refine wpAnyH_take (i := 16) (oi := ⟨some 30, .binOp .gtr 3 (.tmp 29) (.const (Value.int IntKind.i64 0)) 3, 4, "ref.go:17", #[⟨15, .data⟩, ⟨14, .guard⟩], some (14, false)⟩) (v := undef) rfl (by kernel_rfl) (by kernel_rfl) (by kernel_rfl) (fun _ _ _ h => h) (Or.inr ⟨by rfl, rfl⟩) hS ?_
          try simp only [Act.put, List.setIfInBounds_toArray, List.set_cons_zero, List.set_cons_succ]
          refine wpAnyH_take (i := 17) (oi := ⟨some 31, .move (.tmp 30), 4, "ref.go:17", #[⟨16, .data⟩, ⟨14, .chain⟩, ⟨14, .guard⟩], some (14, false)⟩) (v := undef) rfl (by kernel_rfl) (by kernel_rfl) (by kernel_rfl) (fun _ _ _ h => h) (Or.inr ⟨by rfl, rfl⟩) hS ?_
          try simp only [Act.put, List.setIfInBounds_toArray, List.set_cons_zero, List.set_cons_succ]
          refine wpAnyH_take (i := 18) (oi := ⟨some 32, .move (.tmp 0), 22, "ref.go:17", #[⟨17, .guard⟩], some (17, true)⟩) (v := undef) rfl (by kernel_rfl) (by kernel_rfl) (by kernel_rfl) (fun _ _ _ h => h) (Or.inr ⟨by rfl, rfl⟩) hS ?_
          try simp only [Act.put, List.setIfInBounds_toArray, List.set_cons_zero, List.set_cons_succ]
          refine wpAnyH_take (i := 19) (oi := ⟨some 33, .move (.tmp 3), 3, "ref.go:17", #[⟨17, .guard⟩], some (17, true)⟩) (v := undef) rfl (by kernel_rfl) (by kernel_rfl) (by kernel_rfl) (fun _ _ _ h => h) (Or.inr ⟨by rfl, rfl⟩) hS ?_
          try simp only [Act.put, List.setIfInBounds_toArray, List.set_cons_zero, List.set_cons_succ]
          refine wpAnyH_take (i := 20) (oi := ⟨some 34, .indexAddr 22 (.tmp 32) (.tmp 33), 0, "ref.go:17", #[⟨18, .data⟩, ⟨19, .data⟩, ⟨17, .guard⟩], some (17, true)⟩) (v := undef) rfl (by kernel_rfl) (by kernel_rfl) (by kernel_rfl) (fun _ _ _ h => h) (Or.inr ⟨by rfl, rfl⟩) hS ?_
          try simp only [Act.put, List.setIfInBounds_toArray, List.set_cons_zero, List.set_cons_succ]
          refine wpAnyH_take (i := 21) (oi := ⟨some 35, .load 24 (.tmp 34), 24, "ref.go:17", #[⟨20, .data⟩, ⟨17, .guard⟩], some (17, true)⟩) (v := undef) rfl (by kernel_rfl) (by kernel_rfl) (by kernel_rfl) (fun _ _ _ h => h) (Or.inr ⟨by rfl, rfl⟩) hS ?_
          try simp only [Act.put, List.setIfInBounds_toArray, List.set_cons_zero, List.set_cons_succ]
          refine wpAnyH_take (i := 22) (oi := ⟨some 36, .move (.tmp 0), 22, "ref.go:17", #[⟨17, .guard⟩], some (17, true)⟩) (v := undef) rfl (by kernel_rfl) (by kernel_rfl) (by kernel_rfl) (fun _ _ _ h => h) (Or.inr ⟨by rfl, rfl⟩) hS ?_
          try simp only [Act.put, List.setIfInBounds_toArray, List.set_cons_zero, List.set_cons_succ]
          refine wpAnyH_take (i := 23) (oi := ⟨some 37, .move (.tmp 3), 3, "ref.go:17", #[⟨17, .guard⟩], some (17, true)⟩) (v := undef) rfl (by kernel_rfl) (by kernel_rfl) (by kernel_rfl) (fun _ _ _ h => h) (Or.inr ⟨by rfl, rfl⟩) hS ?_
          try simp only [Act.put, List.setIfInBounds_toArray, List.set_cons_zero, List.set_cons_succ]
          refine wpAnyH_take (i := 24) (oi := ⟨some 38, .binOp .sub 3 (.tmp 37) (.const (Value.int IntKind.i64 1)) 3, 3, "ref.go:17", #[⟨23, .data⟩, ⟨17, .guard⟩], some (17, true)⟩) (v := undef) rfl (by kernel_rfl) (by kernel_rfl) (by kernel_rfl) (fun _ _ _ h => h) (Or.inr ⟨by rfl, rfl⟩) hS ?_
          try simp only [Act.put, List.setIfInBounds_toArray, List.set_cons_zero, List.set_cons_succ]
          refine wpAnyH_take (i := 25) (oi := ⟨some 39, .binOp .quo 3 (.tmp 38) (.const (Value.int IntKind.i64 4)) 3, 3, "ref.go:17", #[⟨24, .data⟩, ⟨17, .guard⟩], some (17, true)⟩) (v := undef) rfl (by kernel_rfl) (by kernel_rfl) (by kernel_rfl) (fun _ _ _ h => h) (Or.inr ⟨by rfl, rfl⟩) hS ?_
          try simp only [Act.put, List.setIfInBounds_toArray, List.set_cons_zero, List.set_cons_succ]
          refine wpAnyH_take (i := 26) (oi := ⟨some 40, .indexAddr 22 (.tmp 36) (.tmp 39), 0, "ref.go:17", #[⟨22, .data⟩, ⟨25, .data⟩, ⟨17, .guard⟩], some (17, true)⟩) (v := undef) rfl (by kernel_rfl) (by kernel_rfl) (by kernel_rfl) (fun _ _ _ h => h) (Or.inr ⟨by rfl, rfl⟩) hS ?_
          try simp only [Act.put, List.setIfInBounds_toArray, List.set_cons_zero, List.set_cons_succ]
          refine wpAnyH_take (i := 27) (oi := ⟨some 41, .load 24 (.tmp 40), 24, "ref.go:17", #[⟨26, .data⟩, ⟨17, .guard⟩], some (17, true)⟩) (v := undef) rfl (by kernel_rfl) (by kernel_rfl) (by kernel_rfl) (fun _ _ _ h => h) (Or.inr ⟨by rfl, rfl⟩) hS ?_
          try simp only [Act.put, List.setIfInBounds_toArray, List.set_cons_zero, List.set_cons_succ]
          refine wpAnyH_take (i := 28) (oi := ⟨some 42, .call { callee := .value (.func 23), args := #[.tmp 35, .tmp 41], argTypes := #[24, 24] }, 4, "ref.go:17", #[⟨21, .data⟩, ⟨27, .data⟩, ⟨17, .chain⟩, ⟨17, .guard⟩], some (17, true)⟩) (v := undef) rfl (by kernel_rfl) (by kernel_rfl) (by kernel_rfl) (fun _ _ _ h => h) (Or.inr ⟨by rfl, rfl⟩) hS ?_
          try simp only [Act.put, List.setIfInBounds_toArray, List.set_cons_zero, List.set_cons_succ]
          refine wpAnyH_take (i := 29) (oi := ⟨some 43, .pick (.tmp 31) (.tmp 42) (.const (Value.bool false)), 4, "ref.go:17", #[⟨17, .data⟩, ⟨28, .data⟩, ⟨14, .guard⟩], some (14, false)⟩) (v := undef) rfl (by kernel_rfl) (by kernel_rfl) (by kernel_rfl) (fun _ _ _ h => h) (Or.inr ⟨by rfl, rfl⟩) hS ?_
          try simp only [Act.put, List.setIfInBounds_toArray, List.set_cons_zero, List.set_cons_succ]
          refine wpAnyH_take (i := 30) (oi := ⟨some 44, .pick (.tmp 28) (.const (Value.bool true)) (.tmp 43), 4, "ref.go:17", #[⟨14, .data⟩, ⟨29, .data⟩], none⟩) (v := ?_) rfl (by kernel_rfl) (by kernel_rfl) (by kernel_rfl) (fun _ _ _ h => h) (Or.inl ⟨by rfl, ?_⟩) hS ?_
          rotate_left
          · intro wv _; go_simp; try with_reducible rfl
          try simp only [Act.put, List.setIfInBounds_toArray, List.set_cons_zero, List.set_cons_succ]
          refine wpAnyH_done (by kernel_rfl) ?_ _
          refine NoPanic.normal ?_
          go_wp2
          go_ret
          rw [HE.out]
          exact ⟨rfl, HB.out.trans (hS.out.mono HB.out.size)⟩
        · have c2 : decide (tw < 0) = false := by simpa using h3
          by_cases h4 : tk < 0
          · have c3 : decide (tk < 0) = true := by simpa using h4
            have HE := Lib.hid (HRN.out i HLT.out (fun h5 => by have h6 := h5.2.1; rw [HTI.out] at h6; simp only at h6; omega))
            clear h3 h4
            go_upto_region 6 with fail
            refine wp_region_noPanic ?_
            refine wp_region_held_drew (S := (fun wv => Hid (Below wr.heap.size wr wv))) (by kernel_rfl) (Lib.hid (Below.refl _ wr).drew) (fun hS => ?_)
            refine wpAnyH_take (i := 0) (oi := ⟨some 14, .move (.tmp 0), 22, "ref.go:17", #[], none⟩) (v := ?_) rfl (by kernel_rfl) (by kernel_rfl) (by kernel_rfl) (fun _ _ _ h => h) (Or.inl ⟨by rfl, ?_⟩) hS ?_
            rotate_left
            · intro wv _; go_simp; try with_reducible rfl
            try simp only [Act.put, List.setIfInBounds_toArray, List.set_cons_zero, List.set_cons_succ]
            refine wpAnyH_take (i := 1) (oi := ⟨some 15, .move (.tmp 3), 3, "ref.go:17", #[], none⟩) (v := ?_) rfl (by kernel_rfl) (by kernel_rfl) (by kernel_rfl) (fun _ _ _ h => h) (Or.inl ⟨by rfl, ?_⟩) hS ?_
            rotate_left
            · intro wv _; go_simp; try with_reducible rfl
            try simp only [Act.put, List.setIfInBounds_toArray, List.set_cons_zero, List.set_cons_succ]
            refine wpAnyH_take (i := 2) (oi := ⟨some 16, .indexAddr 22 (.tmp 14) (.tmp 15), 0, "ref.go:17", #[⟨0, .data⟩, ⟨1, .data⟩], none⟩) (v := ?_) rfl (by kernel_rfl) (by kernel_rfl) (by kernel_rfl) (fun _ _ _ h => h) (Or.inl ⟨by rfl, ?_⟩) hS ?_
            rotate_left
            · intro wv _; go_simp; try with_reducible rfl
            try simp only [Act.put, List.setIfInBounds_toArray, List.set_cons_zero, List.set_cons_succ]
            refine wpAnyH_take (i := 3) (oi := ⟨some 17, .fieldAddr 24 (.tmp 16) 0, 0, "ref.go:17", #[⟨2, .data⟩], none⟩) (v := ?_) rfl (by kernel_rfl) (by kernel_rfl) (by kernel_rfl) (fun _ _ _ h => h) (Or.inl ⟨by rfl, ?_⟩) hS ?_
            rotate_left
            · intro wv _; go_simp; try with_reducible rfl
            try simp only [Act.put, List.setIfInBounds_toArray, List.set_cons_zero, List.set_cons_succ]
            refine wpAnyH_take (i := 4) (oi := ⟨some 18, .load 2 (.tmp 17), 2, "ref.go:17", #[⟨3, .data⟩], none⟩) (v := ?_) rfl (by kernel_rfl) (by kernel_rfl) (by kernel_rfl) (fun _ _ _ h => h) (Or.inl ⟨by rfl, ?_⟩) hS ?_
            rotate_left
            · intro wv hS; have hrun := (hS.out.cell (p := ⟨b, off + i * 2, none⟩) HB0.out).trans K0.out; go_simp; try with_reducible rfl
            try simp only [Act.put, List.setIfInBounds_toArray, List.set_cons_zero, List.set_cons_succ]
            refine wpAnyH_take (i := 5) (oi := ⟨some 19, .binOp .lss 2 (.tmp 18) (.const (Value.int IntKind.i64 0)) 2, 4, "ref.go:17", #[⟨4, .data⟩], none⟩) (v := ?_) rfl (by kernel_rfl) (by kernel_rfl) (by kernel_rfl) (fun _ _ _ h => h) (Or.inl ⟨by rfl, ?_⟩) hS ?_
            rotate_left
            · intro wv _; go_simp; try with_reducible rfl
            try simp only [Act.put, List.setIfInBounds_toArray, List.set_cons_zero, List.set_cons_succ]
            refine wpAnyH_take (i := 6) (oi := ⟨some 20, .move (.tmp 19), 4, "ref.go:17", #[⟨5, .data⟩], none⟩) (v := ?_) rfl (by kernel_rfl) (by kernel_rfl) (by kernel_rfl) (fun _ _ _ h => h) (Or.inl ⟨by rfl, ?_⟩) hS ?_
            rotate_left
            · intro wv _; go_simp; try with_reducible rfl
            try simp only [Act.put, List.setIfInBounds_toArray, List.set_cons_zero, List.set_cons_succ]
            refine wpAnyH_take (i := 7) (oi := ⟨some 21, .move (.tmp 0), 22, "ref.go:17", #[⟨6, .guard⟩], some (6, false)⟩) (v := ?_) rfl (by kernel_rfl) (by kernel_rfl) (by kernel_rfl) (fun _ _ _ h => h) (Or.inl ⟨by rfl, ?_⟩) hS ?_
            rotate_left
            · intro wv _; go_simp; try with_reducible rfl
            try simp only [Act.put, List.setIfInBounds_toArray, List.set_cons_zero, List.set_cons_succ]
            refine wpAnyH_take (i := 8) (oi := ⟨some 22, .move (.tmp 3), 3, "ref.go:17", #[⟨6, .guard⟩], some (6, false)⟩) (v := ?_) rfl (by kernel_rfl) (by kernel_rfl) (by kernel_rfl) (fun _ _ _ h => h) (Or.inl ⟨by rfl, ?_⟩) hS ?_
            rotate_left
            · intro wv _; go_simp; try with_reducible rfl
            try simp only [Act.put, List.setIfInBounds_toArray, List.set_cons_zero, List.set_cons_succ]
            refine wpAnyH_take (i := 9) (oi := ⟨some 23, .indexAddr 22 (.tmp 21) (.tmp 22), 0, "ref.go:17", #[⟨7, .data⟩, ⟨8, .data⟩, ⟨6, .guard⟩], some (6, false)⟩) (v := ?_) rfl (by kernel_rfl) (by kernel_rfl) (by kernel_rfl) (fun _ _ _ h => h) (Or.inl ⟨by rfl, ?_⟩) hS ?_
            rotate_left
            · intro wv _; go_simp; try with_reducible rfl
            try simp only [Act.put, List.setIfInBounds_toArray, List.set_cons_zero, List.set_cons_succ]
            refine wpAnyH_take (i := 10) (oi := ⟨some 24, .fieldAddr 24 (.tmp 23) 1, 0, "ref.go:17", #[⟨9, .data⟩, ⟨6, .guard⟩], some (6, false)⟩) (v := ?_) rfl (by kernel_rfl) (by kernel_rfl) (by kernel_rfl) (fun _ _ _ h => h) (Or.inl ⟨by rfl, ?_⟩) hS ?_
            rotate_left
            · intro wv _; go_simp; try with_reducible rfl
            try simp only [Act.put, List.setIfInBounds_toArray, List.set_cons_zero, List.set_cons_succ]
            refine wpAnyH_take (i := 11) (oi := ⟨some 25, .load 3 (.tmp 24), 3, "ref.go:17", #[⟨10, .data⟩, ⟨6, .guard⟩], some (6, false)⟩) (v := ?_) rfl (by kernel_rfl) (by kernel_rfl) (by kernel_rfl) (fun _ _ _ h => h) (Or.inl ⟨by rfl, ?_⟩) hS ?_
            rotate_left
            · intro wv hS; have hrun := (hS.out.cell (p := ⟨b, off + i * 2 + 1, none⟩) HB0.out).trans K1.out; go_simp; try with_reducible rfl
            try simp only [Act.put, List.setIfInBounds_toArray, List.set_cons_zero, List.set_cons_succ]
            refine wpAnyH_take (i := 12) (oi := ⟨some 26, .binOp .lss 3 (.tmp 25) (.const (Value.int IntKind.i64 0)) 3, 4, "ref.go:17", #[⟨11, .data⟩, ⟨6, .guard⟩], some (6, false)⟩) (v := ?_) rfl (by kernel_rfl) (by kernel_rfl) (by kernel_rfl) (fun _ _ _ h => h) (Or.inl ⟨by rfl, ?_⟩) hS ?_
            rotate_left
            · intro wv _; go_simp; try with_reducible rfl
            try simp only [Act.put, List.setIfInBounds_toArray, List.set_cons_zero, List.set_cons_succ]
            refine wpAnyH_take (i := 13) (oi := ⟨some 27, .pick (.tmp 20) (.const (Value.bool true)) (.tmp 26), 4, "ref.go:17", #[⟨6, .data⟩, ⟨12, .data⟩], none⟩) (v := ?_) rfl (by kernel_rfl) (by kernel_rfl) (by kernel_rfl) (fun _ _ _ h => h) (Or.inl ⟨by rfl, ?_⟩) hS ?_
            rotate_left
            · intro wv _; go_simp; try with_reducible rfl
            try simp only [Act.put, List.setIfInBounds_toArray, List.set_cons_zero, List.set_cons_succ]
            refine wpAnyH_take (i := 14) (oi := ⟨some 28, .move (.tmp 27), 4, "ref.go:17", #[⟨13, .data⟩, ⟨6, .chain⟩], none⟩) (v := ?_) rfl (by kernel_rfl) (by kernel_rfl) (by kernel_rfl) (fun _ _ _ h => h) (Or.inl ⟨by rfl, ?_⟩) hS ?_
            rotate_left
            · intro wv _; go_simp; try with_reducible rfl
            try simp only [Act.put, List.setIfInBounds_toArray, List.set_cons_zero, List.set_cons_succ]
            refine wpAnyH_take (i := 15) (oi := ⟨some 29, .move (.tmp 3), 3, "ref.go:17", #[⟨14, .guard⟩], some (14, false)⟩) (v := undef) rfl (by kernel_rfl) (by kernel_rfl) (by kernel_rfl) (fun _ _ _ h => h) (Or.inr ⟨by rfl, rfl⟩) hS ?_
            try simp only [Act.put, List.setIfInBounds_toArray, List.set_cons_zero, List.set_cons_succ]
            refine wpAnyH_take (i := 16) (oi := ⟨some 30, .binOp .gtr 3 (.tmp 29) (.const (Value.int IntKind.i64 0)) 3, 4, "ref.go:17", #[⟨15, .data⟩, ⟨14, .guard⟩], some (14, false)⟩) (v := undef) rfl (by kernel_rfl) (by kernel_rfl) (by kernel_rfl) (fun _ _ _ h => h) (Or.inr ⟨by rfl, rfl⟩) hS ?_
            try simp only [Act.put, List.setIfInBounds_toArray, List.set_cons_zero, List.set_cons_succ]
            refine wpAnyH_take (i := 17) (oi := ⟨some 31, .move (.tmp 30), 4, "ref.go:17", #[⟨16, .data⟩, ⟨14, .chain⟩, ⟨14, .guard⟩], some (14, false)⟩) (v := undef) rfl (by kernel_rfl) (by kernel_rfl) (by kernel_rfl) (fun _ _ _ h => h) (Or.inr ⟨by rfl, rfl⟩) hS ?_
            try simp only [Act.put, List.setIfInBounds_toArray, List.set_cons_zero, List.set_cons_succ]
            refine wpAnyH_take (i := 18) (oi := ⟨some 32, .move (.tmp 0), 22, "ref.go:17", #[⟨17, .guard⟩], some (17, true)⟩) (v := undef) rfl (by kernel_rfl) (by kernel_rfl) (by kernel_rfl) (fun _ _ _ h => h) (Or.inr ⟨by rfl, rfl⟩) hS ?_
            try simp only [Act.put, List.setIfInBounds_toArray, List.set_cons_zero, List.set_cons_succ]
            refine wpAnyH_take (i := 19) (oi := ⟨some 33, .move (.tmp 3), 3, "ref.go:17", #[⟨17, .guard⟩], some (17, true)⟩) (v := undef) rfl (by kernel_rfl) (by kernel_rfl) (by kernel_rfl) (fun _ _ _ h => h) (Or.inr ⟨by rfl, rfl⟩) hS ?_
            try simp only [Act.put, List.setIfInBounds_toArray, List.set_cons_zero, List.set_cons_succ]
            refine wpAnyH_take (i := 20) (oi := ⟨some 34, .indexAddr 22 (.tmp 32) (.tmp 33), 0, "ref.go:17", #[⟨18, .data⟩, ⟨19, .data⟩, ⟨17, .guard⟩], some (17, true)⟩) (v := undef) rfl (by kernel_rfl) (by kernel_rfl) (by kernel_rfl) (fun _ _ _ h => h) (Or.inr ⟨by rfl, rfl⟩) hS ?_
            try simp only [Act.put, List.setIfInBounds_toArray, List.set_cons_zero, List.set_cons_succ]
            refine wpAnyH_take (i := 21) (oi := ⟨some 35, .load 24 (.tmp 34), 24, "ref.go:17", #[⟨20, .data⟩, ⟨17, .guard⟩], some (17, true)⟩) (v := undef) rfl (by kernel_rfl) (by kernel_rfl) (by kernel_rfl) (fun _ _ _ h => h) (Or.inr ⟨by rfl, rfl⟩) hS ?_
            try simp only [Act.put, List.setIfInBounds_toArray, List.set_cons_zero, List.set_cons_succ]
            refine wpAnyH_take (i := 22) (oi := ⟨some 36, .move (.tmp 0), 22, "ref.go:17", #[⟨17, .guard⟩], some (17, true)⟩) (v := undef) rfl (by kernel_rfl) (by kernel_rfl) (by kernel_rfl) (fun _ _ _ h => h) (Or.inr ⟨by rfl, rfl⟩) hS ?_
            try simp only [Act.put, List.setIfInBounds_toArray, List.set_cons_zero, List.set_cons_succ]
            refine wpAnyH_take (i := 23) (oi := ⟨some 37, .move (.tmp 3), 3, "ref.go:17", #[⟨17, .guard⟩], some (17, true)⟩) (v := undef) rfl (by kernel_rfl) (by kernel_rfl) (by kernel_rfl) (fun _ _ _ h => h) (Or.inr ⟨by rfl, rfl⟩) hS ?_
            try simp only [Act.put, List.setIfInBounds_toArray, List.set_cons_zero, List.set_cons_succ]
            refine wpAnyH_take (i := 24) (oi := ⟨some 38, .binOp .sub 3 (.tmp 37) (.const (Value.int IntKind.i64 1)) 3, 3, "ref.go:17", #[⟨23, .data⟩, ⟨17, .guard⟩], some (17, true)⟩) (v := undef) rfl (by kernel_rfl) (by kernel_rfl) (by kernel_rfl) (fun _ _ _ h => h) (Or.inr ⟨by rfl, rfl⟩) hS ?_
            try simp only [Act.put, List.setIfInBounds_toArray, List.set_cons_zero, List.set_cons_succ]
            refine wpAnyH_take (i := 25) (oi := ⟨some 39, .binOp .quo 3 (.tmp 38) (.const (Value.int IntKind.i64 4)) 3, 3, "ref.go:17", #[⟨24, .data⟩, ⟨17, .guard⟩], some (17, true)⟩) (v := undef) rfl (by kernel_rfl) (by kernel_rfl) (by kernel_rfl) (fun _ _ _ h => h) (Or.inr ⟨by rfl, rfl⟩) hS ?_
            try simp only [Act.put, List.setIfInBounds_toArray, List.set_cons_zero, List.set_cons_succ]
            refine wpAnyH_take (i := 26) (oi := ⟨some 40, .indexAddr 22 (.tmp 36) (.tmp 39), 0, "ref.go:17", #[⟨22, .data⟩, ⟨25, .data⟩, ⟨17, .guard⟩], some (17, true)⟩) (v := undef) rfl (by kernel_rfl) (by kernel_rfl) (by kernel_rfl) (fun _ _ _ h => h) (Or.inr ⟨by rfl, rfl⟩) hS ?_
            try simp only [Act.put, List.setIfInBounds_toArray, List.set_cons_zero, List.set_cons_succ]
            refine wpAnyH_take (i := 27) (oi := ⟨some 41, .load 24 (.tmp 40), 24, "ref.go:17", #[⟨26, .data⟩, ⟨17, .guard⟩], some (17, true)⟩) (v := undef) rfl (by kernel_rfl) (by kernel_rfl) (by kernel_rfl) (fun _ _ _ h => h) (Or.inr ⟨by rfl, rfl⟩) hS ?_
            try simp only [Act.put, List.setIfInBounds_toArray, List.set_cons_zero, List.set_cons_succ]
            refine wpAnyH_take (i := 28) (oi := ⟨some 42, .call { callee := .value (.func 23), args := #[.tmp 35, .tmp 41], argTypes := #[24, 24] }, 4, "ref.go:17", #[⟨21, .data⟩, ⟨27, .data⟩, ⟨17, .chain⟩, ⟨17, .guard⟩], some (17, true)⟩) (v := undef) rfl (by kernel_rfl) (by kernel_rfl) (by kernel_rfl) (fun _ _ _ h => h) (Or.inr ⟨by rfl, rfl⟩) hS ?_
            try simp only [Act.put, List.setIfInBounds_toArray, List.set_cons_zero, List.set_cons_succ]
            refine wpAnyH_take (i := 29) (oi := ⟨some 43, .pick (.tmp 31) (.tmp 42) (.const (Value.bool false)), 4, "ref.go:17", #[⟨17, .data⟩, ⟨28, .data⟩, ⟨14, .guard⟩], some (14, false)⟩) (v := undef) rfl (by kernel_rfl) (by kernel_rfl) (by kernel_rfl) (fun _ _ _ h => h) (Or.inr ⟨by rfl, rfl⟩) hS ?_
            try simp only [Act.put, List.setIfInBounds_toArray, List.set_cons_zero, List.set_cons_succ]
            refine wpAnyH_take (i := 30) (oi := ⟨some 44, .pick (.tmp 28) (.const (Value.bool true)) (.tmp 43), 4, "ref.go:17", #[⟨14, .data⟩, ⟨29, .data⟩], none⟩) (v := ?_) rfl (by kernel_rfl) (by kernel_rfl) (by kernel_rfl) (fun _ _ _ h => h) (Or.inl ⟨by rfl, ?_⟩) hS ?_
            rotate_left
            · intro wv _; go_simp; try with_reducible rfl
            try simp only [Act.put, List.setIfInBounds_toArray, List.set_cons_zero, List.set_cons_succ]
            refine wpAnyH_done (by kernel_rfl) ?_ _
            refine NoPanic.normal ?_
            go_wp2
            go_ret
            rw [HE.out]
            exact ⟨rfl, HB.out.trans (hS.out.mono HB.out.size)⟩
          · have c3 : decide (tk < 0) = false := by simpa using h4
            have HT0 := Lib.hid (show 0 ≤ tw by omega)
            have HT1 := Lib.hid (show 0 ≤ tk by omega)
            clear h3 h4
            by_cases h5 : 0 < i
            · have c4 : decide ((0 : Int) < (i : Int)) = true := by simpa using h5
              have c4n : decide (0 < i) = true := by simpa using h5
              obtain ⟨p, hp⟩ : ∃ p, (i - 1) / 4 = p := ⟨_, rfl⟩
              have hpi : p < i := by omega
              have hs1 : IntKind.i64.wrap ((i : Int) - 1) = (i : Int) - 1 := by rw [IntKind.wrap_i64]; omega
              have hq1 : ((i : Int) - 1).tdiv 4 = (p : Int) := by rw [Int.tdiv_eq_ediv_of_nonneg (by omega)]; omega
              have hq2 : IntKind.i64.wrap (p : Int) = (p : Int) := by rw [IntKind.wrap_i64]; omega
              have p0 : (0 : Int) ≤ (p : Int) := by omega
              have p1 : (p : Int) < (n : Int) := by omega
              obtain ⟨b2, off2, he2, _, g0, g1⟩ := Tms.look (Es.below RX.out HB.out) p (by omega)
              injection he2 with he2
              injection he2 with he2 he3
              subst he2; subst he3
              obtain ⟨⟨pw, pk⟩, hpt⟩ : ∃ x, tmAt h p = x := ⟨_, rfl⟩
              rw [hpt] at g0 g1
              simp only at g0 g1
              have G0 := Lib.hid g0; have G1 := Lib.hid g1
              have BF := Lib.hid (fun W => HF.out tw tk pw pk W)
              have PT := Lib.hid hpt
              have HPP := Lib.hid hp
              clear g0 g1 hpt hp
              by_cases hb : befT (tw, tk) (pw, pk)
              · have HE := Lib.hid (HRN.out i HLT.out (fun h8 => h8.2.2.1 h5 (by rw [HPP.out, HTI.out, PT.out]; exact hb)))
                rw [decide_eq_true hb] at BF
                replace BF := Lib.hid BF.out
                clear hb h5
                go_upto_region 6 with fail
                refine wp_region_noPanic ?_
                refine wp_region_held_drew (S := (fun wv => Hid (Below wr.heap.size wr wv))) (by kernel_rfl) (Lib.hid (Below.refl _ wr).drew) (fun hS => ?_)
                refine wpAnyH_take (i := 0) (oi := ⟨some 14, .move (.tmp 0), 22, "ref.go:17", #[], none⟩) (v := ?_) rfl (by kernel_rfl) (by kernel_rfl) (by kernel_rfl) (fun _ _ _ h => h) (Or.inl ⟨by rfl, ?_⟩) hS ?_
                rotate_left
                · intro wv _; go_simp; try with_reducible rfl
                try simp only [Act.put, List.setIfInBounds_toArray, List.set_cons_zero, List.set_cons_succ]
                refine wpAnyH_take (i := 1) (oi := ⟨some 15, .move (.tmp 3), 3, "ref.go:17", #[], none⟩) (v := ?_) rfl (by kernel_rfl) (by kernel_rfl) (by kernel_rfl) (fun _ _ _ h => h) (Or.inl ⟨by rfl, ?_⟩) hS ?_
                rotate_left
                · intro wv _; go_simp; try with_reducible rfl
                try simp only [Act.put, List.setIfInBounds_toArray, List.set_cons_zero, List.set_cons_succ]
                refine wpAnyH_take (i := 2) (oi := ⟨some 16, .indexAddr 22 (.tmp 14) (.tmp 15), 0, "ref.go:17", #[⟨0, .data⟩, ⟨1, .data⟩], none⟩) (v := ?_) rfl (by kernel_rfl) (by kernel_rfl) (by kernel_rfl) (fun _ _ _ h => h) (Or.inl ⟨by rfl, ?_⟩) hS ?_
                rotate_left
                · intro wv _; go_simp; try with_reducible rfl
                try simp only [Act.put, List.setIfInBounds_toArray, List.set_cons_zero, List.set_cons_succ]
                refine wpAnyH_take (i := 3) (oi := ⟨some 17, .fieldAddr 24 (.tmp 16) 0, 0, "ref.go:17", #[⟨2, .data⟩], none⟩) (v := ?_) rfl (by kernel_rfl) (by kernel_rfl) (by kernel_rfl) (fun _ _ _ h => h) (Or.inl ⟨by rfl, ?_⟩) hS ?_
                rotate_left
                · intro wv _; go_simp; try with_reducible rfl
                try simp only [Act.put, List.setIfInBounds_toArray, List.set_cons_zero, List.set_cons_succ]
                refine wpAnyH_take (i := 4) (oi := ⟨some 18, .load 2 (.tmp 17), 2, "ref.go:17", #[⟨3, .data⟩], none⟩) (v := ?_) rfl (by kernel_rfl) (by kernel_rfl) (by kernel_rfl) (fun _ _ _ h => h) (Or.inl ⟨by rfl, ?_⟩) hS ?_
                rotate_left
                · intro wv hS; have hrun := (hS.out.cell (p := ⟨b, off + i * 2, none⟩) HB0.out).trans K0.out; go_simp; try with_reducible rfl
                try simp only [Act.put, List.setIfInBounds_toArray, List.set_cons_zero, List.set_cons_succ]
                refine wpAnyH_take (i := 5) (oi := ⟨some 19, .binOp .lss 2 (.tmp 18) (.const (Value.int IntKind.i64 0)) 2, 4, "ref.go:17", #[⟨4, .data⟩], none⟩) (v := ?_) rfl (by kernel_rfl) (by kernel_rfl) (by kernel_rfl) (fun _ _ _ h => h) (Or.inl ⟨by rfl, ?_⟩) hS ?_
                rotate_left
                · intro wv _; go_simp; try with_reducible rfl
                try simp only [Act.put, List.setIfInBounds_toArray, List.set_cons_zero, List.set_cons_succ]
                refine wpAnyH_take (i := 6) (oi := ⟨some 20, .move (.tmp 19), 4, "ref.go:17", #[⟨5, .data⟩], none⟩) (v := ?_) rfl (by kernel_rfl) (by kernel_rfl) (by kernel_rfl) (fun _ _ _ h => h) (Or.inl ⟨by rfl, ?_⟩) hS ?_
                rotate_left
                · intro wv _; go_simp; try with_reducible rfl
                try simp only [Act.put, List.setIfInBounds_toArray, List.set_cons_zero, List.set_cons_succ]
                refine wpAnyH_take (i := 7) (oi := ⟨some 21, .move (.tmp 0), 22, "ref.go:17", #[⟨6, .guard⟩], some (6, false)⟩) (v := ?_) rfl (by kernel_rfl) (by kernel_rfl) (by kernel_rfl) (fun _ _ _ h => h) (Or.inl ⟨by rfl, ?_⟩) hS ?_
                rotate_left
                · intro wv _; go_simp; try with_reducible rfl
                try simp only [Act.put, List.setIfInBounds_toArray, List.set_cons_zero, List.set_cons_succ]
                refine wpAnyH_take (i := 8) (oi := ⟨some 22, .move (.tmp 3), 3, "ref.go:17", #[⟨6, .guard⟩], some (6, false)⟩) (v := ?_) rfl (by kernel_rfl) (by kernel_rfl) (by kernel_rfl) (fun _ _ _ h => h) (Or.inl ⟨by rfl, ?_⟩) hS ?_
                rotate_left
                · intro wv _; go_simp; try with_reducible rfl
                try simp only [Act.put, List.setIfInBounds_toArray, List.set_cons_zero, List.set_cons_succ]
                refine wpAnyH_take (i := 9) (oi := ⟨some 23, .indexAddr 22 (.tmp 21) (.tmp 22), 0, "ref.go:17", #[⟨7, .data⟩, ⟨8, .data⟩, ⟨6, .guard⟩], some (6, false)⟩) (v := ?_) rfl (by kernel_rfl) (by kernel_rfl) (by kernel_rfl) (fun _ _ _ h => h) (Or.inl ⟨by rfl, ?_⟩) hS ?_
                rotate_left
                · intro wv _; go_simp; try with_reducible rfl
                try simp only [Act.put, List.setIfInBounds_toArray, List.set_cons_zero, List.set_cons_succ]
                refine wpAnyH_take (i := 10) (oi := ⟨some 24, .fieldAddr 24 (.tmp 23) 1, 0, "ref.go:17", #[⟨9, .data⟩, ⟨6, .guard⟩], some (6, false)⟩) (v := ?_) rfl (by kernel_rfl) (by kernel_rfl) (by kernel_rfl) (fun _ _ _ h => h) (Or.inl ⟨by rfl, ?_⟩) hS ?_
                rotate_left
                · intro wv _; go_simp; try with_reducible rfl
                try simp only [Act.put, List.setIfInBounds_toArray, List.set_cons_zero, List.set_cons_succ]
                refine wpAnyH_take (i := 11) (oi := ⟨some 25, .load 3 (.tmp 24), 3, "ref.go:17", #[⟨10, .data⟩, ⟨6, .guard⟩], some (6, false)⟩) (v := ?_) rfl (by kernel_rfl) (by kernel_rfl) (by kernel_rfl) (fun _ _ _ h => h) (Or.inl ⟨by rfl, ?_⟩) hS ?_
                rotate_left
                · intro wv hS; have hrun := (hS.out.cell (p := ⟨b, off + i * 2 + 1, none⟩) HB0.out).trans K1.out; go_simp; try with_reducible rfl
                try simp only [Act.put, List.setIfInBounds_toArray, List.set_cons_zero, List.set_cons_succ]
                refine wpAnyH_take (i := 12) (oi := ⟨some 26, .binOp .lss 3 (.tmp 25) (.const (Value.int IntKind.i64 0)) 3, 4, "ref.go:17", #[⟨11, .data⟩, ⟨6, .guard⟩], some (6, false)⟩) (v := ?_) rfl (by kernel_rfl) (by kernel_rfl) (by kernel_rfl) (fun _ _ _ h => h) (Or.inl ⟨by rfl, ?_⟩) hS ?_
                rotate_left
                · intro wv _; go_simp; try with_reducible rfl
                try simp only [Act.put, List.setIfInBounds_toArray, List.set_cons_zero, List.set_cons_succ]
                refine wpAnyH_take (i := 13) (oi := ⟨some 27, .pick (.tmp 20) (.const (Value.bool true)) (.tmp 26), 4, "ref.go:17", #[⟨6, .data⟩, ⟨12, .data⟩], none⟩) (v := ?_) rfl (by kernel_rfl) (by kernel_rfl) (by kernel_rfl) (fun _ _ _ h => h) (Or.inl ⟨by rfl, ?_⟩) hS ?_
                rotate_left
                · intro wv _; go_simp; try with_reducible rfl
                try simp only [Act.put, List.setIfInBounds_toArray, List.set_cons_zero, List.set_cons_succ]
                refine wpAnyH_take (i := 14) (oi := ⟨some 28, .move (.tmp 27), 4, "ref.go:17", #[⟨13, .data⟩, ⟨6, .chain⟩], none⟩) (v := ?_) rfl (by kernel_rfl) (by kernel_rfl) (by kernel_rfl) (fun _ _ _ h => h) (Or.inl ⟨by rfl, ?_⟩) hS ?_
                rotate_left
                · intro wv _; go_simp; try with_reducible rfl
                try simp only [Act.put, List.setIfInBounds_toArray, List.set_cons_zero, List.set_cons_succ]
                refine wpAnyH_take (i := 15) (oi := ⟨some 29, .move (.tmp 3), 3, "ref.go:17", #[⟨14, .guard⟩], some (14, false)⟩) (v := ?_) rfl (by kernel_rfl) (by kernel_rfl) (by kernel_rfl) (fun _ _ _ h => h) (Or.inl ⟨by rfl, ?_⟩) hS ?_
                rotate_left
                · intro wv _; go_simp; try with_reducible rfl
                try simp only [Act.put, List.setIfInBounds_toArray, List.set_cons_zero, List.set_cons_succ]
                refine wpAnyH_take (i := 16) (oi := ⟨some 30, .binOp .gtr 3 (.tmp 29) (.const (Value.int IntKind.i64 0)) 3, 4, "ref.go:17", #[⟨15, .data⟩, ⟨14, .guard⟩], some (14, false)⟩) (v := ?_) rfl (by kernel_rfl) (by kernel_rfl) (by kernel_rfl) (fun _ _ _ h => h) (Or.inl ⟨by rfl, ?_⟩) hS ?_
                rotate_left
                · intro wv _; go_simp; try with_reducible rfl
                try simp only [Act.put, List.setIfInBounds_toArray, List.set_cons_zero, List.set_cons_succ]
                refine wpAnyH_take (i := 17) (oi := ⟨some 31, .move (.tmp 30), 4, "ref.go:17", #[⟨16, .data⟩, ⟨14, .chain⟩, ⟨14, .guard⟩], some (14, false)⟩) (v := ?_) rfl (by kernel_rfl) (by kernel_rfl) (by kernel_rfl) (fun _ _ _ h => h) (Or.inl ⟨by rfl, ?_⟩) hS ?_
                rotate_left
                · intro wv _; go_simp; try with_reducible rfl
                try simp only [Act.put, List.setIfInBounds_toArray, List.set_cons_zero, List.set_cons_succ]
                refine wpAnyH_take (i := 18) (oi := ⟨some 32, .move (.tmp 0), 22, "ref.go:17", #[⟨17, .guard⟩], some (17, true)⟩) (v := ?_) rfl (by kernel_rfl) (by kernel_rfl) (by kernel_rfl) (fun _ _ _ h => h) (Or.inl ⟨by rfl, ?_⟩) hS ?_
                rotate_left
                · intro wv _; go_simp; try with_reducible rfl
                try simp only [Act.put, List.setIfInBounds_toArray, List.set_cons_zero, List.set_cons_succ]
                refine wpAnyH_take (i := 19) (oi := ⟨some 33, .move (.tmp 3), 3, "ref.go:17", #[⟨17, .guard⟩], some (17, true)⟩) (v := ?_) rfl (by kernel_rfl) (by kernel_rfl) (by kernel_rfl) (fun _ _ _ h => h) (Or.inl ⟨by rfl, ?_⟩) hS ?_
                rotate_left
                · intro wv _; go_simp; try with_reducible rfl
                try simp only [Act.put, List.setIfInBounds_toArray, List.set_cons_zero, List.set_cons_succ]
                refine wpAnyH_take (i := 20) (oi := ⟨some 34, .indexAddr 22 (.tmp 32) (.tmp 33), 0, "ref.go:17", #[⟨18, .data⟩, ⟨19, .data⟩, ⟨17, .guard⟩], some (17, true)⟩) (v := ?_) rfl (by kernel_rfl) (by kernel_rfl) (by kernel_rfl) (fun _ _ _ h => h) (Or.inl ⟨by rfl, ?_⟩) hS ?_
                rotate_left
                · intro wv _; go_simp; try with_reducible rfl
                try simp only [Act.put, List.setIfInBounds_toArray, List.set_cons_zero, List.set_cons_succ]
                refine wpAnyH_take (i := 21) (oi := ⟨some 35, .load 24 (.tmp 34), 24, "ref.go:17", #[⟨20, .data⟩, ⟨17, .guard⟩], some (17, true)⟩) (v := .agg (([.int .i64 tw, .int .i64 tk] : List Value)).toArray) rfl (by kernel_rfl) (by kernel_rfl) (by kernel_rfl) (fun _ _ _ h => h) (yieldsIf_load_mid (by rfl) _ _ (by rfl) (b) (off + i * 2) (by rfl) (([.int .i64 tw, .int .i64 tk] : List Value)) _ (fun wv hS => tm_range ((hS.out.cell (p := ⟨b, off + i * 2, none⟩) HB0.out).trans K0.out) ((hS.out.cell (p := ⟨b, off + i * 2 + 1, none⟩) HB0.out).trans K1.out)) Try.underlying24 (by rfl) (by kernel_rfl)) hS ?_
                try simp only [Act.put, List.setIfInBounds_toArray, List.set_cons_zero, List.set_cons_succ]
                refine wpAnyH_take (i := 22) (oi := ⟨some 36, .move (.tmp 0), 22, "ref.go:17", #[⟨17, .guard⟩], some (17, true)⟩) (v := ?_) rfl (by kernel_rfl) (by kernel_rfl) (by kernel_rfl) (fun _ _ _ h => h) (Or.inl ⟨by rfl, ?_⟩) hS ?_
                rotate_left
                · intro wv _; go_simp; try with_reducible rfl
                try simp only [Act.put, List.setIfInBounds_toArray, List.set_cons_zero, List.set_cons_succ]
                refine wpAnyH_take (i := 23) (oi := ⟨some 37, .move (.tmp 3), 3, "ref.go:17", #[⟨17, .guard⟩], some (17, true)⟩) (v := ?_) rfl (by kernel_rfl) (by kernel_rfl) (by kernel_rfl) (fun _ _ _ h => h) (Or.inl ⟨by rfl, ?_⟩) hS ?_
                rotate_left
                · intro wv _; go_simp; try with_reducible rfl
                try simp only [Act.put, List.setIfInBounds_toArray, List.set_cons_zero, List.set_cons_succ]
                refine wpAnyH_take (i := 24) (oi := ⟨some 38, .binOp .sub 3 (.tmp 37) (.const (Value.int IntKind.i64 1)) 3, 3, "ref.go:17", #[⟨23, .data⟩, ⟨17, .guard⟩], some (17, true)⟩) (v := ?_) rfl (by kernel_rfl) (by kernel_rfl) (by kernel_rfl) (fun _ _ _ h => h) (Or.inl ⟨by rfl, ?_⟩) hS ?_
                rotate_left
                · intro wv _; go_simp; try with_reducible rfl
                try simp only [Act.put, List.setIfInBounds_toArray, List.set_cons_zero, List.set_cons_succ]
                refine wpAnyH_take (i := 25) (oi := ⟨some 39, .binOp .quo 3 (.tmp 38) (.const (Value.int IntKind.i64 4)) 3, 3, "ref.go:17", #[⟨24, .data⟩, ⟨17, .guard⟩], some (17, true)⟩) (v := ?_) rfl (by kernel_rfl) (by kernel_rfl) (by kernel_rfl) (fun _ _ _ h => h) (Or.inl ⟨by rfl, ?_⟩) hS ?_
                rotate_left
                · intro wv _; go_simp; try with_reducible rfl
                try simp only [Act.put, List.setIfInBounds_toArray, List.set_cons_zero, List.set_cons_succ]
                refine wpAnyH_take (i := 26) (oi := ⟨some 40, .indexAddr 22 (.tmp 36) (.tmp 39), 0, "ref.go:17", #[⟨22, .data⟩, ⟨25, .data⟩, ⟨17, .guard⟩], some (17, true)⟩) (v := ?_) rfl (by kernel_rfl) (by kernel_rfl) (by kernel_rfl) (fun _ _ _ h => h) (Or.inl ⟨by rfl, ?_⟩) hS ?_
                rotate_left
                · intro wv _; go_simp; try with_reducible rfl
                try simp only [Act.put, List.setIfInBounds_toArray, List.set_cons_zero, List.set_cons_succ]
                refine wpAnyH_take (i := 27) (oi := ⟨some 41, .load 24 (.tmp 40), 24, "ref.go:17", #[⟨26, .data⟩, ⟨17, .guard⟩], some (17, true)⟩) (v := .agg (([.int .i64 pw, .int .i64 pk] : List Value)).toArray) rfl (by kernel_rfl) (by kernel_rfl) (by kernel_rfl) (fun _ _ _ h => h) (yieldsIf_load_mid (by rfl) _ _ (by rfl) (b) (off + p * 2) (by rfl) (([.int .i64 pw, .int .i64 pk] : List Value)) _ (fun wv hS => tm_range ((hS.out.cell (p := ⟨b, off + p * 2, none⟩) HB0.out).trans G0.out) ((hS.out.cell (p := ⟨b, off + p * 2 + 1, none⟩) HB0.out).trans G1.out)) Try.underlying24 (by rfl) (by kernel_rfl)) hS ?_
                try simp only [Act.put, List.setIfInBounds_toArray, List.set_cons_zero, List.set_cons_succ]
                refine wpAnyH_ready (rs := [28]) (by kernel_rfl) (by simp) (AllReadyH.cons (o := ⟨some 42, .call { callee := .value (.func 23), args := #[.tmp 35, .tmp 41], argTypes := #[24, 24] }, 4, "ref.go:17", #[⟨21, .data⟩, ⟨27, .data⟩, ⟨17, .chain⟩, ⟨17, .guard⟩], some (17, true)⟩) rfl (fun K hK => ?_) AllReadyH.nil)
                go_simp
                refine (BF.out _).mono ?_; rintro e wa ⟨rfl, hbb⟩
                replace hS := Lib.hid (hS.out.trans (hbb.mono hS.out.size))
                clear hbb
                go_wp2_with fail
                refine Shut.out hK _ _ hS (fun _ => ?_)
                clear hK K
                try simp only [Act.put, List.setIfInBounds_toArray, List.set_cons_zero, List.set_cons_succ]
                refine wpAnyH_take (i := 29) (oi := ⟨some 43, .pick (.tmp 31) (.tmp 42) (.const (Value.bool false)), 4, "ref.go:17", #[⟨17, .data⟩, ⟨28, .data⟩, ⟨14, .guard⟩], some (14, false)⟩) (v := ?_) rfl (by kernel_rfl) (by kernel_rfl) (by kernel_rfl) (fun _ _ _ h => h) (Or.inl ⟨by rfl, ?_⟩) hS ?_
                rotate_left
                · intro wv _; go_simp; try with_reducible rfl
                try simp only [Act.put, List.setIfInBounds_toArray, List.set_cons_zero, List.set_cons_succ]
                refine wpAnyH_take (i := 30) (oi := ⟨some 44, .pick (.tmp 28) (.const (Value.bool true)) (.tmp 43), 4, "ref.go:17", #[⟨14, .data⟩, ⟨29, .data⟩], none⟩) (v := ?_) rfl (by kernel_rfl) (by kernel_rfl) (by kernel_rfl) (fun _ _ _ h => h) (Or.inl ⟨by rfl, ?_⟩) hS ?_
                rotate_left
                · intro wv _; go_simp; try with_reducible rfl
                try simp only [Act.put, List.setIfInBounds_toArray, List.set_cons_zero, List.set_cons_succ]
                refine wpAnyH_done (by kernel_rfl) ?_ _
                refine NoPanic.normal ?_
                go_wp2
                go_ret
                rw [HE.out]
                exact ⟨rfl, HB.out.trans (hS.out.mono HB.out.size)⟩
              · have HPB := Lib.hid (show 0 < i → ¬ befT (tw, tk) (tmAt h ((i - 1) / 4)) from fun _ => by rw [HPP.out, PT.out]; exact hb)
                rw [decide_eq_false hb] at BF
                replace BF := Lib.hid BF.out
                clear hb h5
                go_upto_region 6 with fail
                refine wp_region_noPanic ?_
                refine wp_region_held_drew (S := (fun wv => Hid (Below wr.heap.size wr wv))) (by kernel_rfl) (Lib.hid (Below.refl _ wr).drew) (fun hS => ?_)
                refine wpAnyH_take (i := 0) (oi := ⟨some 14, .move (.tmp 0), 22, "ref.go:17", #[], none⟩) (v := ?_) rfl (by kernel_rfl) (by kernel_rfl) (by kernel_rfl) (fun _ _ _ h => h) (Or.inl ⟨by rfl, ?_⟩) hS ?_
                rotate_left
                · intro wv _; go_simp; try with_reducible rfl
                try simp only [Act.put, List.setIfInBounds_toArray, List.set_cons_zero, List.set_cons_succ]
                refine wpAnyH_take (i := 1) (oi := ⟨some 15, .move (.tmp 3), 3, "ref.go:17", #[], none⟩) (v := ?_) rfl (by kernel_rfl) (by kernel_rfl) (by kernel_rfl) (fun _ _ _ h => h) (Or.inl ⟨by rfl, ?_⟩) hS ?_
                rotate_left
                · intro wv _; go_simp; try with_reducible rfl
                try simp only [Act.put, List.setIfInBounds_toArray, List.set_cons_zero, List.set_cons_succ]
                refine wpAnyH_take (i := 2) (oi := ⟨some 16, .indexAddr 22 (.tmp 14) (.tmp 15), 0, "ref.go:17", #[⟨0, .data⟩, ⟨1, .data⟩], none⟩) (v := ?_) rfl (by kernel_rfl) (by kernel_rfl) (by kernel_rfl) (fun _ _ _ h => h) (Or.inl ⟨by rfl, ?_⟩) hS ?_
                rotate_left
                · intro wv _; go_simp; try with_reducible rfl
                try simp only [Act.put, List.setIfInBounds_toArray, List.set_cons_zero, List.set_cons_succ]
                refine wpAnyH_take (i := 3) (oi := ⟨some 17, .fieldAddr 24 (.tmp 16) 0, 0, "ref.go:17", #[⟨2, .data⟩], none⟩) (v := ?_) rfl (by kernel_rfl) (by kernel_rfl) (by kernel_rfl) (fun _ _ _ h => h) (Or.inl ⟨by rfl, ?_⟩) hS ?_
                rotate_left
                · intro wv _; go_simp; try with_reducible rfl
                try simp only [Act.put, List.setIfInBounds_toArray, List.set_cons_zero, List.set_cons_succ]
                refine wpAnyH_take (i := 4) (oi := ⟨some 18, .load 2 (.tmp 17), 2, "ref.go:17", #[⟨3, .data⟩], none⟩) (v := ?_) rfl (by kernel_rfl) (by kernel_rfl) (by kernel_rfl) (fun _ _ _ h => h) (Or.inl ⟨by rfl, ?_⟩) hS ?_
                rotate_left
                · intro wv hS; have hrun := (hS.out.cell (p := ⟨b, off + i * 2, none⟩) HB0.out).trans K0.out; go_simp; try with_reducible rfl
                try simp only [Act.put, List.setIfInBounds_toArray, List.set_cons_zero, List.set_cons_succ]
                refine wpAnyH_take (i := 5) (oi := ⟨some 19, .binOp .lss 2 (.tmp 18) (.const (Value.int IntKind.i64 0)) 2, 4, "ref.go:17", #[⟨4, .data⟩], none⟩) (v := ?_) rfl (by kernel_rfl) (by kernel_rfl) (by kernel_rfl) (fun _ _ _ h => h) (Or.inl ⟨by rfl, ?_⟩) hS ?_
                rotate_left
                · intro wv _; go_simp; try with_reducible rfl
                try simp only [Act.put, List.setIfInBounds_toArray, List.set_cons_zero, List.set_cons_succ]
                refine wpAnyH_take (i := 6) (oi := ⟨some 20, .move (.tmp 19), 4, "ref.go:17", #[⟨5, .data⟩], none⟩) (v := ?_) rfl (by kernel_rfl) (by kernel_rfl) (by kernel_rfl) (fun _ _ _ h => h) (Or.inl ⟨by rfl, ?_⟩) hS ?_
                rotate_left
                · intro wv _; go_simp; try with_reducible rfl
                try simp only [Act.put, List.setIfInBounds_toArray, List.set_cons_zero, List.set_cons_succ]
                refine wpAnyH_take (i := 7) (oi := ⟨some 21, .move (.tmp 0), 22, "ref.go:17", #[⟨6, .guard⟩], some (6, false)⟩) (v := ?_) rfl (by kernel_rfl) (by kernel_rfl) (by kernel_rfl) (fun _ _ _ h => h) (Or.inl ⟨by rfl, ?_⟩) hS ?_
                rotate_left
                · intro wv _; go_simp; try with_reducible rfl
                try simp only [Act.put, List.setIfInBounds_toArray, List.set_cons_zero, List.set_cons_succ]
                refine wpAnyH_take (i := 8) (oi := ⟨some 22, .move (.tmp 3), 3, "ref.go:17", #[⟨6, .guard⟩], some (6, false)⟩) (v := ?_) rfl (by kernel_rfl) (by kernel_rfl) (by kernel_rfl) (fun _ _ _ h => h) (Or.inl ⟨by rfl, ?_⟩) hS ?_
                rotate_left
                · intro wv _; go_simp; try with_reducible rfl
                try simp only [Act.put, List.setIfInBounds_toArray, List.set_cons_zero, List.set_cons_succ]
                refine wpAnyH_take (i := 9) (oi := ⟨some 23, .indexAddr 22 (.tmp 21) (.tmp 22), 0, "ref.go:17", #[⟨7, .data⟩, ⟨8, .data⟩, ⟨6, .guard⟩], some (6, false)⟩) (v := ?_) rfl (by kernel_rfl) (by kernel_rfl) (by kernel_rfl) (fun _ _ _ h => h) (Or.inl ⟨by rfl, ?_⟩) hS ?_
                rotate_left
                · intro wv _; go_simp; try with_reducible rfl
                try simp only [Act.put, List.setIfInBounds_toArray, List.set_cons_zero, List.set_cons_succ]
                refine wpAnyH_take (i := 10) (oi := ⟨some 24, .fieldAddr 24 (.tmp 23) 1, 0, "ref.go:17", #[⟨9, .data⟩, ⟨6, .guard⟩], some (6, false)⟩) (v := ?_) rfl (by kernel_rfl) (by kernel_rfl) (by kernel_rfl) (fun _ _ _ h => h) (Or.inl ⟨by rfl, ?_⟩) hS ?_
                rotate_left
                · intro wv _; go_simp; try with_reducible rfl
                try simp only [Act.put, List.setIfInBounds_toArray, List.set_cons_zero, List.set_cons_succ]
                refine wpAnyH_take (i := 11) (oi := ⟨some 25, .load 3 (.tmp 24), 3, "ref.go:17", #[⟨10, .data⟩, ⟨6, .guard⟩], some (6, false)⟩) (v := ?_) rfl (by kernel_rfl) (by kernel_rfl) (by kernel_rfl) (fun _ _ _ h => h) (Or.inl ⟨by rfl, ?_⟩) hS ?_
                rotate_left
                · intro wv hS; have hrun := (hS.out.cell (p := ⟨b, off + i * 2 + 1, none⟩) HB0.out).trans K1.out; go_simp; try with_reducible rfl
                try simp only [Act.put, List.setIfInBounds_toArray, List.set_cons_zero, List.set_cons_succ]
                refine wpAnyH_take (i := 12) (oi := ⟨some 26, .binOp .lss 3 (.tmp 25) (.const (Value.int IntKind.i64 0)) 3, 4, "ref.go:17", #[⟨11, .data⟩, ⟨6, .guard⟩], some (6, false)⟩) (v := ?_) rfl (by kernel_rfl) (by kernel_rfl) (by kernel_rfl) (fun _ _ _ h => h) (Or.inl ⟨by rfl, ?_⟩) hS ?_
                rotate_left
                · intro wv _; go_simp; try with_reducible rfl
                try simp only [Act.put, List.setIfInBounds_toArray, List.set_cons_zero, List.set_cons_succ]
                refine wpAnyH_take (i := 13) (oi := ⟨some 27, .pick (.tmp 20) (.const (Value.bool true)) (.tmp 26), 4, "ref.go:17", #[⟨6, .data⟩, ⟨12, .data⟩], none⟩) (v := ?_) rfl (by kernel_rfl) (by kernel_rfl) (by kernel_rfl) (fun _ _ _ h => h) (Or.inl ⟨by rfl, ?_⟩) hS ?_
                rotate_left
                · intro wv _; go_simp; try with_reducible rfl
                try simp only [Act.put, List.setIfInBounds_toArray, List.set_cons_zero, List.set_cons_succ]
                refine wpAnyH_take (i := 14) (oi := ⟨some 28, .move (.tmp 27), 4, "ref.go:17", #[⟨13, .data⟩, ⟨6, .chain⟩], none⟩) (v := ?_) rfl (by kernel_rfl) (by kernel_rfl) (by kernel_rfl) (fun _ _ _ h => h) (Or.inl ⟨by rfl, ?_⟩) hS ?_
                rotate_left
                · intro wv _; go_simp; try with_reducible rfl
                try simp only [Act.put, List.setIfInBounds_toArray, List.set_cons_zero, List.set_cons_succ]
                refine wpAnyH_take (i := 15) (oi := ⟨some 29, .move (.tmp 3), 3, "ref.go:17", #[⟨14, .guard⟩], some (14, false)⟩) (v := ?_) rfl (by kernel_rfl) (by kernel_rfl) (by kernel_rfl) (fun _ _ _ h => h) (Or.inl ⟨by rfl, ?_⟩) hS ?_
                rotate_left
                · intro wv _; go_simp; try with_reducible rfl
                try simp only [Act.put, List.setIfInBounds_toArray, List.set_cons_zero, List.set_cons_succ]
                refine wpAnyH_take (i := 16) (oi := ⟨some 30, .binOp .gtr 3 (.tmp 29) (.const (Value.int IntKind.i64 0)) 3, 4, "ref.go:17", #[⟨15, .data⟩, ⟨14, .guard⟩], some (14, false)⟩) (v := ?_) rfl (by kernel_rfl) (by kernel_rfl) (by kernel_rfl) (fun _ _ _ h => h) (Or.inl ⟨by rfl, ?_⟩) hS ?_
                rotate_left
                · intro wv _; go_simp; try with_reducible rfl
                try simp only [Act.put, List.setIfInBounds_toArray, List.set_cons_zero, List.set_cons_succ]
                refine wpAnyH_take (i := 17) (oi := ⟨some 31, .move (.tmp 30), 4, "ref.go:17", #[⟨16, .data⟩, ⟨14, .chain⟩, ⟨14, .guard⟩], some (14, false)⟩) (v := ?_) rfl (by kernel_rfl) (by kernel_rfl) (by kernel_rfl) (fun _ _ _ h => h) (Or.inl ⟨by rfl, ?_⟩) hS ?_
                rotate_left
                · intro wv _; go_simp; try with_reducible rfl
                try simp only [Act.put, List.setIfInBounds_toArray, List.set_cons_zero, List.set_cons_succ]
                refine wpAnyH_take (i := 18) (oi := ⟨some 32, .move (.tmp 0), 22, "ref.go:17", #[⟨17, .guard⟩], some (17, true)⟩) (v := ?_) rfl (by kernel_rfl) (by kernel_rfl) (by kernel_rfl) (fun _ _ _ h => h) (Or.inl ⟨by rfl, ?_⟩) hS ?_
                rotate_left
                · intro wv _; go_simp; try with_reducible rfl
                try simp only [Act.put, List.setIfInBounds_toArray, List.set_cons_zero, List.set_cons_succ]
                refine wpAnyH_take (i := 19) (oi := ⟨some 33, .move (.tmp 3), 3, "ref.go:17", #[⟨17, .guard⟩], some (17, true)⟩) (v := ?_) rfl (by kernel_rfl) (by kernel_rfl) (by kernel_rfl) (fun _ _ _ h => h) (Or.inl ⟨by rfl, ?_⟩) hS ?_
                rotate_left
                · intro wv _; go_simp; try with_reducible rfl
                try simp only [Act.put, List.setIfInBounds_toArray, List.set_cons_zero, List.set_cons_succ]
                refine wpAnyH_take (i := 20) (oi := ⟨some 34, .indexAddr 22 (.tmp 32) (.tmp 33), 0, "ref.go:17", #[⟨18, .data⟩, ⟨19, .data⟩, ⟨17, .guard⟩], some (17, true)⟩) (v := ?_) rfl (by kernel_rfl) (by kernel_rfl) (by kernel_rfl) (fun _ _ _ h => h) (Or.inl ⟨by rfl, ?_⟩) hS ?_
                rotate_left
                · intro wv _; go_simp; try with_reducible rfl
                try simp only [Act.put, List.setIfInBounds_toArray, List.set_cons_zero, List.set_cons_succ]
                refine wpAnyH_take (i := 21) (oi := ⟨some 35, .load 24 (.tmp 34), 24, "ref.go:17", #[⟨20, .data⟩, ⟨17, .guard⟩], some (17, true)⟩) (v := .agg (([.int .i64 tw, .int .i64 tk] : List Value)).toArray) rfl (by kernel_rfl) (by kernel_rfl) (by kernel_rfl) (fun _ _ _ h => h) (yieldsIf_load_mid (by rfl) _ _ (by rfl) (b) (off + i * 2) (by rfl) (([.int .i64 tw, .int .i64 tk] : List Value)) _ (fun wv hS => tm_range ((hS.out.cell (p := ⟨b, off + i * 2, none⟩) HB0.out).trans K0.out) ((hS.out.cell (p := ⟨b, off + i * 2 + 1, none⟩) HB0.out).trans K1.out)) Try.underlying24 (by rfl) (by kernel_rfl)) hS ?_
                try simp only [Act.put, List.setIfInBounds_toArray, List.set_cons_zero, List.set_cons_succ]
                refine wpAnyH_take (i := 22) (oi := ⟨some 36, .move (.tmp 0), 22, "ref.go:17", #[⟨17, .guard⟩], some (17, true)⟩) (v := ?_) rfl (by kernel_rfl) (by kernel_rfl) (by kernel_rfl) (fun _ _ _ h => h) (Or.inl ⟨by rfl, ?_⟩) hS ?_
                rotate_left
                · intro wv _; go_simp; try with_reducible rfl
                try simp only [Act.put, List.setIfInBounds_toArray, List.set_cons_zero, List.set_cons_succ]
                refine wpAnyH_take (i := 23) (oi := ⟨some 37, .move (.tmp 3), 3, "ref.go:17", #[⟨17, .guard⟩], some (17, true)⟩) (v := ?_) rfl (by kernel_rfl) (by kernel_rfl) (by kernel_rfl) (fun _ _ _ h => h) (Or.inl ⟨by rfl, ?_⟩) hS ?_
                rotate_left
                · intro wv _; go_simp; try with_reducible rfl
                try simp only [Act.put, List.setIfInBounds_toArray, List.set_cons_zero, List.set_cons_succ]
                refine wpAnyH_take (i := 24) (oi := ⟨some 38, .binOp .sub 3 (.tmp 37) (.const (Value.int IntKind.i64 1)) 3, 3, "ref.go:17", #[⟨23, .data⟩, ⟨17, .guard⟩], some (17, true)⟩) (v := ?_) rfl (by kernel_rfl) (by kernel_rfl) (by kernel_rfl) (fun _ _ _ h => h) (Or.inl ⟨by rfl, ?_⟩) hS ?_
                rotate_left
                · intro wv _; go_simp; try with_reducible rfl
                try simp only [Act.put, List.setIfInBounds_toArray, List.set_cons_zero, List.set_cons_succ]
                refine wpAnyH_take (i := 25) (oi := ⟨some 39, .binOp .quo 3 (.tmp 38) (.const (Value.int IntKind.i64 4)) 3, 3, "ref.go:17", #[⟨24, .data⟩, ⟨17, .guard⟩], some (17, true)⟩) (v := ?_) rfl (by kernel_rfl) (by kernel_rfl) (by kernel_rfl) (fun _ _ _ h => h) (Or.inl ⟨by rfl, ?_⟩) hS ?_
                rotate_left
                · intro wv _; go_simp; try with_reducible rfl
                try simp only [Act.put, List.setIfInBounds_toArray, List.set_cons_zero, List.set_cons_succ]
                refine wpAnyH_take (i := 26) (oi := ⟨some 40, .indexAddr 22 (.tmp 36) (.tmp 39), 0, "ref.go:17", #[⟨22, .data⟩, ⟨25, .data⟩, ⟨17, .guard⟩], some (17, true)⟩) (v := ?_) rfl (by kernel_rfl) (by kernel_rfl) (by kernel_rfl) (fun _ _ _ h => h) (Or.inl ⟨by rfl, ?_⟩) hS ?_
                rotate_left
                · intro wv _; go_simp; try with_reducible rfl
                try simp only [Act.put, List.setIfInBounds_toArray, List.set_cons_zero, List.set_cons_succ]
                refine wpAnyH_take (i := 27) (oi := ⟨some 41, .load 24 (.tmp 40), 24, "ref.go:17", #[⟨26, .data⟩, ⟨17, .guard⟩], some (17, true)⟩) (v := .agg (([.int .i64 pw, .int .i64 pk] : List Value)).toArray) rfl (by kernel_rfl) (by kernel_rfl) (by kernel_rfl) (fun _ _ _ h => h) (yieldsIf_load_mid (by rfl) _ _ (by rfl) (b) (off + p * 2) (by rfl) (([.int .i64 pw, .int .i64 pk] : List Value)) _ (fun wv hS => tm_range ((hS.out.cell (p := ⟨b, off + p * 2, none⟩) HB0.out).trans G0.out) ((hS.out.cell (p := ⟨b, off + p * 2 + 1, none⟩) HB0.out).trans G1.out)) Try.underlying24 (by rfl) (by kernel_rfl)) hS ?_
                try simp only [Act.put, List.setIfInBounds_toArray, List.set_cons_zero, List.set_cons_succ]
                refine wpAnyH_ready (rs := [28]) (by kernel_rfl) (by simp) (AllReadyH.cons (o := ⟨some 42, .call { callee := .value (.func 23), args := #[.tmp 35, .tmp 41], argTypes := #[24, 24] }, 4, "ref.go:17", #[⟨21, .data⟩, ⟨27, .data⟩, ⟨17, .chain⟩, ⟨17, .guard⟩], some (17, true)⟩) rfl (fun K hK => ?_) AllReadyH.nil)
                go_simp
                refine (BF.out _).mono ?_; rintro e wa ⟨rfl, hbb⟩
                replace hS := Lib.hid (hS.out.trans (hbb.mono hS.out.size))
                clear hbb
                go_wp2_with fail
                refine Shut.out hK _ _ hS (fun _ => ?_)
                clear hK K
                try simp only [Act.put, List.setIfInBounds_toArray, List.set_cons_zero, List.set_cons_succ]
                refine wpAnyH_take (i := 29) (oi := ⟨some 43, .pick (.tmp 31) (.tmp 42) (.const (Value.bool false)), 4, "ref.go:17", #[⟨17, .data⟩, ⟨28, .data⟩, ⟨14, .guard⟩], some (14, false)⟩) (v := ?_) rfl (by kernel_rfl) (by kernel_rfl) (by kernel_rfl) (fun _ _ _ h => h) (Or.inl ⟨by rfl, ?_⟩) hS ?_
                rotate_left
                · intro wv _; go_simp; try with_reducible rfl
                try simp only [Act.put, List.setIfInBounds_toArray, List.set_cons_zero, List.set_cons_succ]
                refine wpAnyH_take (i := 30) (oi := ⟨some 44, .pick (.tmp 28) (.const (Value.bool true)) (.tmp 43), 4, "ref.go:17", #[⟨14, .data⟩, ⟨29, .data⟩], none⟩) (v := ?_) rfl (by kernel_rfl) (by kernel_rfl) (by kernel_rfl) (fun _ _ _ h => h) (Or.inl ⟨by rfl, ?_⟩) hS ?_
                rotate_left
                · intro wv _; go_simp; try with_reducible rfl
                try simp only [Act.put, List.setIfInBounds_toArray, List.set_cons_zero, List.set_cons_succ]
                refine wpAnyH_done (by kernel_rfl) ?_ _
                refine NoPanic.normal ?_
                have HB2 := Lib.hid (HB.out.trans (hS.out.mono HB.out.size))
                clear HB hS HB0 K0 K1
                go_wp2
                obtain ⟨wo, hwo⟩ : ∃ x, x = wr := ⟨_, rfl⟩
                subst hwo
                go_loopw [4] (fun kv wr => ∃ (k : Nat), kv = .int .i64 (k : Int) ∧ k ≤ i ∧ Hid (∀ j : Nat, j < k → (tmAt h j).2 ≠ tk) ∧ Hid (Below w.heap.size w wr)) (fun kv _ => i - (intOf kv).toNat)
                case atStart => exact ⟨0, rfl, by omega, fun j hj => by omega, HB2.out⟩
                case round =>
                  clear HB2
                  obtain ⟨k, rfl, hk, HK, HB⟩ := hrel
                  by_cases hkl : k < i
                  · have d1 : decide ((k : Int) < (i : Int)) = true := by simpa using hkl
                    have kk0 : (0 : Int) ≤ (k : Int) := by omega
                    have kk1 : (k : Int) < (n : Int) := by omega
                    obtain ⟨b3, off3, he3, _, e0, e1⟩ := Tms.look (Es.below RX.out HB.out) i HLT.out
                    injection he3 with he3
                    injection he3 with he3 he4
                    subst he3; subst he4
                    rw [HTI.out] at e0 e1
                    simp only at e0 e1
                    obtain ⟨b2, off2, he2, _, g0, g1⟩ := Tms.look (Es.below RX.out HB.out) k (by have := HLT.out; omega)
                    injection he2 with he2
                    injection he2 with he2 he3
                    subst he2; subst he3
                    obtain ⟨⟨uw, uk⟩, huk⟩ : ∃ x, tmAt h k = x := ⟨_, rfl⟩
                    rw [huk] at g0 g1
                    simp only at g0 g1
                    by_cases h7 : uk = tk
                    · have d2 : (uk == tk) = true := by simp [h7]
                      have HE := Lib.hid (HRN.out i HLT.out (fun h8 => by
                        have h9 := h8.2.2.2 k hkl
                        rw [HTI.out, huk] at h9
                        exact h9 h7))
                      clear h7 huk
                      go_wp2
                      go_quiet (fail)
                      go_wp2
                      go_ret
                      rw [HE.out]
                      exact ⟨rfl, bel_drewN HB.out _⟩
                    · have d2 : (uk == tk) = false := by simp [h7]
                      have HK2 := Lib.hid (show ∀ j : Nat, j < k + 1 → (tmAt h j).2 ≠ tk from fun j hj => by
                        rcases Nat.lt_or_ge j k with h8 | h8
                        · exact HK.out j h8
                        · have : j = k := by omega
                          subst this; rw [huk]; exact h7)
                      clear h7 huk HK
                      go_wp2
                      go_quiet (fail)
                      go_wp2
                      go_roundw
                      case rel => exact ⟨k + 1, by go_num, by omega, HK2.out, bel_drewN HB.out _⟩
                      case measure => simp [intOf]; omega
                  · have ek : k = i := by omega
                    have d1 : decide ((k : Int) < (i : Int)) = false := by simp; omega
                    have d1n : decide (k < i) = false := by simp; omega
                    have HOK2 := Lib.hid (show okTs h (i + 1) from fun j hj => by
                      rcases Nat.lt_or_ge j i with h8 | h8
                      · exact HOK.out j h8
                      · have : j = i := by omega
                        subst this
                        refine ⟨?_, ?_, fun h9 => ?_, fun k2 hk2 => ?_⟩
                        · rw [HTI.out]; exact HT0.out
                        · rw [HTI.out]; exact HT1.out
                        · rw [HTI.out]; exact HPB.out h9
                        · have h9 := HK.out k2 (by omega); rw [HTI.out]; exact h9)
                    have HLI := HLT.out
                    clear ek hkl hk HK
                    go_wp2
                    go_roundw
                    case rel => exact ⟨i + 1, by go_num, by omega, HOK2.out, HB.out⟩
                    case measure => simp [intOf]; omega
            · have c4 : decide ((0 : Int) < (i : Int)) = false := by simpa using h5
              have c4n : decide (0 < i) = false := by simpa using h5
              have HPB := Lib.hid (show 0 < i → ¬ befT (tw, tk) (tmAt h ((i - 1) / 4)) from fun h9 => absurd h9 h5)
              clear h5
              go_upto_region 6 with fail
              refine wp_region_noPanic ?_
              refine wp_region_held_drew (S := (fun wv => Hid (Below wr.heap.size wr wv))) (by kernel_rfl) (Lib.hid (Below.refl _ wr).drew) (fun hS => ?_)
              refine wpAnyH_take (i := 0) (oi := ⟨some 14, .move (.tmp 0), 22, "ref.go:17", #[], none⟩) (v := ?_) rfl (by kernel_rfl) (by kernel_rfl) (by kernel_rfl) (fun _ _ _ h => h) (Or.inl ⟨by rfl, ?_⟩) hS ?_
              rotate_left
              · intro wv _; go_simp; try with_reducible rfl
              try simp only [Act.put, List.setIfInBounds_toArray, List.set_cons_zero, List.set_cons_succ]
              refine wpAnyH_take (i := 1) (oi := ⟨some 15, .move (.tmp 3), 3, "ref.go:17", #[], none⟩) (v := ?_) rfl (by kernel_rfl) (by kernel_rfl) (by kernel_rfl) (fun _ _ _ h => h) (Or.inl ⟨by rfl, ?_⟩) hS ?_
              rotate_left
              · intro wv _; go_simp; try with_reducible rfl
              try simp only [Act.put, List.setIfInBounds_toArray, List.set_cons_zero, List.set_cons_succ]
              refine wpAnyH_take (i := 2) (oi := ⟨some 16, .indexAddr 22 (.tmp 14) (.tmp 15), 0, "ref.go:17", #[⟨0, .data⟩, ⟨1, .data⟩], none⟩) (v := ?_) rfl (by kernel_rfl) (by kernel_rfl) (by kernel_rfl) (fun _ _ _ h => h) (Or.inl ⟨by rfl, ?_⟩) hS ?_
              rotate_left
              · intro wv _; go_simp; try with_reducible rfl
              try simp only [Act.put, List.setIfInBounds_toArray, List.set_cons_zero, List.set_cons_succ]
              refine wpAnyH_take (i := 3) (oi := ⟨some 17, .fieldAddr 24 (.tmp 16) 0, 0, "ref.go:17", #[⟨2, .data⟩], none⟩) (v := ?_) rfl (by kernel_rfl) (by kernel_rfl) (by kernel_rfl) (fun _ _ _ h => h) (Or.inl ⟨by rfl, ?_⟩) hS ?_
              rotate_left
              · intro wv _; go_simp; try with_reducible rfl
              try simp only [Act.put, List.setIfInBounds_toArray, List.set_cons_zero, List.set_cons_succ]
              refine wpAnyH_take (i := 4) (oi := ⟨some 18, .load 2 (.tmp 17), 2, "ref.go:17", #[⟨3, .data⟩], none⟩) (v := ?_) rfl (by kernel_rfl) (by kernel_rfl) (by kernel_rfl) (fun _ _ _ h => h) (Or.inl ⟨by rfl, ?_⟩) hS ?_
              rotate_left
              · intro wv hS; have hrun := (hS.out.cell (p := ⟨b, off + i * 2, none⟩) HB0.out).trans K0.out; go_simp; try with_reducible rfl
              try simp only [Act.put, List.setIfInBounds_toArray, List.set_cons_zero, List.set_cons_succ]
              refine wpAnyH_take (i := 5) (oi := ⟨some 19, .binOp .lss 2 (.tmp 18) (.const (Value.int IntKind.i64 0)) 2, 4, "ref.go:17", #[⟨4, .data⟩], none⟩) (v := ?_) rfl (by kernel_rfl) (by kernel_rfl) (by kernel_rfl) (fun _ _ _ h => h) (Or.inl ⟨by rfl, ?_⟩) hS ?_
              rotate_left
              · intro wv _; go_simp; try with_reducible rfl
              try simp only [Act.put, List.setIfInBounds_toArray, List.set_cons_zero, List.set_cons_succ]
              refine wpAnyH_take (i := 6) (oi := ⟨some 20, .move (.tmp 19), 4, "ref.go:17", #[⟨5, .data⟩], none⟩) (v := ?_) rfl (by kernel_rfl) (by kernel_rfl) (by kernel_rfl) (fun _ _ _ h => h) (Or.inl ⟨by rfl, ?_⟩) hS ?_
              rotate_left
              · intro wv _; go_simp; try with_reducible rfl
              try simp only [Act.put, List.setIfInBounds_toArray, List.set_cons_zero, List.set_cons_succ]
              refine wpAnyH_take (i := 7) (oi := ⟨some 21, .move (.tmp 0), 22, "ref.go:17", #[⟨6, .guard⟩], some (6, false)⟩) (v := ?_) rfl (by kernel_rfl) (by kernel_rfl) (by kernel_rfl) (fun _ _ _ h => h) (Or.inl ⟨by rfl, ?_⟩) hS ?_
              rotate_left
              · intro wv _; go_simp; try with_reducible rfl
              try simp only [Act.put, List.setIfInBounds_toArray, List.set_cons_zero, List.set_cons_succ]
              refine wpAnyH_take (i := 8) (oi := ⟨some 22, .move (.tmp 3), 3, "ref.go:17", #[⟨6, .guard⟩], some (6, false)⟩) (v := ?_) rfl (by kernel_rfl) (by kernel_rfl) (by kernel_rfl) (fun _ _ _ h => h) (Or.inl ⟨by rfl, ?_⟩) hS ?_
              rotate_left
              · intro wv _; go_simp; try with_reducible rfl
              try simp only [Act.put, List.setIfInBounds_toArray, List.set_cons_zero, List.set_cons_succ]
              refine wpAnyH_take (i := 9) (oi := ⟨some 23, .indexAddr 22 (.tmp 21) (.tmp 22), 0, "ref.go:17", #[⟨7, .data⟩, ⟨8, .data⟩, ⟨6, .guard⟩], some (6, false)⟩) (v := ?_) rfl (by kernel_rfl) (by kernel_rfl) (by kernel_rfl) (fun _ _ _ h => h) (Or.inl ⟨by rfl, ?_⟩) hS ?_
              rotate_left
              · intro wv _; go_simp; try with_reducible rfl
              try simp only [Act.put, List.setIfInBounds_toArray, List.set_cons_zero, List.set_cons_succ]
              refine wpAnyH_take (i := 10) (oi := ⟨some 24, .fieldAddr 24 (.tmp 23) 1, 0, "ref.go:17", #[⟨9, .data⟩, ⟨6, .guard⟩], some (6, false)⟩) (v := ?_) rfl (by kernel_rfl) (by kernel_rfl) (by kernel_rfl) (fun _ _ _ h => h) (Or.inl ⟨by rfl, ?_⟩) hS ?_
              rotate_left
              · intro wv _; go_simp; try with_reducible rfl
              try simp only [Act.put, List.setIfInBounds_toArray, List.set_cons_zero, List.set_cons_succ]
              refine wpAnyH_take (i := 11) (oi := ⟨some 25, .load 3 (.tmp 24), 3, "ref.go:17", #[⟨10, .data⟩, ⟨6, .guard⟩], some (6, false)⟩) (v := ?_) rfl (by kernel_rfl) (by kernel_rfl) (by kernel_rfl) (fun _ _ _ h => h) (Or.inl ⟨by rfl, ?_⟩) hS ?_
              rotate_left
              · intro wv hS; have hrun := (hS.out.cell (p := ⟨b, off + i * 2 + 1, none⟩) HB0.out).trans K1.out; go_simp; try with_reducible rfl
              try simp only [Act.put, List.setIfInBounds_toArray, List.set_cons_zero, List.set_cons_succ]
              refine wpAnyH_take (i := 12) (oi := ⟨some 26, .binOp .lss 3 (.tmp 25) (.const (Value.int IntKind.i64 0)) 3, 4, "ref.go:17", #[⟨11, .data⟩, ⟨6, .guard⟩], some (6, false)⟩) (v := ?_) rfl (by kernel_rfl) (by kernel_rfl) (by kernel_rfl) (fun _ _ _ h => h) (Or.inl ⟨by rfl, ?_⟩) hS ?_
              rotate_left
              · intro wv _; go_simp; try with_reducible rfl
              try simp only [Act.put, List.setIfInBounds_toArray, List.set_cons_zero, List.set_cons_succ]
              refine wpAnyH_take (i := 13) (oi := ⟨some 27, .pick (.tmp 20) (.const (Value.bool true)) (.tmp 26), 4, "ref.go:17", #[⟨6, .data⟩, ⟨12, .data⟩], none⟩) (v := ?_) rfl (by kernel_rfl) (by kernel_rfl) (by kernel_rfl) (fun _ _ _ h => h) (Or.inl ⟨by rfl, ?_⟩) hS ?_
              rotate_left
              · intro wv _; go_simp; try with_reducible rfl
              try simp only [Act.put, List.setIfInBounds_toArray, List.set_cons_zero, List.set_cons_succ]
              refine wpAnyH_take (i := 14) (oi := ⟨some 28, .move (.tmp 27), 4, "ref.go:17", #[⟨13, .data⟩, ⟨6, .chain⟩], none⟩) (v := ?_) rfl (by kernel_rfl) (by kernel_rfl) (by kernel_rfl) (fun _ _ _ h => h) (Or.inl ⟨by rfl, ?_⟩) hS ?_
              rotate_left
              · intro wv _; go_simp; try with_reducible rfl
              try simp only [Act.put, List.setIfInBounds_toArray, List.set_cons_zero, List.set_cons_succ]
              refine wpAnyH_take (i := 15) (oi := ⟨some 29, .move (.tmp 3), 3, "ref.go:17", #[⟨14, .guard⟩], some (14, false)⟩) (v := ?_) rfl (by kernel_rfl) (by kernel_rfl) (by kernel_rfl) (fun _ _ _ h => h) (Or.inl ⟨by rfl, ?_⟩) hS ?_
              rotate_left
              · intro wv _; go_simp; try with_reducible rfl
              try simp only [Act.put, List.setIfInBounds_toArray, List.set_cons_zero, List.set_cons_succ]
              refine wpAnyH_take (i := 16) (oi := ⟨some 30, .binOp .gtr 3 (.tmp 29) (.const (Value.int IntKind.i64 0)) 3, 4, "ref.go:17", #[⟨15, .data⟩, ⟨14, .guard⟩], some (14, false)⟩) (v := ?_) rfl (by kernel_rfl) (by kernel_rfl) (by kernel_rfl) (fun _ _ _ h => h) (Or.inl ⟨by rfl, ?_⟩) hS ?_
              rotate_left
              · intro wv _; go_simp; try with_reducible rfl
              try simp only [Act.put, List.setIfInBounds_toArray, List.set_cons_zero, List.set_cons_succ]
              refine wpAnyH_take (i := 17) (oi := ⟨some 31, .move (.tmp 30), 4, "ref.go:17", #[⟨16, .data⟩, ⟨14, .chain⟩, ⟨14, .guard⟩], some (14, false)⟩) (v := ?_) rfl (by kernel_rfl) (by kernel_rfl) (by kernel_rfl) (fun _ _ _ h => h) (Or.inl ⟨by rfl, ?_⟩) hS ?_
              rotate_left
              · intro wv _; go_simp; try with_reducible rfl
              try simp only [Act.put, List.setIfInBounds_toArray, List.set_cons_zero, List.set_cons_succ]
              refine wpAnyH_take (i := 18) (oi := ⟨some 32, .move (.tmp 0), 22, "ref.go:17", #[⟨17, .guard⟩], some (17, true)⟩) (v := undef) rfl (by kernel_rfl) (by kernel_rfl) (by kernel_rfl) (fun _ _ _ h => h) (Or.inr ⟨by rfl, rfl⟩) hS ?_
              try simp only [Act.put, List.setIfInBounds_toArray, List.set_cons_zero, List.set_cons_succ]
              refine wpAnyH_take (i := 19) (oi := ⟨some 33, .move (.tmp 3), 3, "ref.go:17", #[⟨17, .guard⟩], some (17, true)⟩) (v := undef) rfl (by kernel_rfl) (by kernel_rfl) (by kernel_rfl) (fun _ _ _ h => h) (Or.inr ⟨by rfl, rfl⟩) hS ?_
              try simp only [Act.put, List.setIfInBounds_toArray, List.set_cons_zero, List.set_cons_succ]
              refine wpAnyH_take (i := 20) (oi := ⟨some 34, .indexAddr 22 (.tmp 32) (.tmp 33), 0, "ref.go:17", #[⟨18, .data⟩, ⟨19, .data⟩, ⟨17, .guard⟩], some (17, true)⟩) (v := undef) rfl (by kernel_rfl) (by kernel_rfl) (by kernel_rfl) (fun _ _ _ h => h) (Or.inr ⟨by rfl, rfl⟩) hS ?_
              try simp only [Act.put, List.setIfInBounds_toArray, List.set_cons_zero, List.set_cons_succ]
              refine wpAnyH_take (i := 21) (oi := ⟨some 35, .load 24 (.tmp 34), 24, "ref.go:17", #[⟨20, .data⟩, ⟨17, .guard⟩], some (17, true)⟩) (v := undef) rfl (by kernel_rfl) (by kernel_rfl) (by kernel_rfl) (fun _ _ _ h => h) (Or.inr ⟨by rfl, rfl⟩) hS ?_
              try simp only [Act.put, List.setIfInBounds_toArray, List.set_cons_zero, List.set_cons_succ]
              refine wpAnyH_take (i := 22) (oi := ⟨some 36, .move (.tmp 0), 22, "ref.go:17", #[⟨17, .guard⟩], some (17, true)⟩) (v := undef) rfl (by kernel_rfl) (by kernel_rfl) (by kernel_rfl) (fun _ _ _ h => h) (Or.inr ⟨by rfl, rfl⟩) hS ?_
              try simp only [Act.put, List.setIfInBounds_toArray, List.set_cons_zero, List.set_cons_succ]
              refine wpAnyH_take (i := 23) (oi := ⟨some 37, .move (.tmp 3), 3, "ref.go:17", #[⟨17, .guard⟩], some (17, true)⟩) (v := undef) rfl (by kernel_rfl) (by kernel_rfl) (by kernel_rfl) (fun _ _ _ h => h) (Or.inr ⟨by rfl, rfl⟩) hS ?_
              try simp only [Act.put, List.setIfInBounds_toArray, List.set_cons_zero, List.set_cons_succ]
              refine wpAnyH_take (i := 24) (oi := ⟨some 38, .binOp .sub 3 (.tmp 37) (.const (Value.int IntKind.i64 1)) 3, 3, "ref.go:17", #[⟨23, .data⟩, ⟨17, .guard⟩], some (17, true)⟩) (v := undef) rfl (by kernel_rfl) (by kernel_rfl) (by kernel_rfl) (fun _ _ _ h => h) (Or.inr ⟨by rfl, rfl⟩) hS ?_
              try simp only [Act.put, List.setIfInBounds_toArray, List.set_cons_zero, List.set_cons_succ]
              refine wpAnyH_take (i := 25) (oi := ⟨some 39, .binOp .quo 3 (.tmp 38) (.const (Value.int IntKind.i64 4)) 3, 3, "ref.go:17", #[⟨24, .data⟩, ⟨17, .guard⟩], some (17, true)⟩) (v := undef) rfl (by kernel_rfl) (by kernel_rfl) (by kernel_rfl) (fun _ _ _ h => h) (Or.inr ⟨by rfl, rfl⟩) hS ?_
              try simp only [Act.put, List.setIfInBounds_toArray, List.set_cons_zero, List.set_cons_succ]
              refine wpAnyH_take (i := 26) (oi := ⟨some 40, .indexAddr 22 (.tmp 36) (.tmp 39), 0, "ref.go:17", #[⟨22, .data⟩, ⟨25, .data⟩, ⟨17, .guard⟩], some (17, true)⟩) (v := undef) rfl (by kernel_rfl) (by kernel_rfl) (by kernel_rfl) (fun _ _ _ h => h) (Or.inr ⟨by rfl, rfl⟩) hS ?_
              try simp only [Act.put, List.setIfInBounds_toArray, List.set_cons_zero, List.set_cons_succ]
              refine wpAnyH_take (i := 27) (oi := ⟨some 41, .load 24 (.tmp 40), 24, "ref.go:17", #[⟨26, .data⟩, ⟨17, .guard⟩], some (17, true)⟩) (v := undef) rfl (by kernel_rfl) (by kernel_rfl) (by kernel_rfl) (fun _ _ _ h => h) (Or.inr ⟨by rfl, rfl⟩) hS ?_
              try simp only [Act.put, List.setIfInBounds_toArray, List.set_cons_zero, List.set_cons_succ]
              refine wpAnyH_take (i := 28) (oi := ⟨some 42, .call { callee := .value (.func 23), args := #[.tmp 35, .tmp 41], argTypes := #[24, 24] }, 4, "ref.go:17", #[⟨21, .data⟩, ⟨27, .data⟩, ⟨17, .chain⟩, ⟨17, .guard⟩], some (17, true)⟩) (v := undef) rfl (by kernel_rfl) (by kernel_rfl) (by kernel_rfl) (fun _ _ _ h => h) (Or.inr ⟨by rfl, rfl⟩) hS ?_
              try simp only [Act.put, List.setIfInBounds_toArray, List.set_cons_zero, List.set_cons_succ]
              refine wpAnyH_take (i := 29) (oi := ⟨some 43, .pick (.tmp 31) (.tmp 42) (.const (Value.bool false)), 4, "ref.go:17", #[⟨17, .data⟩, ⟨28, .data⟩, ⟨14, .guard⟩], some (14, false)⟩) (v := ?_) rfl (by kernel_rfl) (by kernel_rfl) (by kernel_rfl) (fun _ _ _ h => h) (Or.inl ⟨by rfl, ?_⟩) hS ?_
              rotate_left
              · intro wv _; go_simp; try with_reducible rfl
              try simp only [Act.put, List.setIfInBounds_toArray, List.set_cons_zero, List.set_cons_succ]
              refine wpAnyH_take (i := 30) (oi := ⟨some 44, .pick (.tmp 28) (.const (Value.bool true)) (.tmp 43), 4, "ref.go:17", #[⟨14, .data⟩, ⟨29, .data⟩], none⟩) (v := ?_) rfl (by kernel_rfl) (by kernel_rfl) (by kernel_rfl) (fun _ _ _ h => h) (Or.inl ⟨by rfl, ?_⟩) hS ?_
              rotate_left
              · intro wv _; go_simp; try with_reducible rfl
              try simp only [Act.put, List.setIfInBounds_toArray, List.set_cons_zero, List.set_cons_succ]
              refine wpAnyH_done (by kernel_rfl) ?_ _
              refine NoPanic.normal ?_
              have HB2 := Lib.hid (HB.out.trans (hS.out.mono HB.out.size))
              clear HB hS HB0 K0 K1
              go_wp2
              obtain ⟨wo, hwo⟩ : ∃ x, x = wr := ⟨_, rfl⟩
              subst hwo
              go_loopw [4] (fun kv wr => ∃ (k : Nat), kv = .int .i64 (k : Int) ∧ k ≤ i ∧ Hid (∀ j : Nat, j < k → (tmAt h j).2 ≠ tk) ∧ Hid (Below w.heap.size w wr)) (fun kv _ => i - (intOf kv).toNat)
              case atStart => exact ⟨0, rfl, by omega, fun j hj => by omega, HB2.out⟩
              case round =>
                clear HB2
                obtain ⟨k, rfl, hk, HK, HB⟩ := hrel
                by_cases hkl : k < i
                · have d1 : decide ((k : Int) < (i : Int)) = true := by simpa using hkl
                  have kk0 : (0 : Int) ≤ (k : Int) := by omega
                  have kk1 : (k : Int) < (n : Int) := by omega
                  obtain ⟨b3, off3, he3, _, e0, e1⟩ := Tms.look (Es.below RX.out HB.out) i HLT.out
                  injection he3 with he3
                  injection he3 with he3 he4
                  subst he3; subst he4
                  rw [HTI.out] at e0 e1
                  simp only at e0 e1
                  obtain ⟨b2, off2, he2, _, g0, g1⟩ := Tms.look (Es.below RX.out HB.out) k (by have := HLT.out; omega)
                  injection he2 with he2
                  injection he2 with he2 he3
                  subst he2; subst he3
                  obtain ⟨⟨uw, uk⟩, huk⟩ : ∃ x, tmAt h k = x := ⟨_, rfl⟩
                  rw [huk] at g0 g1
                  simp only at g0 g1
                  by_cases h7 : uk = tk
                  · have d2 : (uk == tk) = true := by simp [h7]
                    have HE := Lib.hid (HRN.out i HLT.out (fun h8 => by
                      have h9 := h8.2.2.2 k hkl
                      rw [HTI.out, huk] at h9
                      exact h9 h7))
                    clear h7 huk
                    go_wp2
                    go_quiet (fail)
                    go_wp2
                    go_ret
                    rw [HE.out]
                    exact ⟨rfl, bel_drewN HB.out _⟩
                  · have d2 : (uk == tk) = false := by simp [h7]
                    have HK2 := Lib.hid (show ∀ j : Nat, j < k + 1 → (tmAt h j).2 ≠ tk from fun j hj => by
                      rcases Nat.lt_or_ge j k with h8 | h8
                      · exact HK.out j h8
                      · have : j = k := by omega
                        subst this; rw [huk]; exact h7)
                    clear h7 huk HK
                    go_wp2
                    go_quiet (fail)
                    go_wp2
                    go_roundw
                    case rel => exact ⟨k + 1, by go_num, by omega, HK2.out, bel_drewN HB.out _⟩
                    case measure => simp [intOf]; omega
                · have ek : k = i := by omega
                  have d1 : decide ((k : Int) < (i : Int)) = false := by simp; omega
                  have d1n : decide (k < i) = false := by simp; omega
                  have HOK2 := Lib.hid (show okTs h (i + 1) from fun j hj => by
                    rcases Nat.lt_or_ge j i with h8 | h8
                    · exact HOK.out j h8
                    · have : j = i := by omega
                      subst this
                      refine ⟨?_, ?_, fun h9 => ?_, fun k2 hk2 => ?_⟩
                      · rw [HTI.out]; exact HT0.out
                      · rw [HTI.out]; exact HT1.out
                      · rw [HTI.out]; exact HPB.out h9
                      · have h9 := HK.out k2 (by omega); rw [HTI.out]; exact h9)
                  have HLI := HLT.out
                  clear ek hkl hk HK
                  go_wp2
                  go_roundw
                  case rel => exact ⟨i + 1, by go_num, by omega, HOK2.out, HB.out⟩
                  case measure => simp [intOf]; omega
      · have en : i = n := by omega
        have c1 : decide ((i : Int) < (n : Int)) = false := by simp; omega
        have c1n : decide (i < n) = false := by simp; omega
        have HE := Lib.hid (HRO.out (en ▸ HOK.out))
        clear en hlt hi
        go_wp2
        go_ret
        rw [HE.out]
        exact ⟨rfl, HB.out⟩
end Go.Proofs.Ytehpfpphpffniaa
