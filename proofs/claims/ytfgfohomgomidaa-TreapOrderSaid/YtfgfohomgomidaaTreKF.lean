/- What the landed treap's own with, without, take and release of layer 9 leave; for slices of up to 16384 nodes. -/
import Derived.Test.YtfgfohomgomidaaTreKE
namespace Go.Proofs.Ytfgfohomgomidaa
set_option linter.unusedVariables false
set_option linter.unusedSimpArgs false
open Go.RowKit
set_option maxRecDepth 100000 in
set_option maxHeartbeats 16000000 in
theorem tpWith_any (p g n d base : Nat) (rt fr : Int) (hn : n ≤ 16384) (pl : Nat) (hpl : pl < n) : ∀ (f : Nat) (ns : List Nd) (l : List Int) (i : Int) (w : World), l.length ≤ f → Bx w p g n d base rt fr ns → Tr ns i l → Rise ns l → (pl : Int) ∉ l → (∀ x ∈ l, keyT ns x ≠ keyT ns (pl : Int)) →
    Calls Try.prog 29 #[.pointer (some ⟨p, 0, none⟩), .int .i64 i, .int .i64 (pl : Int)] w (WithPost w p g n d base rt fr ns l (pl : Int)) := by
  intro f
  have p0 : (0 : Int) ≤ (pl : Int) := by omega
  have p1 : (pl : Int) < (n : Int) := by omega
  have key : ∀ (ns : List Nd) (l : List Int) (i : Int) (w : World), Bx w p g n d base rt fr ns → Tr ns i l → Rise ns l → (pl : Int) ∉ l → (∀ x ∈ l, keyT ns x ≠ keyT ns (pl : Int)) → (i = -1 ∨ aboveN (ndAt ns (pl : Int)) (ndAt ns i) = true) →
      Calls Try.prog 29 #[.pointer (some ⟨p, 0, none⟩), .int .i64 i, .int .i64 (pl : Int)] w (WithPost w p g n d base rt fr ns l (pl : Int)) := by
    intro ns l i w hx ht hs hpi hk hab
    have hlen := hx.len
    have HX := Lib.hid hx
    have HW := Lib.hid (fun ns' x y h => with_top (ns' := ns') (x := x) (y := y) ht hs hpi p0 (by rw [hlen]; exact p1) hab h)
    have HC := Lib.hid (fun (W : World) (h : Bx W p g n d base rt fr ns) => tpSplit_any p g n d base rt fr hn (keyT ns (pl : Int)) l.length ns l i W (Nat.le_refl _) h ht hs hk)
    have KA := Lib.hid (hx.at pl hpl)
    have AB := fun (W : World) => tpAbove_any (ndAt ns (pl : Int)) (ndAt ns i) W
    have c0 := hx.c0
    have HC0 := Lib.hid c0
    rcases hab with hi | hab
    · subst hi
      have hl := ht.nil_root
      subst hl
      clear hx ht hs hpi hk hlen
      go_enter Try.func29, Try.ntmps29
      go_wp2
      refine wp_region_noPanic ?_
      refine wp_region_held_drew (S := (fun wv => Hid (Below w.heap.size w wv))) (by kernel_rfl) (Lib.hid (Below.refl _ w).drew) (fun hS => ?_)
      refine wpAnyH_take (i := 0) (oi := ⟨some 16, .move (.tmp 1), 3, "tree.go:133", #[], none⟩) (v := ?_) rfl (by kernel_rfl) (by kernel_rfl) (by kernel_rfl) (fun _ _ _ h => h) (Or.inl ⟨by rfl, ?_⟩) hS ?_
      rotate_left
      · intro wv _; go_simp; try with_reducible rfl
      try simp only [Act.put, List.setIfInBounds_toArray, List.set_cons_zero, List.set_cons_succ]
      refine wpAnyH_take (i := 1) (oi := ⟨some 17, .binOp .eql 3 (.tmp 16) (.const (Value.int IntKind.i64 (-1))) 3, 4, "tree.go:133", #[⟨0, .data⟩], none⟩) (v := ?_) rfl (by kernel_rfl) (by kernel_rfl) (by kernel_rfl) (fun _ _ _ h => h) (Or.inl ⟨by rfl, ?_⟩) hS ?_
      rotate_left
      · intro wv _; go_simp; try with_reducible rfl
      try simp only [Act.put, List.setIfInBounds_toArray, List.set_cons_zero, List.set_cons_succ]
      refine wpAnyH_take (i := 2) (oi := ⟨some 18, .move (.tmp 17), 4, "tree.go:133", #[⟨1, .data⟩], none⟩) (v := ?_) rfl (by kernel_rfl) (by kernel_rfl) (by kernel_rfl) (fun _ _ _ h => h) (Or.inl ⟨by rfl, ?_⟩) hS ?_
      rotate_left
      · intro wv _; go_simp; try with_reducible rfl
      try simp only [Act.put, List.setIfInBounds_toArray, List.set_cons_zero, List.set_cons_succ]
      refine wpAnyH_take (i := 3) (oi := ⟨some 19, .move (.tmp 7), 71, "tree.go:133", #[⟨2, .guard⟩], some (2, false)⟩) (v := undef) rfl (by kernel_rfl) (by kernel_rfl) (by kernel_rfl) (fun _ _ _ h => h) (Or.inr ⟨by rfl, rfl⟩) hS ?_
      try simp only [Act.put, List.setIfInBounds_toArray, List.set_cons_zero, List.set_cons_succ]
      refine wpAnyH_take (i := 4) (oi := ⟨some 20, .nilCheck (.tmp 19), 0, "tree.go:133", #[⟨3, .data⟩, ⟨2, .guard⟩], some (2, false)⟩) (v := undef) rfl (by kernel_rfl) (by kernel_rfl) (by kernel_rfl) (fun _ _ _ h => h) (Or.inr ⟨by rfl, rfl⟩) hS ?_
      try simp only [Act.put, List.setIfInBounds_toArray, List.set_cons_zero, List.set_cons_succ]
      refine wpAnyH_take (i := 5) (oi := ⟨some 21, .load 52 (.tmp 20), 52, "tree.go:133", #[⟨4, .data⟩, ⟨2, .guard⟩], some (2, false)⟩) (v := undef) rfl (by kernel_rfl) (by kernel_rfl) (by kernel_rfl) (fun _ _ _ h => h) (Or.inr ⟨by rfl, rfl⟩) hS ?_
      try simp only [Act.put, List.setIfInBounds_toArray, List.set_cons_zero, List.set_cons_succ]
      refine wpAnyH_take (i := 6) (oi := ⟨some 22, .move (.tmp 0), 70, "tree.go:133", #[⟨2, .guard⟩], some (2, false)⟩) (v := undef) rfl (by kernel_rfl) (by kernel_rfl) (by kernel_rfl) (fun _ _ _ h => h) (Or.inr ⟨by rfl, rfl⟩) hS ?_
      try simp only [Act.put, List.setIfInBounds_toArray, List.set_cons_zero, List.set_cons_succ]
      refine wpAnyH_take (i := 7) (oi := ⟨some 23, .nilCheck (.tmp 22), 0, "tree.go:133", #[⟨6, .data⟩, ⟨2, .guard⟩], some (2, false)⟩) (v := undef) rfl (by kernel_rfl) (by kernel_rfl) (by kernel_rfl) (fun _ _ _ h => h) (Or.inr ⟨by rfl, rfl⟩) hS ?_
      try simp only [Act.put, List.setIfInBounds_toArray, List.set_cons_zero, List.set_cons_succ]
      refine wpAnyH_take (i := 8) (oi := ⟨some 24, .fieldAddr 54 (.tmp 23) 0, 0, "tree.go:133", #[⟨7, .data⟩, ⟨2, .guard⟩], some (2, false)⟩) (v := undef) rfl (by kernel_rfl) (by kernel_rfl) (by kernel_rfl) (fun _ _ _ h => h) (Or.inr ⟨by rfl, rfl⟩) hS ?_
      try simp only [Act.put, List.setIfInBounds_toArray, List.set_cons_zero, List.set_cons_succ]
      refine wpAnyH_take (i := 9) (oi := ⟨some 25, .fieldAddr 24 (.tmp 24) 0, 0, "tree.go:133", #[⟨8, .data⟩, ⟨2, .guard⟩], some (2, false)⟩) (v := undef) rfl (by kernel_rfl) (by kernel_rfl) (by kernel_rfl) (fun _ _ _ h => h) (Or.inr ⟨by rfl, rfl⟩) hS ?_
      try simp only [Act.put, List.setIfInBounds_toArray, List.set_cons_zero, List.set_cons_succ]
      refine wpAnyH_take (i := 10) (oi := ⟨some 26, .load 22 (.tmp 25), 22, "tree.go:133", #[⟨9, .data⟩, ⟨2, .guard⟩], some (2, false)⟩) (v := undef) rfl (by kernel_rfl) (by kernel_rfl) (by kernel_rfl) (fun _ _ _ h => h) (Or.inr ⟨by rfl, rfl⟩) hS ?_
      try simp only [Act.put, List.setIfInBounds_toArray, List.set_cons_zero, List.set_cons_succ]
      refine wpAnyH_take (i := 11) (oi := ⟨some 27, .move (.tmp 1), 3, "tree.go:133", #[⟨2, .guard⟩], some (2, false)⟩) (v := undef) rfl (by kernel_rfl) (by kernel_rfl) (by kernel_rfl) (fun _ _ _ h => h) (Or.inr ⟨by rfl, rfl⟩) hS ?_
      try simp only [Act.put, List.setIfInBounds_toArray, List.set_cons_zero, List.set_cons_succ]
      refine wpAnyH_take (i := 12) (oi := ⟨some 28, .indexAddr 22 (.tmp 26) (.tmp 27), 0, "tree.go:133", #[⟨10, .data⟩, ⟨11, .data⟩, ⟨2, .guard⟩], some (2, false)⟩) (v := undef) rfl (by kernel_rfl) (by kernel_rfl) (by kernel_rfl) (fun _ _ _ h => h) (Or.inr ⟨by rfl, rfl⟩) hS ?_
      try simp only [Act.put, List.setIfInBounds_toArray, List.set_cons_zero, List.set_cons_succ]
      refine wpAnyH_take (i := 13) (oi := ⟨some 29, .load 52 (.tmp 28), 52, "tree.go:133", #[⟨12, .data⟩, ⟨2, .guard⟩], some (2, false)⟩) (v := undef) rfl (by kernel_rfl) (by kernel_rfl) (by kernel_rfl) (fun _ _ _ h => h) (Or.inr ⟨by rfl, rfl⟩) hS ?_
      try simp only [Act.put, List.setIfInBounds_toArray, List.set_cons_zero, List.set_cons_succ]
      refine wpAnyH_take (i := 14) (oi := ⟨some 30, .call { callee := .value (.func 42), args := #[.tmp 21, .tmp 29], argTypes := #[52, 52] }, 4, "tree.go:133", #[⟨5, .data⟩, ⟨13, .data⟩, ⟨2, .chain⟩, ⟨2, .guard⟩], some (2, false)⟩) (v := undef) rfl (by kernel_rfl) (by kernel_rfl) (by kernel_rfl) (fun _ _ _ h => h) (Or.inr ⟨by rfl, rfl⟩) hS ?_
      try simp only [Act.put, List.setIfInBounds_toArray, List.set_cons_zero, List.set_cons_succ]
      refine wpAnyH_take (i := 15) (oi := ⟨some 31, .pick (.tmp 18) (.const (Value.bool true)) (.tmp 30), 4, "tree.go:133", #[⟨2, .data⟩, ⟨14, .data⟩], none⟩) (v := ?_) rfl (by kernel_rfl) (by kernel_rfl) (by kernel_rfl) (fun _ _ _ h => h) (Or.inl ⟨by rfl, ?_⟩) hS ?_
      rotate_left
      · intro wv _; go_simp; try with_reducible rfl
      try simp only [Act.put, List.setIfInBounds_toArray, List.set_cons_zero, List.set_cons_succ]
      refine wpAnyH_done (by kernel_rfl) ?_ _
      refine NoPanic.normal ?_
      have G1 := Lib.hid (Gp.below (p := p) (g := g) hS.out)
      have HX1 := Lib.hid (HX.out.below hS.out)
      have HC2 := Lib.hid (HC.out _ HX1.out)
      have kl := (HX1.out.at pl hpl).1
      clear c0 HC KA HC0 hS HX HX1 AB
      unfold keyT at HC2
      obtain ⟨kp, hkp⟩ : ∃ kp, (ndAt ns (pl : Int)).k = kp := ⟨_, rfl⟩
      rw [hkp] at kl HC2
      replace HW := Lib.hid (fun ns1 x y (h : SplitOk ns _ kp ns1 x y) => HW.out ns1 x y (by unfold keyT; rw [hkp]; exact h))
      clear hkp
      go_wp2_with fail
      refine HC2.out.mono ?_
      rintro e w1 ⟨ns1, x, y, hok, rfl, hbx, hg⟩
      have OK := Lib.hid (HW.out ns1 x y hok)
      have B1 := hbx.setL pl hpl x
      have B2 := Lib.hid (B1.setR pl hpl y)
      have G2 := Lib.hid (((G1.out.trans hg).setg (pl * 6 + 2) (.int .i64 x)).setg (pl * 6 + 3) (.int .i64 y))
      have ff := hbx.own.frozenAt (pl * 6 + 2)
      have kk := (hbx.at pl hpl).2.2.1
      have ff3 := hbx.own.frozenAt (pl * 6 + 3)
      have kk3 := (hbx.at pl hpl).2.2.2.1
      clear hbx hg hok HC2 kl B1 HW
      go_wp2
      go_ret
      exact ⟨_, (pl : Int), OK.out, rfl, B2.out, G2.out⟩
    · by_cases hi : i = -1
      · subst hi
        have hl := ht.nil_root
        subst hl
        clear hx ht hs hpi hk hlen
        go_enter Try.func29, Try.ntmps29
        go_wp2
        refine wp_region_noPanic ?_
        refine wp_region_held_drew (S := (fun wv => Hid (Below w.heap.size w wv))) (by kernel_rfl) (Lib.hid (Below.refl _ w).drew) (fun hS => ?_)
        refine wpAnyH_take (i := 0) (oi := ⟨some 16, .move (.tmp 1), 3, "tree.go:133", #[], none⟩) (v := ?_) rfl (by kernel_rfl) (by kernel_rfl) (by kernel_rfl) (fun _ _ _ h => h) (Or.inl ⟨by rfl, ?_⟩) hS ?_
        rotate_left
        · intro wv _; go_simp; try with_reducible rfl
        try simp only [Act.put, List.setIfInBounds_toArray, List.set_cons_zero, List.set_cons_succ]
        refine wpAnyH_take (i := 1) (oi := ⟨some 17, .binOp .eql 3 (.tmp 16) (.const (Value.int IntKind.i64 (-1))) 3, 4, "tree.go:133", #[⟨0, .data⟩], none⟩) (v := ?_) rfl (by kernel_rfl) (by kernel_rfl) (by kernel_rfl) (fun _ _ _ h => h) (Or.inl ⟨by rfl, ?_⟩) hS ?_
        rotate_left
        · intro wv _; go_simp; try with_reducible rfl
        try simp only [Act.put, List.setIfInBounds_toArray, List.set_cons_zero, List.set_cons_succ]
        refine wpAnyH_take (i := 2) (oi := ⟨some 18, .move (.tmp 17), 4, "tree.go:133", #[⟨1, .data⟩], none⟩) (v := ?_) rfl (by kernel_rfl) (by kernel_rfl) (by kernel_rfl) (fun _ _ _ h => h) (Or.inl ⟨by rfl, ?_⟩) hS ?_
        rotate_left
        · intro wv _; go_simp; try with_reducible rfl
        try simp only [Act.put, List.setIfInBounds_toArray, List.set_cons_zero, List.set_cons_succ]
        refine wpAnyH_take (i := 3) (oi := ⟨some 19, .move (.tmp 7), 71, "tree.go:133", #[⟨2, .guard⟩], some (2, false)⟩) (v := undef) rfl (by kernel_rfl) (by kernel_rfl) (by kernel_rfl) (fun _ _ _ h => h) (Or.inr ⟨by rfl, rfl⟩) hS ?_
        try simp only [Act.put, List.setIfInBounds_toArray, List.set_cons_zero, List.set_cons_succ]
        refine wpAnyH_take (i := 4) (oi := ⟨some 20, .nilCheck (.tmp 19), 0, "tree.go:133", #[⟨3, .data⟩, ⟨2, .guard⟩], some (2, false)⟩) (v := undef) rfl (by kernel_rfl) (by kernel_rfl) (by kernel_rfl) (fun _ _ _ h => h) (Or.inr ⟨by rfl, rfl⟩) hS ?_
        try simp only [Act.put, List.setIfInBounds_toArray, List.set_cons_zero, List.set_cons_succ]
        refine wpAnyH_take (i := 5) (oi := ⟨some 21, .load 52 (.tmp 20), 52, "tree.go:133", #[⟨4, .data⟩, ⟨2, .guard⟩], some (2, false)⟩) (v := undef) rfl (by kernel_rfl) (by kernel_rfl) (by kernel_rfl) (fun _ _ _ h => h) (Or.inr ⟨by rfl, rfl⟩) hS ?_
        try simp only [Act.put, List.setIfInBounds_toArray, List.set_cons_zero, List.set_cons_succ]
        refine wpAnyH_take (i := 6) (oi := ⟨some 22, .move (.tmp 0), 70, "tree.go:133", #[⟨2, .guard⟩], some (2, false)⟩) (v := undef) rfl (by kernel_rfl) (by kernel_rfl) (by kernel_rfl) (fun _ _ _ h => h) (Or.inr ⟨by rfl, rfl⟩) hS ?_
        try simp only [Act.put, List.setIfInBounds_toArray, List.set_cons_zero, List.set_cons_succ]
        refine wpAnyH_take (i := 7) (oi := ⟨some 23, .nilCheck (.tmp 22), 0, "tree.go:133", #[⟨6, .data⟩, ⟨2, .guard⟩], some (2, false)⟩) (v := undef) rfl (by kernel_rfl) (by kernel_rfl) (by kernel_rfl) (fun _ _ _ h => h) (Or.inr ⟨by rfl, rfl⟩) hS ?_
        try simp only [Act.put, List.setIfInBounds_toArray, List.set_cons_zero, List.set_cons_succ]
        refine wpAnyH_take (i := 8) (oi := ⟨some 24, .fieldAddr 54 (.tmp 23) 0, 0, "tree.go:133", #[⟨7, .data⟩, ⟨2, .guard⟩], some (2, false)⟩) (v := undef) rfl (by kernel_rfl) (by kernel_rfl) (by kernel_rfl) (fun _ _ _ h => h) (Or.inr ⟨by rfl, rfl⟩) hS ?_
        try simp only [Act.put, List.setIfInBounds_toArray, List.set_cons_zero, List.set_cons_succ]
        refine wpAnyH_take (i := 9) (oi := ⟨some 25, .fieldAddr 24 (.tmp 24) 0, 0, "tree.go:133", #[⟨8, .data⟩, ⟨2, .guard⟩], some (2, false)⟩) (v := undef) rfl (by kernel_rfl) (by kernel_rfl) (by kernel_rfl) (fun _ _ _ h => h) (Or.inr ⟨by rfl, rfl⟩) hS ?_
        try simp only [Act.put, List.setIfInBounds_toArray, List.set_cons_zero, List.set_cons_succ]
        refine wpAnyH_take (i := 10) (oi := ⟨some 26, .load 22 (.tmp 25), 22, "tree.go:133", #[⟨9, .data⟩, ⟨2, .guard⟩], some (2, false)⟩) (v := undef) rfl (by kernel_rfl) (by kernel_rfl) (by kernel_rfl) (fun _ _ _ h => h) (Or.inr ⟨by rfl, rfl⟩) hS ?_
        try simp only [Act.put, List.setIfInBounds_toArray, List.set_cons_zero, List.set_cons_succ]
        refine wpAnyH_take (i := 11) (oi := ⟨some 27, .move (.tmp 1), 3, "tree.go:133", #[⟨2, .guard⟩], some (2, false)⟩) (v := undef) rfl (by kernel_rfl) (by kernel_rfl) (by kernel_rfl) (fun _ _ _ h => h) (Or.inr ⟨by rfl, rfl⟩) hS ?_
        try simp only [Act.put, List.setIfInBounds_toArray, List.set_cons_zero, List.set_cons_succ]
        refine wpAnyH_take (i := 12) (oi := ⟨some 28, .indexAddr 22 (.tmp 26) (.tmp 27), 0, "tree.go:133", #[⟨10, .data⟩, ⟨11, .data⟩, ⟨2, .guard⟩], some (2, false)⟩) (v := undef) rfl (by kernel_rfl) (by kernel_rfl) (by kernel_rfl) (fun _ _ _ h => h) (Or.inr ⟨by rfl, rfl⟩) hS ?_
        try simp only [Act.put, List.setIfInBounds_toArray, List.set_cons_zero, List.set_cons_succ]
        refine wpAnyH_take (i := 13) (oi := ⟨some 29, .load 52 (.tmp 28), 52, "tree.go:133", #[⟨12, .data⟩, ⟨2, .guard⟩], some (2, false)⟩) (v := undef) rfl (by kernel_rfl) (by kernel_rfl) (by kernel_rfl) (fun _ _ _ h => h) (Or.inr ⟨by rfl, rfl⟩) hS ?_
        try simp only [Act.put, List.setIfInBounds_toArray, List.set_cons_zero, List.set_cons_succ]
        refine wpAnyH_take (i := 14) (oi := ⟨some 30, .call { callee := .value (.func 42), args := #[.tmp 21, .tmp 29], argTypes := #[52, 52] }, 4, "tree.go:133", #[⟨5, .data⟩, ⟨13, .data⟩, ⟨2, .chain⟩, ⟨2, .guard⟩], some (2, false)⟩) (v := undef) rfl (by kernel_rfl) (by kernel_rfl) (by kernel_rfl) (fun _ _ _ h => h) (Or.inr ⟨by rfl, rfl⟩) hS ?_
        try simp only [Act.put, List.setIfInBounds_toArray, List.set_cons_zero, List.set_cons_succ]
        refine wpAnyH_take (i := 15) (oi := ⟨some 31, .pick (.tmp 18) (.const (Value.bool true)) (.tmp 30), 4, "tree.go:133", #[⟨2, .data⟩, ⟨14, .data⟩], none⟩) (v := ?_) rfl (by kernel_rfl) (by kernel_rfl) (by kernel_rfl) (fun _ _ _ h => h) (Or.inl ⟨by rfl, ?_⟩) hS ?_
        rotate_left
        · intro wv _; go_simp; try with_reducible rfl
        try simp only [Act.put, List.setIfInBounds_toArray, List.set_cons_zero, List.set_cons_succ]
        refine wpAnyH_done (by kernel_rfl) ?_ _
        refine NoPanic.normal ?_
        have G1 := Lib.hid (Gp.below (p := p) (g := g) hS.out)
        have HX1 := Lib.hid (HX.out.below hS.out)
        have HC2 := Lib.hid (HC.out _ HX1.out)
        have kl := (HX1.out.at pl hpl).1
        clear c0 HC KA HC0 hS HX HX1 AB
        unfold keyT at HC2
        obtain ⟨kp, hkp⟩ : ∃ kp, (ndAt ns (pl : Int)).k = kp := ⟨_, rfl⟩
        rw [hkp] at kl HC2
        replace HW := Lib.hid (fun ns1 x y (h : SplitOk ns _ kp ns1 x y) => HW.out ns1 x y (by unfold keyT; rw [hkp]; exact h))
        clear hkp
        go_wp2_with fail
        refine HC2.out.mono ?_
        rintro e w1 ⟨ns1, x, y, hok, rfl, hbx, hg⟩
        have OK := Lib.hid (HW.out ns1 x y hok)
        have B1 := hbx.setL pl hpl x
        have B2 := Lib.hid (B1.setR pl hpl y)
        have G2 := Lib.hid (((G1.out.trans hg).setg (pl * 6 + 2) (.int .i64 x)).setg (pl * 6 + 3) (.int .i64 y))
        have ff := hbx.own.frozenAt (pl * 6 + 2)
        have kk := (hbx.at pl hpl).2.2.1
        have ff3 := hbx.own.frozenAt (pl * 6 + 3)
        have kk3 := (hbx.at pl hpl).2.2.2.1
        clear hbx hg hok HC2 kl B1 HW
        go_wp2
        go_ret
        exact ⟨_, (pl : Int), OK.out, rfl, B2.out, G2.out⟩
      · obtain ⟨a, b, hl, h0, h1, _, _, _, _⟩ := ht.cases hi
        obtain ⟨i, rfl⟩ : ∃ k : Nat, i = k := ⟨i.toNat, by omega⟩
        have i0 : (0 : Int) ≤ (i : Int) := h0
        have i1 : (i : Int) < (n : Int) := by omega
        have hin : i < n := by omega
        have b0 : ((i : Int) == -1) = false := by simp
        have KB := Lib.hid (hx.at i hin)
        rw [hab] at AB
        replace AB := Lib.hid AB
        clear hx ht hs hpi hk hlen hl h0 h1 hi hab
        obtain ⟨r, hr⟩ : ∃ r, ndAt ns (pl : Int) = r := ⟨_, rfl⟩
        obtain ⟨r2, hr2⟩ : ∃ r2, ndAt ns (i : Int) = r2 := ⟨_, rfl⟩
        rw [hr] at AB KA; rw [hr2] at AB KB
        go_enter Try.func29, Try.ntmps29
        go_wp2
        refine wp_region_noPanic ?_
        refine wp_region_held_drew (S := (fun wv => Hid (Below w.heap.size w wv))) (by kernel_rfl) (Lib.hid (Below.refl _ w).drew) (fun hS => ?_)
        refine wpAnyH_take (i := 0) (oi := ⟨some 16, .move (.tmp 1), 3, "tree.go:133", #[], none⟩) (v := ?_) rfl (by kernel_rfl) (by kernel_rfl) (by kernel_rfl) (fun _ _ _ h => h) (Or.inl ⟨by rfl, ?_⟩) hS ?_
        rotate_left
        · intro wv _; go_simp; try with_reducible rfl
        try simp only [Act.put, List.setIfInBounds_toArray, List.set_cons_zero, List.set_cons_succ]
        refine wpAnyH_take (i := 1) (oi := ⟨some 17, .binOp .eql 3 (.tmp 16) (.const (Value.int IntKind.i64 (-1))) 3, 4, "tree.go:133", #[⟨0, .data⟩], none⟩) (v := ?_) rfl (by kernel_rfl) (by kernel_rfl) (by kernel_rfl) (fun _ _ _ h => h) (Or.inl ⟨by rfl, ?_⟩) hS ?_
        rotate_left
        · intro wv _; go_simp; try with_reducible rfl
        try simp only [Act.put, List.setIfInBounds_toArray, List.set_cons_zero, List.set_cons_succ]
        refine wpAnyH_take (i := 2) (oi := ⟨some 18, .move (.tmp 17), 4, "tree.go:133", #[⟨1, .data⟩], none⟩) (v := ?_) rfl (by kernel_rfl) (by kernel_rfl) (by kernel_rfl) (fun _ _ _ h => h) (Or.inl ⟨by rfl, ?_⟩) hS ?_
        rotate_left
        · intro wv _; go_simp; try with_reducible rfl
        try simp only [Act.put, List.setIfInBounds_toArray, List.set_cons_zero, List.set_cons_succ]
        refine wpAnyH_take (i := 3) (oi := ⟨some 19, .move (.tmp 7), 71, "tree.go:133", #[⟨2, .guard⟩], some (2, false)⟩) (v := ?_) rfl (by kernel_rfl) (by kernel_rfl) (by kernel_rfl) (fun _ _ _ h => h) (Or.inl ⟨by rfl, ?_⟩) hS ?_
        rotate_left
        · intro wv _; go_simp; try with_reducible rfl
        try simp only [Act.put, List.setIfInBounds_toArray, List.set_cons_zero, List.set_cons_succ]
        refine wpAnyH_take (i := 4) (oi := ⟨some 20, .nilCheck (.tmp 19), 0, "tree.go:133", #[⟨3, .data⟩, ⟨2, .guard⟩], some (2, false)⟩) (v := ?_) rfl (by kernel_rfl) (by kernel_rfl) (by kernel_rfl) (fun _ _ _ h => h) (Or.inl ⟨by rfl, ?_⟩) hS ?_
        rotate_left
        · intro wv _; go_simp; try with_reducible rfl
        try simp only [Act.put, List.setIfInBounds_toArray, List.set_cons_zero, List.set_cons_succ]
        refine wpAnyH_take (i := 5) (oi := ⟨some 21, .load 52 (.tmp 20), 52, "tree.go:133", #[⟨4, .data⟩, ⟨2, .guard⟩], some (2, false)⟩) (v := .agg (([.int .i64 r.k, .int .u32 r.p, .int .i64 r.l, .int .i64 r.r, .int .i64 r.h, .int .i64 r.t] : List Value)).toArray) rfl (by kernel_rfl) (by kernel_rfl) (by kernel_rfl) (fun _ _ _ h => h) (yieldsIf_load_mid (by rfl) _ _ (by rfl) (g) (pl * 6) (by rfl) (([.int .i64 r.k, .int .u32 r.p, .int .i64 r.l, .int .i64 r.r, .int .i64 r.h, .int .i64 r.t] : List Value)) _ (fun wv hS => nd_range (hS.out.cell (p := ⟨g, pl * 6, none⟩) (gpz HX.out) |>.trans KA.out.1) (hS.out.cell (p := ⟨g, pl * 6 + 1, none⟩) (gpz HX.out) |>.trans KA.out.2.1) (hS.out.cell (p := ⟨g, pl * 6 + 2, none⟩) (gpz HX.out) |>.trans KA.out.2.2.1) (hS.out.cell (p := ⟨g, pl * 6 + 3, none⟩) (gpz HX.out) |>.trans KA.out.2.2.2.1) (hS.out.cell (p := ⟨g, pl * 6 + 4, none⟩) (gpz HX.out) |>.trans KA.out.2.2.2.2.1) (hS.out.cell (p := ⟨g, pl * 6 + 5, none⟩) (gpz HX.out) |>.trans KA.out.2.2.2.2.2)) Try.underlying52 (by rfl) (by kernel_rfl)) hS ?_
        try simp only [Act.put, List.setIfInBounds_toArray, List.set_cons_zero, List.set_cons_succ]
        refine wpAnyH_take (i := 6) (oi := ⟨some 22, .move (.tmp 0), 70, "tree.go:133", #[⟨2, .guard⟩], some (2, false)⟩) (v := ?_) rfl (by kernel_rfl) (by kernel_rfl) (by kernel_rfl) (fun _ _ _ h => h) (Or.inl ⟨by rfl, ?_⟩) hS ?_
        rotate_left
        · intro wv _; go_simp; try with_reducible rfl
        try simp only [Act.put, List.setIfInBounds_toArray, List.set_cons_zero, List.set_cons_succ]
        refine wpAnyH_take (i := 7) (oi := ⟨some 23, .nilCheck (.tmp 22), 0, "tree.go:133", #[⟨6, .data⟩, ⟨2, .guard⟩], some (2, false)⟩) (v := ?_) rfl (by kernel_rfl) (by kernel_rfl) (by kernel_rfl) (fun _ _ _ h => h) (Or.inl ⟨by rfl, ?_⟩) hS ?_
        rotate_left
        · intro wv _; go_simp; try with_reducible rfl
        try simp only [Act.put, List.setIfInBounds_toArray, List.set_cons_zero, List.set_cons_succ]
        refine wpAnyH_take (i := 8) (oi := ⟨some 24, .fieldAddr 54 (.tmp 23) 0, 0, "tree.go:133", #[⟨7, .data⟩, ⟨2, .guard⟩], some (2, false)⟩) (v := ?_) rfl (by kernel_rfl) (by kernel_rfl) (by kernel_rfl) (fun _ _ _ h => h) (Or.inl ⟨by rfl, ?_⟩) hS ?_
        rotate_left
        · intro wv _; go_simp; try with_reducible rfl
        try simp only [Act.put, List.setIfInBounds_toArray, List.set_cons_zero, List.set_cons_succ]
        refine wpAnyH_take (i := 9) (oi := ⟨some 25, .fieldAddr 24 (.tmp 24) 0, 0, "tree.go:133", #[⟨8, .data⟩, ⟨2, .guard⟩], some (2, false)⟩) (v := ?_) rfl (by kernel_rfl) (by kernel_rfl) (by kernel_rfl) (fun _ _ _ h => h) (Or.inl ⟨by rfl, ?_⟩) hS ?_
        rotate_left
        · intro wv _; go_simp; try with_reducible rfl
        try simp only [Act.put, List.setIfInBounds_toArray, List.set_cons_zero, List.set_cons_succ]
        refine wpAnyH_take (i := 10) (oi := ⟨some 26, .load 22 (.tmp 25), 22, "tree.go:133", #[⟨9, .data⟩, ⟨2, .guard⟩], some (2, false)⟩) (v := ?_) rfl (by kernel_rfl) (by kernel_rfl) (by kernel_rfl) (fun _ _ _ h => h) (Or.inl ⟨by rfl, ?_⟩) hS ?_
        rotate_left
        · intro wv hS; have hrun := (hS.out.cell (p := ⟨p, 0, none⟩) (blk_lt HX.out.box)).trans HC0.out; go_simp; try with_reducible rfl
        try simp only [Act.put, List.setIfInBounds_toArray, List.set_cons_zero, List.set_cons_succ]
        refine wpAnyH_take (i := 11) (oi := ⟨some 27, .move (.tmp 1), 3, "tree.go:133", #[⟨2, .guard⟩], some (2, false)⟩) (v := ?_) rfl (by kernel_rfl) (by kernel_rfl) (by kernel_rfl) (fun _ _ _ h => h) (Or.inl ⟨by rfl, ?_⟩) hS ?_
        rotate_left
        · intro wv _; go_simp; try with_reducible rfl
        try simp only [Act.put, List.setIfInBounds_toArray, List.set_cons_zero, List.set_cons_succ]
        refine wpAnyH_take (i := 12) (oi := ⟨some 28, .indexAddr 22 (.tmp 26) (.tmp 27), 0, "tree.go:133", #[⟨10, .data⟩, ⟨11, .data⟩, ⟨2, .guard⟩], some (2, false)⟩) (v := ?_) rfl (by kernel_rfl) (by kernel_rfl) (by kernel_rfl) (fun _ _ _ h => h) (Or.inl ⟨by rfl, ?_⟩) hS ?_
        rotate_left
        · intro wv _; go_simp; try with_reducible rfl
        try simp only [Act.put, List.setIfInBounds_toArray, List.set_cons_zero, List.set_cons_succ]
        refine wpAnyH_take (i := 13) (oi := ⟨some 29, .load 52 (.tmp 28), 52, "tree.go:133", #[⟨12, .data⟩, ⟨2, .guard⟩], some (2, false)⟩) (v := .agg (([.int .i64 r2.k, .int .u32 r2.p, .int .i64 r2.l, .int .i64 r2.r, .int .i64 r2.h, .int .i64 r2.t] : List Value)).toArray) rfl (by kernel_rfl) (by kernel_rfl) (by kernel_rfl) (fun _ _ _ h => h) (yieldsIf_load_mid (by rfl) _ _ (by rfl) (g) (i * 6) (by rfl) (([.int .i64 r2.k, .int .u32 r2.p, .int .i64 r2.l, .int .i64 r2.r, .int .i64 r2.h, .int .i64 r2.t] : List Value)) _ (fun wv hS => nd_range (hS.out.cell (p := ⟨g, i * 6, none⟩) (gpz HX.out) |>.trans KB.out.1) (hS.out.cell (p := ⟨g, i * 6 + 1, none⟩) (gpz HX.out) |>.trans KB.out.2.1) (hS.out.cell (p := ⟨g, i * 6 + 2, none⟩) (gpz HX.out) |>.trans KB.out.2.2.1) (hS.out.cell (p := ⟨g, i * 6 + 3, none⟩) (gpz HX.out) |>.trans KB.out.2.2.2.1) (hS.out.cell (p := ⟨g, i * 6 + 4, none⟩) (gpz HX.out) |>.trans KB.out.2.2.2.2.1) (hS.out.cell (p := ⟨g, i * 6 + 5, none⟩) (gpz HX.out) |>.trans KB.out.2.2.2.2.2)) Try.underlying52 (by rfl) (by kernel_rfl)) hS ?_
        try simp only [Act.put, List.setIfInBounds_toArray, List.set_cons_zero, List.set_cons_succ]
        refine wpAnyH_ready (rs := [14]) (by kernel_rfl) (by simp) (AllReadyH.cons (o := ⟨some 30, .call { callee := .value (.func 42), args := #[.tmp 21, .tmp 29], argTypes := #[52, 52] }, 4, "tree.go:133", #[⟨5, .data⟩, ⟨13, .data⟩, ⟨2, .chain⟩, ⟨2, .guard⟩], some (2, false)⟩) rfl (fun K hK => ?_) AllReadyH.nil)
        go_simp
        refine (AB.out _).mono ?_; rintro e wa ⟨rfl, hb⟩
        replace hS := Lib.hid (hS.out.trans (hb.mono hS.out.size))
        clear hb
        go_wp2_with fail
        refine Shut.out hK _ _ hS (fun _ => ?_)
        clear hK K
        try simp only [Act.put, List.setIfInBounds_toArray, List.set_cons_zero, List.set_cons_succ]
        refine wpAnyH_take (i := 15) (oi := ⟨some 31, .pick (.tmp 18) (.const (Value.bool true)) (.tmp 30), 4, "tree.go:133", #[⟨2, .data⟩, ⟨14, .data⟩], none⟩) (v := ?_) rfl (by kernel_rfl) (by kernel_rfl) (by kernel_rfl) (fun _ _ _ h => h) (Or.inl ⟨by rfl, ?_⟩) hS ?_
        rotate_left
        · intro wv _; go_simp; try with_reducible rfl
        try simp only [Act.put, List.setIfInBounds_toArray, List.set_cons_zero, List.set_cons_succ]
        refine wpAnyH_done (by kernel_rfl) ?_ _
        refine NoPanic.normal ?_
        clear KB hr2
        rw [← hr] at KA
        clear hr
        have G1 := Lib.hid (Gp.below (p := p) (g := g) hS.out)
        have HX1 := Lib.hid (HX.out.below hS.out)
        have HC2 := Lib.hid (HC.out _ HX1.out)
        have kl := (HX1.out.at pl hpl).1
        clear c0 HC KA HC0 hS HX HX1 AB
        unfold keyT at HC2
        obtain ⟨kp, hkp⟩ : ∃ kp, (ndAt ns (pl : Int)).k = kp := ⟨_, rfl⟩
        rw [hkp] at kl HC2
        replace HW := Lib.hid (fun ns1 x y (h : SplitOk ns _ kp ns1 x y) => HW.out ns1 x y (by unfold keyT; rw [hkp]; exact h))
        clear hkp
        go_wp2_with fail
        refine HC2.out.mono ?_
        rintro e w1 ⟨ns1, x, y, hok, rfl, hbx, hg⟩
        have OK := Lib.hid (HW.out ns1 x y hok)
        have B1 := hbx.setL pl hpl x
        have B2 := Lib.hid (B1.setR pl hpl y)
        have G2 := Lib.hid (((G1.out.trans hg).setg (pl * 6 + 2) (.int .i64 x)).setg (pl * 6 + 3) (.int .i64 y))
        have ff := hbx.own.frozenAt (pl * 6 + 2)
        have kk := (hbx.at pl hpl).2.2.1
        have ff3 := hbx.own.frozenAt (pl * 6 + 3)
        have kk3 := (hbx.at pl hpl).2.2.2.1
        clear hbx hg hok HC2 kl B1 HW
        go_wp2
        go_ret
        exact ⟨_, (pl : Int), OK.out, rfl, B2.out, G2.out⟩
  induction f with
  | zero =>
    intro ns l i w hf hx ht hs hpi hk
    have hl : l = [] := List.eq_nil_of_length_eq_zero (by omega)
    subst hl
    exact key ns [] i w hx ht hs hpi hk (Or.inl (ht.nil_of rfl))
  | succ f ih =>
    intro ns l i w hf hx ht hs hpi hk
    by_cases hi : i = -1
    · exact key ns l i w hx ht hs hpi hk (Or.inl hi)
    cases hab : aboveN (ndAt ns (pl : Int)) (ndAt ns i)
    case true => exact key ns l i w hx ht hs hpi hk (Or.inr hab)
    obtain ⟨a, b, rfl, h0, h1, ta, tb, pa, pb⟩ := ht.cases hi
    have hlen := hx.len
    obtain ⟨i, rfl⟩ : ∃ k : Nat, i = k := ⟨i.toNat, by omega⟩
    have i0 : (0 : Int) ≤ (i : Int) := h0
    have i1 : (i : Int) < (n : Int) := by omega
    have hin : i < n := by omega
    have b0 : ((i : Int) == -1) = false := by simp
    have HX := Lib.hid hx
    have c0 := hx.c0
    have HC0 := Lib.hid c0
    have KA := Lib.hid (hx.at pl hpl)
    have KB := Lib.hid (hx.at i hin)
    have AB := fun (W : World) => tpAbove_any (ndAt ns (pl : Int)) (ndAt ns (i : Int)) W
    rw [hab] at AB
    replace AB := Lib.hid AB
    simp only [List.length_append, List.length_cons] at hf
    obtain ⟨s1, s2, s3, s4⟩ := rise_split hs
    have hki : (ndAt ns (i : Int)).k ≠ (ndAt ns (pl : Int)).k := hk i (by simp)
    clear key
    by_cases hlt : (ndAt ns (pl : Int)).k < (ndAt ns (i : Int)).k
    · have b1 : decide ((ndAt ns (pl : Int)).k < (ndAt ns (i : Int)).k) = true := by simpa using hlt
      have HS := Lib.hid (fun ns' x h => with_left (ns' := ns') (x := x) hs hpi h0 h1 tb pa pb hlt hab h)
      have HC := Lib.hid (fun (W : World) (h : Bx W p g n d base rt fr ns) => ih ns a (ndAt ns (i : Int)).l W (by omega) h ta s3 (fun hm => hpi (by simp [hm])) (fun x hx => hk x (by simp [hx])))
      clear ih hx ht hs hk hpi ta tb pa pb hi h0 h1 s1 s2 s3 s4 hki hlt hf hlen hab
      generalize ndAt ns (i : Int) = r2 at *
      generalize ndAt ns (pl : Int) = r at *
      go_enter Try.func29, Try.ntmps29
      go_wp2
      refine wp_region_noPanic ?_
      refine wp_region_held_drew (S := (fun wv => Hid (Below w.heap.size w wv))) (by kernel_rfl) (Lib.hid (Below.refl _ w).drew) (fun hS => ?_)
      refine wpAnyH_take (i := 0) (oi := ⟨some 16, .move (.tmp 1), 3, "tree.go:133", #[], none⟩) (v := ?_) rfl (by kernel_rfl) (by kernel_rfl) (by kernel_rfl) (fun _ _ _ h => h) (Or.inl ⟨by rfl, ?_⟩) hS ?_
      rotate_left
      · intro wv _; go_simp; try with_reducible rfl
      try simp only [Act.put, List.setIfInBounds_toArray, List.set_cons_zero, List.set_cons_succ]
      refine wpAnyH_take (i := 1) (oi := ⟨some 17, .binOp .eql 3 (.tmp 16) (.const (Value.int IntKind.i64 (-1))) 3, 4, "tree.go:133", #[⟨0, .data⟩], none⟩) (v := ?_) rfl (by kernel_rfl) (by kernel_rfl) (by kernel_rfl) (fun _ _ _ h => h) (Or.inl ⟨by rfl, ?_⟩) hS ?_
      rotate_left
      · intro wv _; go_simp; try with_reducible rfl
      try simp only [Act.put, List.setIfInBounds_toArray, List.set_cons_zero, List.set_cons_succ]
      refine wpAnyH_take (i := 2) (oi := ⟨some 18, .move (.tmp 17), 4, "tree.go:133", #[⟨1, .data⟩], none⟩) (v := ?_) rfl (by kernel_rfl) (by kernel_rfl) (by kernel_rfl) (fun _ _ _ h => h) (Or.inl ⟨by rfl, ?_⟩) hS ?_
      rotate_left
      · intro wv _; go_simp; try with_reducible rfl
      try simp only [Act.put, List.setIfInBounds_toArray, List.set_cons_zero, List.set_cons_succ]
      refine wpAnyH_take (i := 3) (oi := ⟨some 19, .move (.tmp 7), 71, "tree.go:133", #[⟨2, .guard⟩], some (2, false)⟩) (v := ?_) rfl (by kernel_rfl) (by kernel_rfl) (by kernel_rfl) (fun _ _ _ h => h) (Or.inl ⟨by rfl, ?_⟩) hS ?_
      rotate_left
      · intro wv _; go_simp; try with_reducible rfl
      try simp only [Act.put, List.setIfInBounds_toArray, List.set_cons_zero, List.set_cons_succ]
      refine wpAnyH_take (i := 4) (oi := ⟨some 20, .nilCheck (.tmp 19), 0, "tree.go:133", #[⟨3, .data⟩, ⟨2, .guard⟩], some (2, false)⟩) (v := ?_) rfl (by kernel_rfl) (by kernel_rfl) (by kernel_rfl) (fun _ _ _ h => h) (Or.inl ⟨by rfl, ?_⟩) hS ?_
      rotate_left
      · intro wv _; go_simp; try with_reducible rfl
      try simp only [Act.put, List.setIfInBounds_toArray, List.set_cons_zero, List.set_cons_succ]
      refine wpAnyH_take (i := 5) (oi := ⟨some 21, .load 52 (.tmp 20), 52, "tree.go:133", #[⟨4, .data⟩, ⟨2, .guard⟩], some (2, false)⟩) (v := .agg (([.int .i64 r.k, .int .u32 r.p, .int .i64 r.l, .int .i64 r.r, .int .i64 r.h, .int .i64 r.t] : List Value)).toArray) rfl (by kernel_rfl) (by kernel_rfl) (by kernel_rfl) (fun _ _ _ h => h) (yieldsIf_load_mid (by rfl) _ _ (by rfl) (g) (pl * 6) (by rfl) (([.int .i64 r.k, .int .u32 r.p, .int .i64 r.l, .int .i64 r.r, .int .i64 r.h, .int .i64 r.t] : List Value)) _ (fun wv hS => nd_range (hS.out.cell (p := ⟨g, pl * 6, none⟩) (gpz HX.out) |>.trans KA.out.1) (hS.out.cell (p := ⟨g, pl * 6 + 1, none⟩) (gpz HX.out) |>.trans KA.out.2.1) (hS.out.cell (p := ⟨g, pl * 6 + 2, none⟩) (gpz HX.out) |>.trans KA.out.2.2.1) (hS.out.cell (p := ⟨g, pl * 6 + 3, none⟩) (gpz HX.out) |>.trans KA.out.2.2.2.1) (hS.out.cell (p := ⟨g, pl * 6 + 4, none⟩) (gpz HX.out) |>.trans KA.out.2.2.2.2.1) (hS.out.cell (p := ⟨g, pl * 6 + 5, none⟩) (gpz HX.out) |>.trans KA.out.2.2.2.2.2)) Try.underlying52 (by rfl) (by kernel_rfl)) hS ?_
      try simp only [Act.put, List.setIfInBounds_toArray, List.set_cons_zero, List.set_cons_succ]
      refine wpAnyH_take (i := 6) (oi := ⟨some 22, .move (.tmp 0), 70, "tree.go:133", #[⟨2, .guard⟩], some (2, false)⟩) (v := ?_) rfl (by kernel_rfl) (by kernel_rfl) (by kernel_rfl) (fun _ _ _ h => h) (Or.inl ⟨by rfl, ?_⟩) hS ?_
      rotate_left
      · intro wv _; go_simp; try with_reducible rfl
      try simp only [Act.put, List.setIfInBounds_toArray, List.set_cons_zero, List.set_cons_succ]
      refine wpAnyH_take (i := 7) (oi := ⟨some 23, .nilCheck (.tmp 22), 0, "tree.go:133", #[⟨6, .data⟩, ⟨2, .guard⟩], some (2, false)⟩) (v := ?_) rfl (by kernel_rfl) (by kernel_rfl) (by kernel_rfl) (fun _ _ _ h => h) (Or.inl ⟨by rfl, ?_⟩) hS ?_
      rotate_left
      · intro wv _; go_simp; try with_reducible rfl
      try simp only [Act.put, List.setIfInBounds_toArray, List.set_cons_zero, List.set_cons_succ]
      refine wpAnyH_take (i := 8) (oi := ⟨some 24, .fieldAddr 54 (.tmp 23) 0, 0, "tree.go:133", #[⟨7, .data⟩, ⟨2, .guard⟩], some (2, false)⟩) (v := ?_) rfl (by kernel_rfl) (by kernel_rfl) (by kernel_rfl) (fun _ _ _ h => h) (Or.inl ⟨by rfl, ?_⟩) hS ?_
      rotate_left
      · intro wv _; go_simp; try with_reducible rfl
      try simp only [Act.put, List.setIfInBounds_toArray, List.set_cons_zero, List.set_cons_succ]
      refine wpAnyH_take (i := 9) (oi := ⟨some 25, .fieldAddr 24 (.tmp 24) 0, 0, "tree.go:133", #[⟨8, .data⟩, ⟨2, .guard⟩], some (2, false)⟩) (v := ?_) rfl (by kernel_rfl) (by kernel_rfl) (by kernel_rfl) (fun _ _ _ h => h) (Or.inl ⟨by rfl, ?_⟩) hS ?_
      rotate_left
      · intro wv _; go_simp; try with_reducible rfl
      try simp only [Act.put, List.setIfInBounds_toArray, List.set_cons_zero, List.set_cons_succ]
      refine wpAnyH_take (i := 10) (oi := ⟨some 26, .load 22 (.tmp 25), 22, "tree.go:133", #[⟨9, .data⟩, ⟨2, .guard⟩], some (2, false)⟩) (v := ?_) rfl (by kernel_rfl) (by kernel_rfl) (by kernel_rfl) (fun _ _ _ h => h) (Or.inl ⟨by rfl, ?_⟩) hS ?_
      rotate_left
      · intro wv hS; have hrun := (hS.out.cell (p := ⟨p, 0, none⟩) (blk_lt HX.out.box)).trans HC0.out; go_simp; try with_reducible rfl
      try simp only [Act.put, List.setIfInBounds_toArray, List.set_cons_zero, List.set_cons_succ]
      refine wpAnyH_take (i := 11) (oi := ⟨some 27, .move (.tmp 1), 3, "tree.go:133", #[⟨2, .guard⟩], some (2, false)⟩) (v := ?_) rfl (by kernel_rfl) (by kernel_rfl) (by kernel_rfl) (fun _ _ _ h => h) (Or.inl ⟨by rfl, ?_⟩) hS ?_
      rotate_left
      · intro wv _; go_simp; try with_reducible rfl
      try simp only [Act.put, List.setIfInBounds_toArray, List.set_cons_zero, List.set_cons_succ]
      refine wpAnyH_take (i := 12) (oi := ⟨some 28, .indexAddr 22 (.tmp 26) (.tmp 27), 0, "tree.go:133", #[⟨10, .data⟩, ⟨11, .data⟩, ⟨2, .guard⟩], some (2, false)⟩) (v := ?_) rfl (by kernel_rfl) (by kernel_rfl) (by kernel_rfl) (fun _ _ _ h => h) (Or.inl ⟨by rfl, ?_⟩) hS ?_
      rotate_left
      · intro wv _; go_simp; try with_reducible rfl
      try simp only [Act.put, List.setIfInBounds_toArray, List.set_cons_zero, List.set_cons_succ]
      refine wpAnyH_take (i := 13) (oi := ⟨some 29, .load 52 (.tmp 28), 52, "tree.go:133", #[⟨12, .data⟩, ⟨2, .guard⟩], some (2, false)⟩) (v := .agg (([.int .i64 r2.k, .int .u32 r2.p, .int .i64 r2.l, .int .i64 r2.r, .int .i64 r2.h, .int .i64 r2.t] : List Value)).toArray) rfl (by kernel_rfl) (by kernel_rfl) (by kernel_rfl) (fun _ _ _ h => h) (yieldsIf_load_mid (by rfl) _ _ (by rfl) (g) (i * 6) (by rfl) (([.int .i64 r2.k, .int .u32 r2.p, .int .i64 r2.l, .int .i64 r2.r, .int .i64 r2.h, .int .i64 r2.t] : List Value)) _ (fun wv hS => nd_range (hS.out.cell (p := ⟨g, i * 6, none⟩) (gpz HX.out) |>.trans KB.out.1) (hS.out.cell (p := ⟨g, i * 6 + 1, none⟩) (gpz HX.out) |>.trans KB.out.2.1) (hS.out.cell (p := ⟨g, i * 6 + 2, none⟩) (gpz HX.out) |>.trans KB.out.2.2.1) (hS.out.cell (p := ⟨g, i * 6 + 3, none⟩) (gpz HX.out) |>.trans KB.out.2.2.2.1) (hS.out.cell (p := ⟨g, i * 6 + 4, none⟩) (gpz HX.out) |>.trans KB.out.2.2.2.2.1) (hS.out.cell (p := ⟨g, i * 6 + 5, none⟩) (gpz HX.out) |>.trans KB.out.2.2.2.2.2)) Try.underlying52 (by rfl) (by kernel_rfl)) hS ?_
      try simp only [Act.put, List.setIfInBounds_toArray, List.set_cons_zero, List.set_cons_succ]
      refine wpAnyH_ready (rs := [14]) (by kernel_rfl) (by simp) (AllReadyH.cons (o := ⟨some 30, .call { callee := .value (.func 42), args := #[.tmp 21, .tmp 29], argTypes := #[52, 52] }, 4, "tree.go:133", #[⟨5, .data⟩, ⟨13, .data⟩, ⟨2, .chain⟩, ⟨2, .guard⟩], some (2, false)⟩) rfl (fun K hK => ?_) AllReadyH.nil)
      go_simp
      refine (AB.out _).mono ?_; rintro e wa ⟨rfl, hb⟩
      replace hS := Lib.hid (hS.out.trans (hb.mono hS.out.size))
      clear hb
      go_wp2_with fail
      refine Shut.out hK _ _ hS (fun _ => ?_)
      clear hK K
      try simp only [Act.put, List.setIfInBounds_toArray, List.set_cons_zero, List.set_cons_succ]
      refine wpAnyH_take (i := 15) (oi := ⟨some 31, .pick (.tmp 18) (.const (Value.bool true)) (.tmp 30), 4, "tree.go:133", #[⟨2, .data⟩, ⟨14, .data⟩], none⟩) (v := ?_) rfl (by kernel_rfl) (by kernel_rfl) (by kernel_rfl) (fun _ _ _ h => h) (Or.inl ⟨by rfl, ?_⟩) hS ?_
      rotate_left
      · intro wv _; go_simp; try with_reducible rfl
      try simp only [Act.put, List.setIfInBounds_toArray, List.set_cons_zero, List.set_cons_succ]
      refine wpAnyH_done (by kernel_rfl) ?_ _
      refine NoPanic.normal ?_
      have ca := (HX.out.below hS.out).c0
      clear c0
      go_wp2
      refine wp_region_noPanic ?_
      refine wp_region_held_drew (S := (fun wv => Hid (Below w.heap.size w wv))) (by kernel_rfl) (Lib.hid hS.out.drew) (fun hS => ?_)
      refine wpAnyH_take (i := 0) (oi := ⟨some 56, .move (.tmp 7), 71, "tree.go:138", #[], none⟩) (v := ?_) rfl (by kernel_rfl) (by kernel_rfl) (by kernel_rfl) (fun _ _ _ h => h) (Or.inl ⟨by rfl, ?_⟩) hS ?_
      rotate_left
      · intro wv _; go_simp; try with_reducible rfl
      try simp only [Act.put, List.setIfInBounds_toArray, List.set_cons_zero, List.set_cons_succ]
      refine wpAnyH_take (i := 1) (oi := ⟨some 57, .nilCheck (.tmp 56), 0, "tree.go:138", #[⟨0, .data⟩], none⟩) (v := ?_) rfl (by kernel_rfl) (by kernel_rfl) (by kernel_rfl) (fun _ _ _ h => h) (Or.inl ⟨by rfl, ?_⟩) hS ?_
      rotate_left
      · intro wv _; go_simp; try with_reducible rfl
      try simp only [Act.put, List.setIfInBounds_toArray, List.set_cons_zero, List.set_cons_succ]
      refine wpAnyH_take (i := 2) (oi := ⟨some 58, .fieldAddr 52 (.tmp 57) 0, 0, "tree.go:138", #[⟨1, .data⟩], none⟩) (v := ?_) rfl (by kernel_rfl) (by kernel_rfl) (by kernel_rfl) (fun _ _ _ h => h) (Or.inl ⟨by rfl, ?_⟩) hS ?_
      rotate_left
      · intro wv _; go_simp; try with_reducible rfl
      try simp only [Act.put, List.setIfInBounds_toArray, List.set_cons_zero, List.set_cons_succ]
      refine wpAnyH_take (i := 3) (oi := ⟨some 59, .load 3 (.tmp 58), 3, "tree.go:138", #[⟨2, .data⟩], none⟩) (v := ?_) rfl (by kernel_rfl) (by kernel_rfl) (by kernel_rfl) (fun _ _ _ h => h) (Or.inl ⟨by rfl, ?_⟩) hS ?_
      rotate_left
      · intro wv hS; have hrun := (hS.out.cell (p := ⟨g, pl * 6, none⟩) (gpz HX.out)).trans KA.out.1; go_simp; try with_reducible rfl
      try simp only [Act.put, List.setIfInBounds_toArray, List.set_cons_zero, List.set_cons_succ]
      refine wpAnyH_take (i := 4) (oi := ⟨some 60, .move (.tmp 8), 71, "tree.go:138", #[], none⟩) (v := ?_) rfl (by kernel_rfl) (by kernel_rfl) (by kernel_rfl) (fun _ _ _ h => h) (Or.inl ⟨by rfl, ?_⟩) hS ?_
      rotate_left
      · intro wv _; go_simp; try with_reducible rfl
      try simp only [Act.put, List.setIfInBounds_toArray, List.set_cons_zero, List.set_cons_succ]
      refine wpAnyH_take (i := 5) (oi := ⟨some 61, .nilCheck (.tmp 60), 0, "tree.go:138", #[⟨4, .data⟩], none⟩) (v := ?_) rfl (by kernel_rfl) (by kernel_rfl) (by kernel_rfl) (fun _ _ _ h => h) (Or.inl ⟨by rfl, ?_⟩) hS ?_
      rotate_left
      · intro wv _; go_simp; try with_reducible rfl
      try simp only [Act.put, List.setIfInBounds_toArray, List.set_cons_zero, List.set_cons_succ]
      refine wpAnyH_take (i := 6) (oi := ⟨some 62, .fieldAddr 52 (.tmp 61) 0, 0, "tree.go:138", #[⟨5, .data⟩], none⟩) (v := ?_) rfl (by kernel_rfl) (by kernel_rfl) (by kernel_rfl) (fun _ _ _ h => h) (Or.inl ⟨by rfl, ?_⟩) hS ?_
      rotate_left
      · intro wv _; go_simp; try with_reducible rfl
      try simp only [Act.put, List.setIfInBounds_toArray, List.set_cons_zero, List.set_cons_succ]
      refine wpAnyH_take (i := 7) (oi := ⟨some 63, .load 3 (.tmp 62), 3, "tree.go:138", #[⟨6, .data⟩], none⟩) (v := ?_) rfl (by kernel_rfl) (by kernel_rfl) (by kernel_rfl) (fun _ _ _ h => h) (Or.inl ⟨by rfl, ?_⟩) hS ?_
      rotate_left
      · intro wv hS; have hrun := (hS.out.cell (p := ⟨g, i * 6, none⟩) (gpz HX.out)).trans KB.out.1; go_simp; try with_reducible rfl
      try simp only [Act.put, List.setIfInBounds_toArray, List.set_cons_zero, List.set_cons_succ]
      refine wpAnyH_take (i := 8) (oi := ⟨some 64, .binOp .lss 3 (.tmp 59) (.tmp 63) 3, 4, "tree.go:138", #[⟨3, .data⟩, ⟨7, .data⟩], none⟩) (v := ?_) rfl (by kernel_rfl) (by kernel_rfl) (by kernel_rfl) (fun _ _ _ h => h) (Or.inl ⟨by rfl, ?_⟩) hS ?_
      rotate_left
      · intro wv _; go_simp; try with_reducible rfl
      try simp only [Act.put, List.setIfInBounds_toArray, List.set_cons_zero, List.set_cons_succ]
      refine wpAnyH_done (by kernel_rfl) ?_ _
      refine NoPanic.normal ?_
      have G1 := Lib.hid (Gp.below (p := p) (g := g) hS.out)
      have HC2 := Lib.hid (HC.out _ (HX.out.below hS.out))
      have kl := (hS.out.cell (p := ⟨g, i * 6 + 2, none⟩) (gpz HX.out)).trans KB.out.2.2.1
      clear HC KA KB hS HC0 ca
      go_wp2_with fail
      refine HC2.out.mono ?_
      rintro e w1 ⟨ns1, x1, hok, rfl, hbx, hg⟩
      have OK := Lib.hid (HS.out ns1 x1 hok)
      have B2 := Lib.hid (hbx.setL i hin x1)
      have G2 := Lib.hid ((G1.out.trans hg).setg (i * 6 + 2) (.int .i64 x1))
      have ff := hbx.own.frozenAt (i * 6 + 2)
      have kk := (hbx.at i hin).2.2.1
      clear hbx hg hok HS HC2 kl
      go_wp2
      go_ret
      exact ⟨_, (i : Int), OK.out, rfl, B2.out, G2.out⟩
    · have b1 : decide ((ndAt ns (pl : Int)).k < (ndAt ns (i : Int)).k) = false := by simpa using hlt
      have HS := Lib.hid (fun ns' x h => with_right (ns' := ns') (x := x) hs hpi h0 h1 ta pa pb (by omega) hab h)
      have HC := Lib.hid (fun (W : World) (h : Bx W p g n d base rt fr ns) => ih ns b (ndAt ns (i : Int)).r W (by omega) h tb s4 (fun hm => hpi (by simp [hm])) (fun x hx => hk x (by simp [hx])))
      clear ih hx ht hs hk hpi ta tb pa pb hi h0 h1 s1 s2 s3 s4 hki hlt hf hlen hab
      generalize ndAt ns (i : Int) = r2 at *
      generalize ndAt ns (pl : Int) = r at *
      go_enter Try.func29, Try.ntmps29
      go_wp2
      refine wp_region_noPanic ?_
      refine wp_region_held_drew (S := (fun wv => Hid (Below w.heap.size w wv))) (by kernel_rfl) (Lib.hid (Below.refl _ w).drew) (fun hS => ?_)
      refine wpAnyH_take (i := 0) (oi := ⟨some 16, .move (.tmp 1), 3, "tree.go:133", #[], none⟩) (v := ?_) rfl (by kernel_rfl) (by kernel_rfl) (by kernel_rfl) (fun _ _ _ h => h) (Or.inl ⟨by rfl, ?_⟩) hS ?_
      rotate_left
      · intro wv _; go_simp; try with_reducible rfl
      try simp only [Act.put, List.setIfInBounds_toArray, List.set_cons_zero, List.set_cons_succ]
      refine wpAnyH_take (i := 1) (oi := ⟨some 17, .binOp .eql 3 (.tmp 16) (.const (Value.int IntKind.i64 (-1))) 3, 4, "tree.go:133", #[⟨0, .data⟩], none⟩) (v := ?_) rfl (by kernel_rfl) (by kernel_rfl) (by kernel_rfl) (fun _ _ _ h => h) (Or.inl ⟨by rfl, ?_⟩) hS ?_
      rotate_left
      · intro wv _; go_simp; try with_reducible rfl
      try simp only [Act.put, List.setIfInBounds_toArray, List.set_cons_zero, List.set_cons_succ]
      refine wpAnyH_take (i := 2) (oi := ⟨some 18, .move (.tmp 17), 4, "tree.go:133", #[⟨1, .data⟩], none⟩) (v := ?_) rfl (by kernel_rfl) (by kernel_rfl) (by kernel_rfl) (fun _ _ _ h => h) (Or.inl ⟨by rfl, ?_⟩) hS ?_
      rotate_left
      · intro wv _; go_simp; try with_reducible rfl
      try simp only [Act.put, List.setIfInBounds_toArray, List.set_cons_zero, List.set_cons_succ]
      refine wpAnyH_take (i := 3) (oi := ⟨some 19, .move (.tmp 7), 71, "tree.go:133", #[⟨2, .guard⟩], some (2, false)⟩) (v := ?_) rfl (by kernel_rfl) (by kernel_rfl) (by kernel_rfl) (fun _ _ _ h => h) (Or.inl ⟨by rfl, ?_⟩) hS ?_
      rotate_left
      · intro wv _; go_simp; try with_reducible rfl
      try simp only [Act.put, List.setIfInBounds_toArray, List.set_cons_zero, List.set_cons_succ]
      refine wpAnyH_take (i := 4) (oi := ⟨some 20, .nilCheck (.tmp 19), 0, "tree.go:133", #[⟨3, .data⟩, ⟨2, .guard⟩], some (2, false)⟩) (v := ?_) rfl (by kernel_rfl) (by kernel_rfl) (by kernel_rfl) (fun _ _ _ h => h) (Or.inl ⟨by rfl, ?_⟩) hS ?_
      rotate_left
      · intro wv _; go_simp; try with_reducible rfl
      try simp only [Act.put, List.setIfInBounds_toArray, List.set_cons_zero, List.set_cons_succ]
      refine wpAnyH_take (i := 5) (oi := ⟨some 21, .load 52 (.tmp 20), 52, "tree.go:133", #[⟨4, .data⟩, ⟨2, .guard⟩], some (2, false)⟩) (v := .agg (([.int .i64 r.k, .int .u32 r.p, .int .i64 r.l, .int .i64 r.r, .int .i64 r.h, .int .i64 r.t] : List Value)).toArray) rfl (by kernel_rfl) (by kernel_rfl) (by kernel_rfl) (fun _ _ _ h => h) (yieldsIf_load_mid (by rfl) _ _ (by rfl) (g) (pl * 6) (by rfl) (([.int .i64 r.k, .int .u32 r.p, .int .i64 r.l, .int .i64 r.r, .int .i64 r.h, .int .i64 r.t] : List Value)) _ (fun wv hS => nd_range (hS.out.cell (p := ⟨g, pl * 6, none⟩) (gpz HX.out) |>.trans KA.out.1) (hS.out.cell (p := ⟨g, pl * 6 + 1, none⟩) (gpz HX.out) |>.trans KA.out.2.1) (hS.out.cell (p := ⟨g, pl * 6 + 2, none⟩) (gpz HX.out) |>.trans KA.out.2.2.1) (hS.out.cell (p := ⟨g, pl * 6 + 3, none⟩) (gpz HX.out) |>.trans KA.out.2.2.2.1) (hS.out.cell (p := ⟨g, pl * 6 + 4, none⟩) (gpz HX.out) |>.trans KA.out.2.2.2.2.1) (hS.out.cell (p := ⟨g, pl * 6 + 5, none⟩) (gpz HX.out) |>.trans KA.out.2.2.2.2.2)) Try.underlying52 (by rfl) (by kernel_rfl)) hS ?_
      try simp only [Act.put, List.setIfInBounds_toArray, List.set_cons_zero, List.set_cons_succ]
      refine wpAnyH_take (i := 6) (oi := ⟨some 22, .move (.tmp 0), 70, "tree.go:133", #[⟨2, .guard⟩], some (2, false)⟩) (v := ?_) rfl (by kernel_rfl) (by kernel_rfl) (by kernel_rfl) (fun _ _ _ h => h) (Or.inl ⟨by rfl, ?_⟩) hS ?_
      rotate_left
      · intro wv _; go_simp; try with_reducible rfl
      try simp only [Act.put, List.setIfInBounds_toArray, List.set_cons_zero, List.set_cons_succ]
      refine wpAnyH_take (i := 7) (oi := ⟨some 23, .nilCheck (.tmp 22), 0, "tree.go:133", #[⟨6, .data⟩, ⟨2, .guard⟩], some (2, false)⟩) (v := ?_) rfl (by kernel_rfl) (by kernel_rfl) (by kernel_rfl) (fun _ _ _ h => h) (Or.inl ⟨by rfl, ?_⟩) hS ?_
      rotate_left
      · intro wv _; go_simp; try with_reducible rfl
      try simp only [Act.put, List.setIfInBounds_toArray, List.set_cons_zero, List.set_cons_succ]
      refine wpAnyH_take (i := 8) (oi := ⟨some 24, .fieldAddr 54 (.tmp 23) 0, 0, "tree.go:133", #[⟨7, .data⟩, ⟨2, .guard⟩], some (2, false)⟩) (v := ?_) rfl (by kernel_rfl) (by kernel_rfl) (by kernel_rfl) (fun _ _ _ h => h) (Or.inl ⟨by rfl, ?_⟩) hS ?_
      rotate_left
      · intro wv _; go_simp; try with_reducible rfl
      try simp only [Act.put, List.setIfInBounds_toArray, List.set_cons_zero, List.set_cons_succ]
      refine wpAnyH_take (i := 9) (oi := ⟨some 25, .fieldAddr 24 (.tmp 24) 0, 0, "tree.go:133", #[⟨8, .data⟩, ⟨2, .guard⟩], some (2, false)⟩) (v := ?_) rfl (by kernel_rfl) (by kernel_rfl) (by kernel_rfl) (fun _ _ _ h => h) (Or.inl ⟨by rfl, ?_⟩) hS ?_
      rotate_left
      · intro wv _; go_simp; try with_reducible rfl
      try simp only [Act.put, List.setIfInBounds_toArray, List.set_cons_zero, List.set_cons_succ]
      refine wpAnyH_take (i := 10) (oi := ⟨some 26, .load 22 (.tmp 25), 22, "tree.go:133", #[⟨9, .data⟩, ⟨2, .guard⟩], some (2, false)⟩) (v := ?_) rfl (by kernel_rfl) (by kernel_rfl) (by kernel_rfl) (fun _ _ _ h => h) (Or.inl ⟨by rfl, ?_⟩) hS ?_
      rotate_left
      · intro wv hS; have hrun := (hS.out.cell (p := ⟨p, 0, none⟩) (blk_lt HX.out.box)).trans HC0.out; go_simp; try with_reducible rfl
      try simp only [Act.put, List.setIfInBounds_toArray, List.set_cons_zero, List.set_cons_succ]
      refine wpAnyH_take (i := 11) (oi := ⟨some 27, .move (.tmp 1), 3, "tree.go:133", #[⟨2, .guard⟩], some (2, false)⟩) (v := ?_) rfl (by kernel_rfl) (by kernel_rfl) (by kernel_rfl) (fun _ _ _ h => h) (Or.inl ⟨by rfl, ?_⟩) hS ?_
      rotate_left
      · intro wv _; go_simp; try with_reducible rfl
      try simp only [Act.put, List.setIfInBounds_toArray, List.set_cons_zero, List.set_cons_succ]
      refine wpAnyH_take (i := 12) (oi := ⟨some 28, .indexAddr 22 (.tmp 26) (.tmp 27), 0, "tree.go:133", #[⟨10, .data⟩, ⟨11, .data⟩, ⟨2, .guard⟩], some (2, false)⟩) (v := ?_) rfl (by kernel_rfl) (by kernel_rfl) (by kernel_rfl) (fun _ _ _ h => h) (Or.inl ⟨by rfl, ?_⟩) hS ?_
      rotate_left
      · intro wv _; go_simp; try with_reducible rfl
      try simp only [Act.put, List.setIfInBounds_toArray, List.set_cons_zero, List.set_cons_succ]
      refine wpAnyH_take (i := 13) (oi := ⟨some 29, .load 52 (.tmp 28), 52, "tree.go:133", #[⟨12, .data⟩, ⟨2, .guard⟩], some (2, false)⟩) (v := .agg (([.int .i64 r2.k, .int .u32 r2.p, .int .i64 r2.l, .int .i64 r2.r, .int .i64 r2.h, .int .i64 r2.t] : List Value)).toArray) rfl (by kernel_rfl) (by kernel_rfl) (by kernel_rfl) (fun _ _ _ h => h) (yieldsIf_load_mid (by rfl) _ _ (by rfl) (g) (i * 6) (by rfl) (([.int .i64 r2.k, .int .u32 r2.p, .int .i64 r2.l, .int .i64 r2.r, .int .i64 r2.h, .int .i64 r2.t] : List Value)) _ (fun wv hS => nd_range (hS.out.cell (p := ⟨g, i * 6, none⟩) (gpz HX.out) |>.trans KB.out.1) (hS.out.cell (p := ⟨g, i * 6 + 1, none⟩) (gpz HX.out) |>.trans KB.out.2.1) (hS.out.cell (p := ⟨g, i * 6 + 2, none⟩) (gpz HX.out) |>.trans KB.out.2.2.1) (hS.out.cell (p := ⟨g, i * 6 + 3, none⟩) (gpz HX.out) |>.trans KB.out.2.2.2.1) (hS.out.cell (p := ⟨g, i * 6 + 4, none⟩) (gpz HX.out) |>.trans KB.out.2.2.2.2.1) (hS.out.cell (p := ⟨g, i * 6 + 5, none⟩) (gpz HX.out) |>.trans KB.out.2.2.2.2.2)) Try.underlying52 (by rfl) (by kernel_rfl)) hS ?_
      try simp only [Act.put, List.setIfInBounds_toArray, List.set_cons_zero, List.set_cons_succ]
      refine wpAnyH_ready (rs := [14]) (by kernel_rfl) (by simp) (AllReadyH.cons (o := ⟨some 30, .call { callee := .value (.func 42), args := #[.tmp 21, .tmp 29], argTypes := #[52, 52] }, 4, "tree.go:133", #[⟨5, .data⟩, ⟨13, .data⟩, ⟨2, .chain⟩, ⟨2, .guard⟩], some (2, false)⟩) rfl (fun K hK => ?_) AllReadyH.nil)
      go_simp
      refine (AB.out _).mono ?_; rintro e wa ⟨rfl, hb⟩
      replace hS := Lib.hid (hS.out.trans (hb.mono hS.out.size))
      clear hb
      go_wp2_with fail
      refine Shut.out hK _ _ hS (fun _ => ?_)
      clear hK K
      try simp only [Act.put, List.setIfInBounds_toArray, List.set_cons_zero, List.set_cons_succ]
      refine wpAnyH_take (i := 15) (oi := ⟨some 31, .pick (.tmp 18) (.const (Value.bool true)) (.tmp 30), 4, "tree.go:133", #[⟨2, .data⟩, ⟨14, .data⟩], none⟩) (v := ?_) rfl (by kernel_rfl) (by kernel_rfl) (by kernel_rfl) (fun _ _ _ h => h) (Or.inl ⟨by rfl, ?_⟩) hS ?_
      rotate_left
      · intro wv _; go_simp; try with_reducible rfl
      try simp only [Act.put, List.setIfInBounds_toArray, List.set_cons_zero, List.set_cons_succ]
      refine wpAnyH_done (by kernel_rfl) ?_ _
      refine NoPanic.normal ?_
      have ca := (HX.out.below hS.out).c0
      clear c0
      go_wp2
      refine wp_region_noPanic ?_
      refine wp_region_held_drew (S := (fun wv => Hid (Below w.heap.size w wv))) (by kernel_rfl) (Lib.hid hS.out.drew) (fun hS => ?_)
      refine wpAnyH_take (i := 0) (oi := ⟨some 56, .move (.tmp 7), 71, "tree.go:138", #[], none⟩) (v := ?_) rfl (by kernel_rfl) (by kernel_rfl) (by kernel_rfl) (fun _ _ _ h => h) (Or.inl ⟨by rfl, ?_⟩) hS ?_
      rotate_left
      · intro wv _; go_simp; try with_reducible rfl
      try simp only [Act.put, List.setIfInBounds_toArray, List.set_cons_zero, List.set_cons_succ]
      refine wpAnyH_take (i := 1) (oi := ⟨some 57, .nilCheck (.tmp 56), 0, "tree.go:138", #[⟨0, .data⟩], none⟩) (v := ?_) rfl (by kernel_rfl) (by kernel_rfl) (by kernel_rfl) (fun _ _ _ h => h) (Or.inl ⟨by rfl, ?_⟩) hS ?_
      rotate_left
      · intro wv _; go_simp; try with_reducible rfl
      try simp only [Act.put, List.setIfInBounds_toArray, List.set_cons_zero, List.set_cons_succ]
      refine wpAnyH_take (i := 2) (oi := ⟨some 58, .fieldAddr 52 (.tmp 57) 0, 0, "tree.go:138", #[⟨1, .data⟩], none⟩) (v := ?_) rfl (by kernel_rfl) (by kernel_rfl) (by kernel_rfl) (fun _ _ _ h => h) (Or.inl ⟨by rfl, ?_⟩) hS ?_
      rotate_left
      · intro wv _; go_simp; try with_reducible rfl
      try simp only [Act.put, List.setIfInBounds_toArray, List.set_cons_zero, List.set_cons_succ]
      refine wpAnyH_take (i := 3) (oi := ⟨some 59, .load 3 (.tmp 58), 3, "tree.go:138", #[⟨2, .data⟩], none⟩) (v := ?_) rfl (by kernel_rfl) (by kernel_rfl) (by kernel_rfl) (fun _ _ _ h => h) (Or.inl ⟨by rfl, ?_⟩) hS ?_
      rotate_left
      · intro wv hS; have hrun := (hS.out.cell (p := ⟨g, pl * 6, none⟩) (gpz HX.out)).trans KA.out.1; go_simp; try with_reducible rfl
      try simp only [Act.put, List.setIfInBounds_toArray, List.set_cons_zero, List.set_cons_succ]
      refine wpAnyH_take (i := 4) (oi := ⟨some 60, .move (.tmp 8), 71, "tree.go:138", #[], none⟩) (v := ?_) rfl (by kernel_rfl) (by kernel_rfl) (by kernel_rfl) (fun _ _ _ h => h) (Or.inl ⟨by rfl, ?_⟩) hS ?_
      rotate_left
      · intro wv _; go_simp; try with_reducible rfl
      try simp only [Act.put, List.setIfInBounds_toArray, List.set_cons_zero, List.set_cons_succ]
      refine wpAnyH_take (i := 5) (oi := ⟨some 61, .nilCheck (.tmp 60), 0, "tree.go:138", #[⟨4, .data⟩], none⟩) (v := ?_) rfl (by kernel_rfl) (by kernel_rfl) (by kernel_rfl) (fun _ _ _ h => h) (Or.inl ⟨by rfl, ?_⟩) hS ?_
      rotate_left
      · intro wv _; go_simp; try with_reducible rfl
      try simp only [Act.put, List.setIfInBounds_toArray, List.set_cons_zero, List.set_cons_succ]
      refine wpAnyH_take (i := 6) (oi := ⟨some 62, .fieldAddr 52 (.tmp 61) 0, 0, "tree.go:138", #[⟨5, .data⟩], none⟩) (v := ?_) rfl (by kernel_rfl) (by kernel_rfl) (by kernel_rfl) (fun _ _ _ h => h) (Or.inl ⟨by rfl, ?_⟩) hS ?_
      rotate_left
      · intro wv _; go_simp; try with_reducible rfl
      try simp only [Act.put, List.setIfInBounds_toArray, List.set_cons_zero, List.set_cons_succ]
      refine wpAnyH_take (i := 7) (oi := ⟨some 63, .load 3 (.tmp 62), 3, "tree.go:138", #[⟨6, .data⟩], none⟩) (v := ?_) rfl (by kernel_rfl) (by kernel_rfl) (by kernel_rfl) (fun _ _ _ h => h) (Or.inl ⟨by rfl, ?_⟩) hS ?_
      rotate_left
      · intro wv hS; have hrun := (hS.out.cell (p := ⟨g, i * 6, none⟩) (gpz HX.out)).trans KB.out.1; go_simp; try with_reducible rfl
      try simp only [Act.put, List.setIfInBounds_toArray, List.set_cons_zero, List.set_cons_succ]
      refine wpAnyH_take (i := 8) (oi := ⟨some 64, .binOp .lss 3 (.tmp 59) (.tmp 63) 3, 4, "tree.go:138", #[⟨3, .data⟩, ⟨7, .data⟩], none⟩) (v := ?_) rfl (by kernel_rfl) (by kernel_rfl) (by kernel_rfl) (fun _ _ _ h => h) (Or.inl ⟨by rfl, ?_⟩) hS ?_
      rotate_left
      · intro wv _; go_simp; try with_reducible rfl
      try simp only [Act.put, List.setIfInBounds_toArray, List.set_cons_zero, List.set_cons_succ]
      refine wpAnyH_done (by kernel_rfl) ?_ _
      refine NoPanic.normal ?_
      have G1 := Lib.hid (Gp.below (p := p) (g := g) hS.out)
      have HC2 := Lib.hid (HC.out _ (HX.out.below hS.out))
      have kl := (hS.out.cell (p := ⟨g, i * 6 + 3, none⟩) (gpz HX.out)).trans KB.out.2.2.2.1
      clear HC KA KB hS HC0 ca
      go_wp2_with fail
      refine HC2.out.mono ?_
      rintro e w1 ⟨ns1, x1, hok, rfl, hbx, hg⟩
      have OK := Lib.hid (HS.out ns1 x1 hok)
      have B2 := Lib.hid (hbx.setR i hin x1)
      have G2 := Lib.hid ((G1.out.trans hg).setg (i * 6 + 3) (.int .i64 x1))
      have ff := hbx.own.frozenAt (i * 6 + 3)
      have kk := (hbx.at i hin).2.2.2.1
      clear hbx hg hok HS HC2 kl
      go_wp2
      go_ret
      exact ⟨_, (i : Int), OK.out, rfl, B2.out, G2.out⟩
set_option maxRecDepth 100000 in
set_option maxHeartbeats 16000000 in
theorem tpWithout_any (p g n d base : Nat) (rt fr : Int) (hn : n ≤ 16384) (pl : Nat) (hpl : pl < n) : ∀ (f : Nat) (ns : List Nd) (l : List Int) (i : Int) (w : World), l.length ≤ f → Bx w p g n d base rt fr ns → Tr ns i l → Rise ns l → (pl : Int) ∈ l →
    Calls Try.prog 34 #[.pointer (some ⟨p, 0, none⟩), .int .i64 i, .int .i64 (pl : Int)] w (WithoutPost w p g n d base rt fr ns l (pl : Int)) := by
  intro f
  have p0 : (0 : Int) ≤ (pl : Int) := by omega
  have p1 : (pl : Int) < (n : Int) := by omega
  induction f with
  | zero =>
    intro ns l i w hf hx ht hs hpi
    have hl : l = [] := List.eq_nil_of_length_eq_zero (by omega)
    subst hl; simp at hpi
  | succ f ih =>
    intro ns l i w hf hx ht hs hpi
    have hi : i ≠ -1 := fun e => by subst e; have := ht.nil_root; subst this; simp at hpi
    obtain ⟨a, b, rfl, h0, h1, ta, tb, pa, pb⟩ := ht.cases hi
    have hlen := hx.len
    obtain ⟨i, rfl⟩ : ∃ k : Nat, i = k := ⟨i.toNat, by omega⟩
    have i0 : (0 : Int) ≤ (i : Int) := h0
    have i1 : (i : Int) < (n : Int) := by omega
    have hin : i < n := by omega
    have HX := Lib.hid hx
    have c0 := hx.c0
    have HC0 := Lib.hid c0
    have KA := Lib.hid (hx.at pl hpl)
    have KB := Lib.hid (hx.at i hin)
    simp only [List.length_append, List.length_cons] at hf
    obtain ⟨s1, s2, s3, s4⟩ := rise_split hs
    by_cases he : i = pl
    · subst he
      have b1 : ((i : Int) == (i : Int)) = true := by simp
      have HS := Lib.hid (fun ns' r h => without_top (ns := ns) (ns' := ns') (i := (i : Int)) (a := a) (b := b) (r := r) h)
      have HNI := Lib.hid (fun (ns1 : List Nd) (x1 : Int) (h : JoinOk ns (a ++ b) ns1 x1) => h.2.out (i : Int) h0 h1 (by
        have hn := rise_nodup hs
        obtain ⟨n1, n2, n3⟩ := List.nodup_append.1 hn
        intro hm
        rcases List.mem_append.1 hm with hm | hm
        · exact n3 _ hm (i : Int) (by simp) rfl
        · exact (List.nodup_cons.1 n2).1 hm))
      have HC := Lib.hid (fun (W : World) (h : Bx W p g n d base rt fr ns) => tpJoin_any p g n d base rt fr hn (a.length + b.length) ns a b (ndAt ns (i : Int)).l (ndAt ns (i : Int)).r W (Nat.le_refl _) h ta tb (by
        obtain ⟨q1, q2, q3⟩ := List.pairwise_append.1 hs
        exact List.pairwise_append.2 ⟨q1, (List.pairwise_cons.1 q2).2, fun x hx y hy => q3 x hx y (by simp [hy])⟩))
      clear ih hx ht hs hpi ta tb pa pb hi h0 h1 s1 s2 s3 s4 hf hlen
      generalize ndAt ns (i : Int) = r at *
      go_enter Try.func34, Try.ntmps34
      go_wp2
      refine wp_region_noPanic ?_
      refine wp_region_held_drew (S := (fun wv => Hid (wv.cell? ⟨g, i * 6 + 2, none⟩ = some (.int .i64 r.l) ∧ wv.cell? ⟨g, i * 6 + 3, none⟩ = some (.int .i64 r.r)))) (by kernel_rfl) (Lib.hid ⟨KA.out.2.2.1, KA.out.2.2.2.1⟩) (fun hS => ?_)
      refine wpAnyH_take (i := 0) (oi := ⟨some 29, .move (.tmp 0), 70, "tree.go:151", #[], none⟩) (v := ?_) rfl (by kernel_rfl) (by kernel_rfl) (by kernel_rfl) (fun _ _ _ h => h) (Or.inl ⟨by rfl, ?_⟩) hS ?_
      rotate_left
      · intro wv _; go_simp; try with_reducible rfl
      try simp only [Act.put, List.setIfInBounds_toArray, List.set_cons_zero, List.set_cons_succ]
      refine wpAnyH_take (i := 1) (oi := ⟨some 30, .move (.tmp 7), 71, "tree.go:151", #[], none⟩) (v := ?_) rfl (by kernel_rfl) (by kernel_rfl) (by kernel_rfl) (fun _ _ _ h => h) (Or.inl ⟨by rfl, ?_⟩) hS ?_
      rotate_left
      · intro wv _; go_simp; try with_reducible rfl
      try simp only [Act.put, List.setIfInBounds_toArray, List.set_cons_zero, List.set_cons_succ]
      refine wpAnyH_take (i := 2) (oi := ⟨some 31, .nilCheck (.tmp 30), 0, "tree.go:151", #[⟨1, .data⟩], none⟩) (v := ?_) rfl (by kernel_rfl) (by kernel_rfl) (by kernel_rfl) (fun _ _ _ h => h) (Or.inl ⟨by rfl, ?_⟩) hS ?_
      rotate_left
      · intro wv _; go_simp; try with_reducible rfl
      try simp only [Act.put, List.setIfInBounds_toArray, List.set_cons_zero, List.set_cons_succ]
      refine wpAnyH_take (i := 3) (oi := ⟨some 32, .fieldAddr 52 (.tmp 31) 2, 0, "tree.go:151", #[⟨2, .data⟩], none⟩) (v := ?_) rfl (by kernel_rfl) (by kernel_rfl) (by kernel_rfl) (fun _ _ _ h => h) (Or.inl ⟨by rfl, ?_⟩) hS ?_
      rotate_left
      · intro wv _; go_simp; try with_reducible rfl
      try simp only [Act.put, List.setIfInBounds_toArray, List.set_cons_zero, List.set_cons_succ]
      refine wpAnyH_take (i := 4) (oi := ⟨some 33, .load 3 (.tmp 32), 3, "tree.go:151", #[⟨3, .data⟩], none⟩) (v := ?_) rfl (by kernel_rfl) (by kernel_rfl) (by kernel_rfl) (fun _ _ _ h => h) (Or.inl ⟨by rfl, ?_⟩) hS ?_
      rotate_left
      · intro wv hS; have hrun := hS.out.1; go_simp; try with_reducible rfl
      try simp only [Act.put, List.setIfInBounds_toArray, List.set_cons_zero, List.set_cons_succ]
      refine wpAnyH_take (i := 5) (oi := ⟨some 34, .move (.tmp 7), 71, "tree.go:151", #[], none⟩) (v := ?_) rfl (by kernel_rfl) (by kernel_rfl) (by kernel_rfl) (fun _ _ _ h => h) (Or.inl ⟨by rfl, ?_⟩) hS ?_
      rotate_left
      · intro wv _; go_simp; try with_reducible rfl
      try simp only [Act.put, List.setIfInBounds_toArray, List.set_cons_zero, List.set_cons_succ]
      refine wpAnyH_take (i := 6) (oi := ⟨some 35, .nilCheck (.tmp 34), 0, "tree.go:151", #[⟨5, .data⟩], none⟩) (v := ?_) rfl (by kernel_rfl) (by kernel_rfl) (by kernel_rfl) (fun _ _ _ h => h) (Or.inl ⟨by rfl, ?_⟩) hS ?_
      rotate_left
      · intro wv _; go_simp; try with_reducible rfl
      try simp only [Act.put, List.setIfInBounds_toArray, List.set_cons_zero, List.set_cons_succ]
      refine wpAnyH_take (i := 7) (oi := ⟨some 36, .fieldAddr 52 (.tmp 35) 3, 0, "tree.go:151", #[⟨6, .data⟩], none⟩) (v := ?_) rfl (by kernel_rfl) (by kernel_rfl) (by kernel_rfl) (fun _ _ _ h => h) (Or.inl ⟨by rfl, ?_⟩) hS ?_
      rotate_left
      · intro wv _; go_simp; try with_reducible rfl
      try simp only [Act.put, List.setIfInBounds_toArray, List.set_cons_zero, List.set_cons_succ]
      refine wpAnyH_take (i := 8) (oi := ⟨some 37, .load 3 (.tmp 36), 3, "tree.go:151", #[⟨7, .data⟩], none⟩) (v := ?_) rfl (by kernel_rfl) (by kernel_rfl) (by kernel_rfl) (fun _ _ _ h => h) (Or.inl ⟨by rfl, ?_⟩) hS ?_
      rotate_left
      · intro wv hS; have hrun := hS.out.2; go_simp; try with_reducible rfl
      try simp only [Act.put, List.setIfInBounds_toArray, List.set_cons_zero, List.set_cons_succ]
      refine wpAnyH_ready (rs := [9]) (by kernel_rfl) (by simp) (AllReadyH.cons (o := ⟨some 38, .call { callee := .value (.func 45), args := #[.tmp 29, .tmp 33, .tmp 37], argTypes := #[70, 3, 3] }, 3, "tree.go:151", #[⟨0, .data⟩, ⟨4, .data⟩, ⟨8, .data⟩], none⟩) rfl (fun K hK => ?_) AllReadyH.nil)
      go_simp
      refine (HC.out _ HX.out.drew).mono ?_; rintro e w1 ⟨ns1, x1, hok, rfl, hbx, hg⟩
      have OK := Lib.hid (HS.out ns1 x1 hok)
      have B2 := Lib.hid hbx
      have G2 := Lib.hid hg.undrew
      have hat := hbx.at i hin
      rw [HNI.out ns1 x1 hok] at hat
      replace hS := Lib.hid (And.intro hat.2.2.1 hat.2.2.2.1)
      clear hbx hg hok HS HC hat HNI
      go_wp2_with fail
      refine Shut.out hK _ _ hS (fun _ => ?_)
      clear hK K
      try simp only [Act.put, List.setIfInBounds_toArray, List.set_cons_zero, List.set_cons_succ]
      refine wpAnyH_take (i := 10) (oi := ⟨some 6, .assign (.tmp 38), 3, "tree.go:151", #[⟨9, .data⟩, ⟨9, .chain⟩, ⟨0, .phase⟩, ⟨1, .phase⟩, ⟨2, .phase⟩, ⟨3, .phase⟩, ⟨4, .phase⟩, ⟨5, .phase⟩, ⟨6, .phase⟩, ⟨7, .phase⟩, ⟨8, .phase⟩, ⟨9, .phase⟩], none⟩) (v := ?_) rfl (by kernel_rfl) (by kernel_rfl) (by kernel_rfl) (fun _ _ _ h => h) (Or.inl ⟨by rfl, ?_⟩) hS ?_
      rotate_left
      · intro wv _; go_simp; try with_reducible rfl
      try simp only [Act.put, List.setIfInBounds_toArray, List.set_cons_zero, List.set_cons_succ]
      refine wpAnyH_done (by kernel_rfl) ?_ _
      refine NoPanic.normal ?_
      go_wp2
      go_ret
      exact ⟨_, x1, OK.out, rfl, B2.out, G2.out⟩
    have b1 : ((i : Int) == (pl : Int)) = false := by simp; omega
    by_cases hlt : (ndAt ns (pl : Int)).k < (ndAt ns (i : Int)).k
    · have b2 : decide ((ndAt ns (pl : Int)).k < (ndAt ns (i : Int)).k) = true := by simpa using hlt
      have HS := Lib.hid (fun ns' x h => without_left (pl := (pl : Int)) (ns' := ns') (x := x) hs h0 h1 tb pa pb h)
      have HC := Lib.hid (fun (W : World) (h : Bx W p g n d base rt fr ns) => ih ns a (ndAt ns (i : Int)).l W (by omega) h ta s3 (by
        rcases List.mem_append.1 hpi with hm | hm
        · exact hm
        · rcases List.mem_cons.1 hm with hm | hm
          · exact absurd hm (by omega)
          · have := s2 _ hm; unfold keyT at this; omega))
      clear ih hx ht hs hpi ta tb pa pb hi h0 h1 s1 s2 s3 s4 hlt hf hlen he
      generalize ndAt ns (i : Int) = r2 at *
      generalize ndAt ns (pl : Int) = r at *
      go_enter Try.func34, Try.ntmps34
      go_wp2
      refine wp_region_noPanic ?_
      refine wp_region_held_drew (S := (fun wv => Hid (Below w.heap.size w wv))) (by kernel_rfl) (Lib.hid (Below.refl _ w).drew) (fun hS => ?_)
      refine wpAnyH_take (i := 0) (oi := ⟨some 40, .move (.tmp 0), 70, "tree.go:152", #[], none⟩) (v := ?_) rfl (by kernel_rfl) (by kernel_rfl) (by kernel_rfl) (fun _ _ _ h => h) (Or.inl ⟨by rfl, ?_⟩) hS ?_
      rotate_left
      · intro wv _; go_simp; try with_reducible rfl
      try simp only [Act.put, List.setIfInBounds_toArray, List.set_cons_zero, List.set_cons_succ]
      refine wpAnyH_take (i := 1) (oi := ⟨some 41, .nilCheck (.tmp 40), 0, "tree.go:152", #[⟨0, .data⟩], none⟩) (v := ?_) rfl (by kernel_rfl) (by kernel_rfl) (by kernel_rfl) (fun _ _ _ h => h) (Or.inl ⟨by rfl, ?_⟩) hS ?_
      rotate_left
      · intro wv _; go_simp; try with_reducible rfl
      try simp only [Act.put, List.setIfInBounds_toArray, List.set_cons_zero, List.set_cons_succ]
      refine wpAnyH_take (i := 2) (oi := ⟨some 42, .fieldAddr 54 (.tmp 41) 0, 0, "tree.go:152", #[⟨1, .data⟩], none⟩) (v := ?_) rfl (by kernel_rfl) (by kernel_rfl) (by kernel_rfl) (fun _ _ _ h => h) (Or.inl ⟨by rfl, ?_⟩) hS ?_
      rotate_left
      · intro wv _; go_simp; try with_reducible rfl
      try simp only [Act.put, List.setIfInBounds_toArray, List.set_cons_zero, List.set_cons_succ]
      refine wpAnyH_take (i := 3) (oi := ⟨some 43, .fieldAddr 24 (.tmp 42) 0, 0, "tree.go:152", #[⟨2, .data⟩], none⟩) (v := ?_) rfl (by kernel_rfl) (by kernel_rfl) (by kernel_rfl) (fun _ _ _ h => h) (Or.inl ⟨by rfl, ?_⟩) hS ?_
      rotate_left
      · intro wv _; go_simp; try with_reducible rfl
      try simp only [Act.put, List.setIfInBounds_toArray, List.set_cons_zero, List.set_cons_succ]
      refine wpAnyH_take (i := 4) (oi := ⟨some 44, .load 22 (.tmp 43), 22, "tree.go:152", #[⟨3, .data⟩], none⟩) (v := ?_) rfl (by kernel_rfl) (by kernel_rfl) (by kernel_rfl) (fun _ _ _ h => h) (Or.inl ⟨by rfl, ?_⟩) hS ?_
      rotate_left
      · intro wv hS; have hrun := (hS.out.cell (p := ⟨p, 0, none⟩) (blk_lt HX.out.box)).trans HC0.out; go_simp; try with_reducible rfl
      try simp only [Act.put, List.setIfInBounds_toArray, List.set_cons_zero, List.set_cons_succ]
      refine wpAnyH_take (i := 5) (oi := ⟨some 45, .move (.tmp 2), 3, "tree.go:152", #[], none⟩) (v := ?_) rfl (by kernel_rfl) (by kernel_rfl) (by kernel_rfl) (fun _ _ _ h => h) (Or.inl ⟨by rfl, ?_⟩) hS ?_
      rotate_left
      · intro wv _; go_simp; try with_reducible rfl
      try simp only [Act.put, List.setIfInBounds_toArray, List.set_cons_zero, List.set_cons_succ]
      refine wpAnyH_take (i := 6) (oi := ⟨some 46, .indexAddr 22 (.tmp 44) (.tmp 45), 0, "tree.go:152", #[⟨4, .data⟩, ⟨5, .data⟩], none⟩) (v := ?_) rfl (by kernel_rfl) (by kernel_rfl) (by kernel_rfl) (fun _ _ _ h => h) (Or.inl ⟨by rfl, ?_⟩) hS ?_
      rotate_left
      · intro wv _; go_simp; try with_reducible rfl
      try simp only [Act.put, List.setIfInBounds_toArray, List.set_cons_zero, List.set_cons_succ]
      refine wpAnyH_take (i := 7) (oi := ⟨some 47, .fieldAddr 52 (.tmp 46) 0, 0, "tree.go:152", #[⟨6, .data⟩], none⟩) (v := ?_) rfl (by kernel_rfl) (by kernel_rfl) (by kernel_rfl) (fun _ _ _ h => h) (Or.inl ⟨by rfl, ?_⟩) hS ?_
      rotate_left
      · intro wv _; go_simp; try with_reducible rfl
      try simp only [Act.put, List.setIfInBounds_toArray, List.set_cons_zero, List.set_cons_succ]
      refine wpAnyH_take (i := 8) (oi := ⟨some 48, .load 3 (.tmp 47), 3, "tree.go:152", #[⟨7, .data⟩], none⟩) (v := ?_) rfl (by kernel_rfl) (by kernel_rfl) (by kernel_rfl) (fun _ _ _ h => h) (Or.inl ⟨by rfl, ?_⟩) hS ?_
      rotate_left
      · intro wv hS; have hrun := (hS.out.cell (p := ⟨g, pl * 6, none⟩) (gpz HX.out)).trans KA.out.1; go_simp; try with_reducible rfl
      try simp only [Act.put, List.setIfInBounds_toArray, List.set_cons_zero, List.set_cons_succ]
      refine wpAnyH_take (i := 9) (oi := ⟨some 49, .move (.tmp 7), 71, "tree.go:152", #[], none⟩) (v := ?_) rfl (by kernel_rfl) (by kernel_rfl) (by kernel_rfl) (fun _ _ _ h => h) (Or.inl ⟨by rfl, ?_⟩) hS ?_
      rotate_left
      · intro wv _; go_simp; try with_reducible rfl
      try simp only [Act.put, List.setIfInBounds_toArray, List.set_cons_zero, List.set_cons_succ]
      refine wpAnyH_take (i := 10) (oi := ⟨some 50, .nilCheck (.tmp 49), 0, "tree.go:152", #[⟨9, .data⟩], none⟩) (v := ?_) rfl (by kernel_rfl) (by kernel_rfl) (by kernel_rfl) (fun _ _ _ h => h) (Or.inl ⟨by rfl, ?_⟩) hS ?_
      rotate_left
      · intro wv _; go_simp; try with_reducible rfl
      try simp only [Act.put, List.setIfInBounds_toArray, List.set_cons_zero, List.set_cons_succ]
      refine wpAnyH_take (i := 11) (oi := ⟨some 51, .fieldAddr 52 (.tmp 50) 0, 0, "tree.go:152", #[⟨10, .data⟩], none⟩) (v := ?_) rfl (by kernel_rfl) (by kernel_rfl) (by kernel_rfl) (fun _ _ _ h => h) (Or.inl ⟨by rfl, ?_⟩) hS ?_
      rotate_left
      · intro wv _; go_simp; try with_reducible rfl
      try simp only [Act.put, List.setIfInBounds_toArray, List.set_cons_zero, List.set_cons_succ]
      refine wpAnyH_take (i := 12) (oi := ⟨some 52, .load 3 (.tmp 51), 3, "tree.go:152", #[⟨11, .data⟩], none⟩) (v := ?_) rfl (by kernel_rfl) (by kernel_rfl) (by kernel_rfl) (fun _ _ _ h => h) (Or.inl ⟨by rfl, ?_⟩) hS ?_
      rotate_left
      · intro wv hS; have hrun := (hS.out.cell (p := ⟨g, i * 6, none⟩) (gpz HX.out)).trans KB.out.1; go_simp; try with_reducible rfl
      try simp only [Act.put, List.setIfInBounds_toArray, List.set_cons_zero, List.set_cons_succ]
      refine wpAnyH_take (i := 13) (oi := ⟨some 53, .binOp .lss 3 (.tmp 48) (.tmp 52) 3, 4, "tree.go:152", #[⟨8, .data⟩, ⟨12, .data⟩], none⟩) (v := ?_) rfl (by kernel_rfl) (by kernel_rfl) (by kernel_rfl) (fun _ _ _ h => h) (Or.inl ⟨by rfl, ?_⟩) hS ?_
      rotate_left
      · intro wv _; go_simp; try with_reducible rfl
      try simp only [Act.put, List.setIfInBounds_toArray, List.set_cons_zero, List.set_cons_succ]
      refine wpAnyH_take (i := 14) (oi := ⟨some 39, .assign (.tmp 53), 4, "tree.go:152", #[⟨13, .data⟩], none⟩) (v := ?_) rfl (by kernel_rfl) (by kernel_rfl) (by kernel_rfl) (fun _ _ _ h => h) (Or.inl ⟨by rfl, ?_⟩) hS ?_
      rotate_left
      · intro wv _; go_simp; try with_reducible rfl
      try simp only [Act.put, List.setIfInBounds_toArray, List.set_cons_zero, List.set_cons_succ]
      refine wpAnyH_done (by kernel_rfl) ?_ _
      refine NoPanic.normal ?_
      have G1 := Lib.hid (Gp.below (p := p) (g := g) hS.out)
      have HC2 := Lib.hid (HC.out _ (HX.out.below hS.out))
      have kl := (hS.out.cell (p := ⟨g, i * 6 + 2, none⟩) (gpz HX.out)).trans KB.out.2.2.1
      clear HC KA KB hS HC0 c0
      go_wp2_with fail
      refine HC2.out.mono ?_
      rintro e w1 ⟨ns1, x1, hok, rfl, hbx, hg⟩
      have OK := Lib.hid (HS.out ns1 x1 hok)
      have B2 := Lib.hid (hbx.setL i hin x1)
      have G2 := Lib.hid ((G1.out.trans hg).setg (i * 6 + 2) (.int .i64 x1))
      have ff := hbx.own.frozenAt (i * 6 + 2)
      have kk := (hbx.at i hin).2.2.1
      clear hbx hg hok HS HC2 kl
      go_wp2
      go_ret
      exact ⟨_, (i : Int), OK.out, rfl, B2.out, G2.out⟩
    · have b2 : decide ((ndAt ns (pl : Int)).k < (ndAt ns (i : Int)).k) = false := by simpa using hlt
      have HS := Lib.hid (fun ns' x h => without_right (pl := (pl : Int)) (ns' := ns') (x := x) hs h0 h1 ta pa pb h)
      have HC := Lib.hid (fun (W : World) (h : Bx W p g n d base rt fr ns) => ih ns b (ndAt ns (i : Int)).r W (by omega) h tb s4 (by
        rcases List.mem_append.1 hpi with hm | hm
        · have := s1 _ hm; unfold keyT at this; omega
        · rcases List.mem_cons.1 hm with hm | hm
          · exact absurd hm (by omega)
          · exact hm))
      clear ih hx ht hs hpi ta tb pa pb hi h0 h1 s1 s2 s3 s4 hlt hf hlen he
      generalize ndAt ns (i : Int) = r2 at *
      generalize ndAt ns (pl : Int) = r at *
      go_enter Try.func34, Try.ntmps34
      go_wp2
      refine wp_region_noPanic ?_
      refine wp_region_held_drew (S := (fun wv => Hid (Below w.heap.size w wv))) (by kernel_rfl) (Lib.hid (Below.refl _ w).drew) (fun hS => ?_)
      refine wpAnyH_take (i := 0) (oi := ⟨some 40, .move (.tmp 0), 70, "tree.go:152", #[], none⟩) (v := ?_) rfl (by kernel_rfl) (by kernel_rfl) (by kernel_rfl) (fun _ _ _ h => h) (Or.inl ⟨by rfl, ?_⟩) hS ?_
      rotate_left
      · intro wv _; go_simp; try with_reducible rfl
      try simp only [Act.put, List.setIfInBounds_toArray, List.set_cons_zero, List.set_cons_succ]
      refine wpAnyH_take (i := 1) (oi := ⟨some 41, .nilCheck (.tmp 40), 0, "tree.go:152", #[⟨0, .data⟩], none⟩) (v := ?_) rfl (by kernel_rfl) (by kernel_rfl) (by kernel_rfl) (fun _ _ _ h => h) (Or.inl ⟨by rfl, ?_⟩) hS ?_
      rotate_left
      · intro wv _; go_simp; try with_reducible rfl
      try simp only [Act.put, List.setIfInBounds_toArray, List.set_cons_zero, List.set_cons_succ]
      refine wpAnyH_take (i := 2) (oi := ⟨some 42, .fieldAddr 54 (.tmp 41) 0, 0, "tree.go:152", #[⟨1, .data⟩], none⟩) (v := ?_) rfl (by kernel_rfl) (by kernel_rfl) (by kernel_rfl) (fun _ _ _ h => h) (Or.inl ⟨by rfl, ?_⟩) hS ?_
      rotate_left
      · intro wv _; go_simp; try with_reducible rfl
      try simp only [Act.put, List.setIfInBounds_toArray, List.set_cons_zero, List.set_cons_succ]
      refine wpAnyH_take (i := 3) (oi := ⟨some 43, .fieldAddr 24 (.tmp 42) 0, 0, "tree.go:152", #[⟨2, .data⟩], none⟩) (v := ?_) rfl (by kernel_rfl) (by kernel_rfl) (by kernel_rfl) (fun _ _ _ h => h) (Or.inl ⟨by rfl, ?_⟩) hS ?_
      rotate_left
      · intro wv _; go_simp; try with_reducible rfl
      try simp only [Act.put, List.setIfInBounds_toArray, List.set_cons_zero, List.set_cons_succ]
      refine wpAnyH_take (i := 4) (oi := ⟨some 44, .load 22 (.tmp 43), 22, "tree.go:152", #[⟨3, .data⟩], none⟩) (v := ?_) rfl (by kernel_rfl) (by kernel_rfl) (by kernel_rfl) (fun _ _ _ h => h) (Or.inl ⟨by rfl, ?_⟩) hS ?_
      rotate_left
      · intro wv hS; have hrun := (hS.out.cell (p := ⟨p, 0, none⟩) (blk_lt HX.out.box)).trans HC0.out; go_simp; try with_reducible rfl
      try simp only [Act.put, List.setIfInBounds_toArray, List.set_cons_zero, List.set_cons_succ]
      refine wpAnyH_take (i := 5) (oi := ⟨some 45, .move (.tmp 2), 3, "tree.go:152", #[], none⟩) (v := ?_) rfl (by kernel_rfl) (by kernel_rfl) (by kernel_rfl) (fun _ _ _ h => h) (Or.inl ⟨by rfl, ?_⟩) hS ?_
      rotate_left
      · intro wv _; go_simp; try with_reducible rfl
      try simp only [Act.put, List.setIfInBounds_toArray, List.set_cons_zero, List.set_cons_succ]
      refine wpAnyH_take (i := 6) (oi := ⟨some 46, .indexAddr 22 (.tmp 44) (.tmp 45), 0, "tree.go:152", #[⟨4, .data⟩, ⟨5, .data⟩], none⟩) (v := ?_) rfl (by kernel_rfl) (by kernel_rfl) (by kernel_rfl) (fun _ _ _ h => h) (Or.inl ⟨by rfl, ?_⟩) hS ?_
      rotate_left
      · intro wv _; go_simp; try with_reducible rfl
      try simp only [Act.put, List.setIfInBounds_toArray, List.set_cons_zero, List.set_cons_succ]
      refine wpAnyH_take (i := 7) (oi := ⟨some 47, .fieldAddr 52 (.tmp 46) 0, 0, "tree.go:152", #[⟨6, .data⟩], none⟩) (v := ?_) rfl (by kernel_rfl) (by kernel_rfl) (by kernel_rfl) (fun _ _ _ h => h) (Or.inl ⟨by rfl, ?_⟩) hS ?_
      rotate_left
      · intro wv _; go_simp; try with_reducible rfl
      try simp only [Act.put, List.setIfInBounds_toArray, List.set_cons_zero, List.set_cons_succ]
      refine wpAnyH_take (i := 8) (oi := ⟨some 48, .load 3 (.tmp 47), 3, "tree.go:152", #[⟨7, .data⟩], none⟩) (v := ?_) rfl (by kernel_rfl) (by kernel_rfl) (by kernel_rfl) (fun _ _ _ h => h) (Or.inl ⟨by rfl, ?_⟩) hS ?_
      rotate_left
      · intro wv hS; have hrun := (hS.out.cell (p := ⟨g, pl * 6, none⟩) (gpz HX.out)).trans KA.out.1; go_simp; try with_reducible rfl
      try simp only [Act.put, List.setIfInBounds_toArray, List.set_cons_zero, List.set_cons_succ]
      refine wpAnyH_take (i := 9) (oi := ⟨some 49, .move (.tmp 7), 71, "tree.go:152", #[], none⟩) (v := ?_) rfl (by kernel_rfl) (by kernel_rfl) (by kernel_rfl) (fun _ _ _ h => h) (Or.inl ⟨by rfl, ?_⟩) hS ?_
      rotate_left
      · intro wv _; go_simp; try with_reducible rfl
      try simp only [Act.put, List.setIfInBounds_toArray, List.set_cons_zero, List.set_cons_succ]
      refine wpAnyH_take (i := 10) (oi := ⟨some 50, .nilCheck (.tmp 49), 0, "tree.go:152", #[⟨9, .data⟩], none⟩) (v := ?_) rfl (by kernel_rfl) (by kernel_rfl) (by kernel_rfl) (fun _ _ _ h => h) (Or.inl ⟨by rfl, ?_⟩) hS ?_
      rotate_left
      · intro wv _; go_simp; try with_reducible rfl
      try simp only [Act.put, List.setIfInBounds_toArray, List.set_cons_zero, List.set_cons_succ]
      refine wpAnyH_take (i := 11) (oi := ⟨some 51, .fieldAddr 52 (.tmp 50) 0, 0, "tree.go:152", #[⟨10, .data⟩], none⟩) (v := ?_) rfl (by kernel_rfl) (by kernel_rfl) (by kernel_rfl) (fun _ _ _ h => h) (Or.inl ⟨by rfl, ?_⟩) hS ?_
      rotate_left
      · intro wv _; go_simp; try with_reducible rfl
      try simp only [Act.put, List.setIfInBounds_toArray, List.set_cons_zero, List.set_cons_succ]
      refine wpAnyH_take (i := 12) (oi := ⟨some 52, .load 3 (.tmp 51), 3, "tree.go:152", #[⟨11, .data⟩], none⟩) (v := ?_) rfl (by kernel_rfl) (by kernel_rfl) (by kernel_rfl) (fun _ _ _ h => h) (Or.inl ⟨by rfl, ?_⟩) hS ?_
      rotate_left
      · intro wv hS; have hrun := (hS.out.cell (p := ⟨g, i * 6, none⟩) (gpz HX.out)).trans KB.out.1; go_simp; try with_reducible rfl
      try simp only [Act.put, List.setIfInBounds_toArray, List.set_cons_zero, List.set_cons_succ]
      refine wpAnyH_take (i := 13) (oi := ⟨some 53, .binOp .lss 3 (.tmp 48) (.tmp 52) 3, 4, "tree.go:152", #[⟨8, .data⟩, ⟨12, .data⟩], none⟩) (v := ?_) rfl (by kernel_rfl) (by kernel_rfl) (by kernel_rfl) (fun _ _ _ h => h) (Or.inl ⟨by rfl, ?_⟩) hS ?_
      rotate_left
      · intro wv _; go_simp; try with_reducible rfl
      try simp only [Act.put, List.setIfInBounds_toArray, List.set_cons_zero, List.set_cons_succ]
      refine wpAnyH_take (i := 14) (oi := ⟨some 39, .assign (.tmp 53), 4, "tree.go:152", #[⟨13, .data⟩], none⟩) (v := ?_) rfl (by kernel_rfl) (by kernel_rfl) (by kernel_rfl) (fun _ _ _ h => h) (Or.inl ⟨by rfl, ?_⟩) hS ?_
      rotate_left
      · intro wv _; go_simp; try with_reducible rfl
      try simp only [Act.put, List.setIfInBounds_toArray, List.set_cons_zero, List.set_cons_succ]
      refine wpAnyH_done (by kernel_rfl) ?_ _
      refine NoPanic.normal ?_
      have G1 := Lib.hid (Gp.below (p := p) (g := g) hS.out)
      have HC2 := Lib.hid (HC.out _ (HX.out.below hS.out))
      have kl := (hS.out.cell (p := ⟨g, i * 6 + 3, none⟩) (gpz HX.out)).trans KB.out.2.2.2.1
      clear HC KA KB hS HC0 c0
      go_wp2_with fail
      refine HC2.out.mono ?_
      rintro e w1 ⟨ns1, x1, hok, rfl, hbx, hg⟩
      have OK := Lib.hid (HS.out ns1 x1 hok)
      have B2 := Lib.hid (hbx.setR i hin x1)
      have G2 := Lib.hid ((G1.out.trans hg).setg (i * 6 + 3) (.int .i64 x1))
      have ff := hbx.own.frozenAt (i * 6 + 3)
      have kk := (hbx.at i hin).2.2.2.1
      clear hbx hg hok HS HC2 kl
      go_wp2
      go_ret
      exact ⟨_, (i : Int), OK.out, rfl, B2.out, G2.out⟩
/-- what take, and release, leave. -/
def TakePost9 (w : World) (p g n d base : Nat) (rt : Int) (i : Nat) (nx : Int) (ns : List Nd) (e : Ending) (w' : World) : Prop :=
  e = .returned (.int .i64 (i : Int)) ∧ Bx w' p g n d base rt nx ns ∧ Gp p g w w'
def RelPost9 (w : World) (p g n d base : Nat) (rt : Int) (i : Nat) (ns : List Nd) (e : Ending) (w' : World) : Prop :=
  e = .returned (.tuple #[]) ∧ Bx w' p g n d base rt (i : Int) ns ∧ Gp p g w w'
set_option maxRecDepth 100000 in
set_option maxHeartbeats 8000000 in
theorem tpTake_any (p g n d base i : Nat) (rt key prio : Int) (ns : List Nd) (w : World) (hi : i < n) (hx : Bx w p g n d base rt (i : Int) ns) :
    Calls Try.prog 28 #[.pointer (some ⟨p, 0, none⟩), .int .i64 key, .int .u32 prio] w (TakePost9 w p g n d base rt i (ndAt ns (i : Int)).l (ns.set i (newN key prio))) := by
  have i0 : (0 : Int) ≤ (i : Int) := by omega
  have i1 : (i : Int) < (n : Int) := by omega
  obtain ⟨nx, hnx⟩ : ∃ nx, (ndAt ns (i : Int)).l = nx := ⟨_, rfl⟩
  have HX := Lib.hid hx
  have c0 := hx.c0; have c2 := hx.c2; have f2 := blk_frozen hx.box 2
  have k2 := (hx.at i hi).2.2.1
  rw [hnx] at k2
  rw [hnx]
  obtain ⟨v1, hv1⟩ : ∃ W, w.setCell ⟨p, 2, none⟩ (.int .i64 nx) = W := ⟨_, rfl⟩
  have HB := Lib.hid (show Bx v1 p g n d base rt nx ns from hv1 ▸ hx.setFr nx)
  have HG := Lib.hid (show Gp p g w v1 from hv1 ▸ (Gp.refl p g w).setp 2 _)
  clear hx hnx
  go_enter Try.func28, Try.ntmps28
  go_wp2
  refine wp_region_noPanic ?_
  refine wp_region_held_drew (S := (fun wv => Hid (wv.cell? ⟨p, 0, none⟩ = some (.slice (some ⟨g, 0, none⟩) n d)))) (by kernel_rfl) (Lib.hid HB.out.c0) (fun hS => ?_)
  refine wpAnyH_take (i := 0) (oi := ⟨some 26, .move (.tmp 0), 70, "tree.go:120", #[], none⟩) (v := ?_) rfl (by kernel_rfl) (by kernel_rfl) (by kernel_rfl) (fun _ _ _ h => h) (Or.inl ⟨by rfl, ?_⟩) hS ?_
  rotate_left
  · intro wv _; go_simp; try with_reducible rfl
  try simp only [Act.put, List.setIfInBounds_toArray, List.set_cons_zero, List.set_cons_succ]
  refine wpAnyH_take (i := 1) (oi := ⟨some 27, .nilCheck (.tmp 26), 0, "tree.go:120", #[⟨0, .data⟩], none⟩) (v := ?_) rfl (by kernel_rfl) (by kernel_rfl) (by kernel_rfl) (fun _ _ _ h => h) (Or.inl ⟨by rfl, ?_⟩) hS ?_
  rotate_left
  · intro wv _; go_simp; try with_reducible rfl
  try simp only [Act.put, List.setIfInBounds_toArray, List.set_cons_zero, List.set_cons_succ]
  refine wpAnyH_take (i := 2) (oi := ⟨some 28, .fieldAddr 54 (.tmp 27) 0, 0, "tree.go:120", #[⟨1, .data⟩], none⟩) (v := ?_) rfl (by kernel_rfl) (by kernel_rfl) (by kernel_rfl) (fun _ _ _ h => h) (Or.inl ⟨by rfl, ?_⟩) hS ?_
  rotate_left
  · intro wv _; go_simp; try with_reducible rfl
  try simp only [Act.put, List.setIfInBounds_toArray, List.set_cons_zero, List.set_cons_succ]
  refine wpAnyH_take (i := 3) (oi := ⟨some 29, .fieldAddr 24 (.tmp 28) 0, 0, "tree.go:120", #[⟨2, .data⟩], none⟩) (v := ?_) rfl (by kernel_rfl) (by kernel_rfl) (by kernel_rfl) (fun _ _ _ h => h) (Or.inl ⟨by rfl, ?_⟩) hS ?_
  rotate_left
  · intro wv _; go_simp; try with_reducible rfl
  try simp only [Act.put, List.setIfInBounds_toArray, List.set_cons_zero, List.set_cons_succ]
  refine wpAnyH_take (i := 4) (oi := ⟨some 30, .load 22 (.tmp 29), 22, "tree.go:120", #[⟨3, .data⟩], none⟩) (v := ?_) rfl (by kernel_rfl) (by kernel_rfl) (by kernel_rfl) (fun _ _ _ h => h) (Or.inl ⟨by rfl, ?_⟩) hS ?_
  rotate_left
  · intro wv hS; have hrun := hS.out; go_simp; try with_reducible rfl
  try simp only [Act.put, List.setIfInBounds_toArray, List.set_cons_zero, List.set_cons_succ]
  refine wpAnyH_take (i := 5) (oi := ⟨some 31, .move (.tmp 7), 3, "tree.go:120", #[], none⟩) (v := ?_) rfl (by kernel_rfl) (by kernel_rfl) (by kernel_rfl) (fun _ _ _ h => h) (Or.inl ⟨by rfl, ?_⟩) hS ?_
  rotate_left
  · intro wv _; go_simp; try with_reducible rfl
  try simp only [Act.put, List.setIfInBounds_toArray, List.set_cons_zero, List.set_cons_succ]
  refine wpAnyH_take (i := 6) (oi := ⟨some 32, .move (.tmp 1), 3, "tree.go:120", #[], none⟩) (v := ?_) rfl (by kernel_rfl) (by kernel_rfl) (by kernel_rfl) (fun _ _ _ h => h) (Or.inl ⟨by rfl, ?_⟩) hS ?_
  rotate_left
  · intro wv _; go_simp; try with_reducible rfl
  try simp only [Act.put, List.setIfInBounds_toArray, List.set_cons_zero, List.set_cons_succ]
  refine wpAnyH_take (i := 7) (oi := ⟨some 33, .move (.tmp 2), 25, "tree.go:120", #[], none⟩) (v := ?_) rfl (by kernel_rfl) (by kernel_rfl) (by kernel_rfl) (fun _ _ _ h => h) (Or.inl ⟨by rfl, ?_⟩) hS ?_
  rotate_left
  · intro wv _; go_simp; try with_reducible rfl
  try simp only [Act.put, List.setIfInBounds_toArray, List.set_cons_zero, List.set_cons_succ]
  refine wpAnyH_ready (rs := [8]) (by kernel_rfl) (by simp) (AllReadyH.cons (o := ⟨some 34, .call { callee := .value (.func 33), args := #[], argTypes := #[] }, 43, "tree.go:120", #[], none⟩) rfl (fun K hK => ?_) AllReadyH.nil)
  go_simp
  refine (tpNoQueue_any _).mono ?_; rintro e wa ⟨rfl, hb⟩
  have hb2 : Below v1.heap.size v1 wa := (Below.refl _ v1).drew.trans hb
  have HBa := Lib.hid (HB.out.below hb2)
  have HGa := Lib.hid (HG.out.trans (Gp.below hb2))
  replace hS := Lib.hid HBa.out.c0
  obtain ⟨g0, g1, g2, g3, g4, g5⟩ := HBa.out.at i hi
  have ff0 := HBa.out.own.frozenAt (i * 6); have ff1 := HBa.out.own.frozenAt (i * 6 + 1); have ff2 := HBa.out.own.frozenAt (i * 6 + 2); have ff3 := HBa.out.own.frozenAt (i * 6 + 3); have ff4 := HBa.out.own.frozenAt (i * 6 + 4); have ff5 := HBa.out.own.frozenAt (i * 6 + 5)
  clear hb hb2
  go_wp2_with fail
  refine Shut.out hK _ _ hS (fun _ => ?_)
  clear hK K
  try simp only [Act.put, List.setIfInBounds_toArray, List.set_cons_zero, List.set_cons_succ]
  refine wpAnyH_take (i := 9) (oi := ⟨some 35, .build 52 #[(0, .tmp 32), (1, .tmp 33), (2, .const (Value.int IntKind.i64 (-1))), (3, .const (Value.int IntKind.i64 (-1))), (4, .tmp 34)], 52, "tree.go:120", #[⟨6, .data⟩, ⟨7, .data⟩, ⟨8, .data⟩], none⟩) (v := ?_) rfl (by kernel_rfl) (by kernel_rfl) (by kernel_rfl) (fun _ _ _ h => h) (Or.inl ⟨by rfl, ?_⟩) hS ?_
  rotate_left
  · intro wv _; go_simp; try with_reducible rfl
  try simp only [Act.put, List.setIfInBounds_toArray, List.set_cons_zero, List.set_cons_succ]
  refine wpAnyH_take (i := 10) (oi := ⟨some 36, .indexAddr 22 (.tmp 30) (.tmp 31), 0, "tree.go:120", #[⟨4, .data⟩, ⟨5, .data⟩, ⟨0, .phase⟩, ⟨1, .phase⟩, ⟨2, .phase⟩, ⟨3, .phase⟩, ⟨4, .phase⟩, ⟨5, .phase⟩, ⟨6, .phase⟩, ⟨7, .phase⟩, ⟨8, .phase⟩, ⟨9, .phase⟩], none⟩) (v := ?_) rfl (by kernel_rfl) (by kernel_rfl) (by kernel_rfl) (fun _ _ _ h => h) (Or.inl ⟨by rfl, ?_⟩) hS ?_
  rotate_left
  · intro wv _; go_simp; try with_reducible rfl
  try simp only [Act.put, List.setIfInBounds_toArray, List.set_cons_zero, List.set_cons_succ]
  refine wpAnyH_ready (rs := [11]) (by kernel_rfl) (by simp) (AllReadyH.cons (o := ⟨none, .store 52 (.tmp 36) (.tmp 35), 0, "tree.go:120", #[⟨10, .data⟩, ⟨9, .data⟩, ⟨8, .chain⟩, ⟨0, .phase⟩, ⟨1, .phase⟩, ⟨2, .phase⟩, ⟨3, .phase⟩, ⟨4, .phase⟩, ⟨5, .phase⟩, ⟨6, .phase⟩, ⟨7, .phase⟩, ⟨8, .phase⟩, ⟨9, .phase⟩], none⟩) rfl (fun K hK => ?_) AllReadyH.nil)
  go_simp
  have HB2 := Lib.hid (HBa.out.setN i hi (newN key prio))
  have HG2 := Lib.hid ((((((HGa.out.setg (i * 6) (.int .i64 key)).setg (i * 6 + 1) (.int .u32 prio)).setg (i * 6 + 2) (.int .i64 (-1))).setg (i * 6 + 3) (.int .i64 (-1))).setg (i * 6 + 4) (.int .i64 (-1))).setg (i * 6 + 5) (.int .i64 (-1)))
  replace hS := Lib.hid HB2.out.c0
  refine Shut.out hK _ _ hS (fun _ => ?_)
  clear hK K
  try simp only [Act.put, List.setIfInBounds_toArray, List.set_cons_zero, List.set_cons_succ]
  refine wpAnyH_done (by kernel_rfl) ?_ _
  refine NoPanic.normal ?_
  clear g0 g1 g2 g3 g4 g5 ff0 ff1 ff2 ff3 ff4 ff5 c0 c2 f2 k2
  go_wp2
  go_ret
  exact ⟨rfl, HB2.out, HG2.out⟩
set_option maxRecDepth 100000 in
set_option maxHeartbeats 8000000 in
theorem tpRelease_any (p g n d base i : Nat) (rt fr : Int) (ns : List Nd) (w : World) (hi : i < n) (hx : Bx w p g n d base rt fr ns) :
    Calls Try.prog 35 #[.pointer (some ⟨p, 0, none⟩), .int .i64 (i : Int)] w (RelPost9 w p g n d base rt i (ns.set i (empN fr))) := by
  have i0 : (0 : Int) ≤ (i : Int) := by omega
  have i1 : (i : Int) < (n : Int) := by omega
  have HB := Lib.hid hx
  have HG := Lib.hid (Gp.refl p g w)
  clear hx
  go_enter Try.func35, Try.ntmps35
  go_wp2
  refine wp_region_noPanic ?_
  refine wp_region_held_drew (S := (fun wv => Hid (wv.cell? ⟨p, 0, none⟩ = some (.slice (some ⟨g, 0, none⟩) n d) ∧ wv.cell? ⟨p, 2, none⟩ = some (.int .i64 fr)))) (by kernel_rfl) (Lib.hid ⟨HB.out.c0, HB.out.c2⟩) (fun hS => ?_)
  refine wpAnyH_take (i := 0) (oi := ⟨some 4, .move (.tmp 0), 70, "tree.go:126", #[], none⟩) (v := ?_) rfl (by kernel_rfl) (by kernel_rfl) (by kernel_rfl) (fun _ _ _ h => h) (Or.inl ⟨by rfl, ?_⟩) hS ?_
  rotate_left
  · intro wv _; go_simp; try with_reducible rfl
  try simp only [Act.put, List.setIfInBounds_toArray, List.set_cons_zero, List.set_cons_succ]
  refine wpAnyH_take (i := 1) (oi := ⟨some 5, .nilCheck (.tmp 4), 0, "tree.go:126", #[⟨0, .data⟩], none⟩) (v := ?_) rfl (by kernel_rfl) (by kernel_rfl) (by kernel_rfl) (fun _ _ _ h => h) (Or.inl ⟨by rfl, ?_⟩) hS ?_
  rotate_left
  · intro wv _; go_simp; try with_reducible rfl
  try simp only [Act.put, List.setIfInBounds_toArray, List.set_cons_zero, List.set_cons_succ]
  refine wpAnyH_take (i := 2) (oi := ⟨some 6, .fieldAddr 54 (.tmp 5) 0, 0, "tree.go:126", #[⟨1, .data⟩], none⟩) (v := ?_) rfl (by kernel_rfl) (by kernel_rfl) (by kernel_rfl) (fun _ _ _ h => h) (Or.inl ⟨by rfl, ?_⟩) hS ?_
  rotate_left
  · intro wv _; go_simp; try with_reducible rfl
  try simp only [Act.put, List.setIfInBounds_toArray, List.set_cons_zero, List.set_cons_succ]
  refine wpAnyH_take (i := 3) (oi := ⟨some 7, .fieldAddr 24 (.tmp 6) 0, 0, "tree.go:126", #[⟨2, .data⟩], none⟩) (v := ?_) rfl (by kernel_rfl) (by kernel_rfl) (by kernel_rfl) (fun _ _ _ h => h) (Or.inl ⟨by rfl, ?_⟩) hS ?_
  rotate_left
  · intro wv _; go_simp; try with_reducible rfl
  try simp only [Act.put, List.setIfInBounds_toArray, List.set_cons_zero, List.set_cons_succ]
  refine wpAnyH_take (i := 4) (oi := ⟨some 8, .load 22 (.tmp 7), 22, "tree.go:126", #[⟨3, .data⟩], none⟩) (v := ?_) rfl (by kernel_rfl) (by kernel_rfl) (by kernel_rfl) (fun _ _ _ h => h) (Or.inl ⟨by rfl, ?_⟩) hS ?_
  rotate_left
  · intro wv hS; have hrun := hS.out.1; go_simp; try with_reducible rfl
  try simp only [Act.put, List.setIfInBounds_toArray, List.set_cons_zero, List.set_cons_succ]
  refine wpAnyH_take (i := 5) (oi := ⟨some 9, .move (.tmp 1), 3, "tree.go:126", #[], none⟩) (v := ?_) rfl (by kernel_rfl) (by kernel_rfl) (by kernel_rfl) (fun _ _ _ h => h) (Or.inl ⟨by rfl, ?_⟩) hS ?_
  rotate_left
  · intro wv _; go_simp; try with_reducible rfl
  try simp only [Act.put, List.setIfInBounds_toArray, List.set_cons_zero, List.set_cons_succ]
  refine wpAnyH_take (i := 6) (oi := ⟨some 10, .move (.tmp 0), 70, "tree.go:126", #[], none⟩) (v := ?_) rfl (by kernel_rfl) (by kernel_rfl) (by kernel_rfl) (fun _ _ _ h => h) (Or.inl ⟨by rfl, ?_⟩) hS ?_
  rotate_left
  · intro wv _; go_simp; try with_reducible rfl
  try simp only [Act.put, List.setIfInBounds_toArray, List.set_cons_zero, List.set_cons_succ]
  refine wpAnyH_take (i := 7) (oi := ⟨some 11, .nilCheck (.tmp 10), 0, "tree.go:126", #[⟨6, .data⟩], none⟩) (v := ?_) rfl (by kernel_rfl) (by kernel_rfl) (by kernel_rfl) (fun _ _ _ h => h) (Or.inl ⟨by rfl, ?_⟩) hS ?_
  rotate_left
  · intro wv _; go_simp; try with_reducible rfl
  try simp only [Act.put, List.setIfInBounds_toArray, List.set_cons_zero, List.set_cons_succ]
  refine wpAnyH_take (i := 8) (oi := ⟨some 12, .fieldAddr 54 (.tmp 11) 0, 0, "tree.go:126", #[⟨7, .data⟩], none⟩) (v := ?_) rfl (by kernel_rfl) (by kernel_rfl) (by kernel_rfl) (fun _ _ _ h => h) (Or.inl ⟨by rfl, ?_⟩) hS ?_
  rotate_left
  · intro wv _; go_simp; try with_reducible rfl
  try simp only [Act.put, List.setIfInBounds_toArray, List.set_cons_zero, List.set_cons_succ]
  refine wpAnyH_take (i := 9) (oi := ⟨some 13, .fieldAddr 24 (.tmp 12) 2, 0, "tree.go:126", #[⟨8, .data⟩], none⟩) (v := ?_) rfl (by kernel_rfl) (by kernel_rfl) (by kernel_rfl) (fun _ _ _ h => h) (Or.inl ⟨by rfl, ?_⟩) hS ?_
  rotate_left
  · intro wv _; go_simp; try with_reducible rfl
  try simp only [Act.put, List.setIfInBounds_toArray, List.set_cons_zero, List.set_cons_succ]
  refine wpAnyH_take (i := 10) (oi := ⟨some 14, .load 3 (.tmp 13), 3, "tree.go:126", #[⟨9, .data⟩], none⟩) (v := ?_) rfl (by kernel_rfl) (by kernel_rfl) (by kernel_rfl) (fun _ _ _ h => h) (Or.inl ⟨by rfl, ?_⟩) hS ?_
  rotate_left
  · intro wv hS; have hrun := hS.out.2; go_simp; try with_reducible rfl
  try simp only [Act.put, List.setIfInBounds_toArray, List.set_cons_zero, List.set_cons_succ]
  refine wpAnyH_ready (rs := [11]) (by kernel_rfl) (by simp) (AllReadyH.cons (o := ⟨some 15, .call { callee := .value (.func 46), args := #[.tmp 14], argTypes := #[3] }, 52, "tree.go:126", #[⟨10, .data⟩], none⟩) rfl (fun K hK => ?_) AllReadyH.nil)
  go_simp
  refine (tpEmpty_any fr _).mono ?_; rintro e wa ⟨rfl, hb⟩
  have hb2 : Below w.heap.size w wa := (Below.refl _ w).drew.trans hb
  have HBa := Lib.hid (HB.out.below hb2)
  have HGa := Lib.hid (HG.out.trans (Gp.below hb2))
  replace hS := Lib.hid (And.intro HBa.out.c0 HBa.out.c2)
  obtain ⟨g0, g1, g2, g3, g4, g5⟩ := HBa.out.at i hi
  have ff0 := HBa.out.own.frozenAt (i * 6); have ff1 := HBa.out.own.frozenAt (i * 6 + 1); have ff2 := HBa.out.own.frozenAt (i * 6 + 2); have ff3 := HBa.out.own.frozenAt (i * 6 + 3); have ff4 := HBa.out.own.frozenAt (i * 6 + 4); have ff5 := HBa.out.own.frozenAt (i * 6 + 5)
  clear hb hb2
  go_wp2_with fail
  refine Shut.out hK _ _ hS (fun _ => ?_)
  clear hK K
  try simp only [Act.put, List.setIfInBounds_toArray, List.set_cons_zero, List.set_cons_succ]
  refine wpAnyH_take (i := 12) (oi := ⟨some 16, .indexAddr 22 (.tmp 8) (.tmp 9), 0, "tree.go:126", #[⟨4, .data⟩, ⟨5, .data⟩, ⟨0, .phase⟩, ⟨1, .phase⟩, ⟨2, .phase⟩, ⟨3, .phase⟩, ⟨4, .phase⟩, ⟨5, .phase⟩, ⟨6, .phase⟩, ⟨7, .phase⟩, ⟨8, .phase⟩, ⟨9, .phase⟩, ⟨10, .phase⟩, ⟨11, .phase⟩], none⟩) (v := ?_) rfl (by kernel_rfl) (by kernel_rfl) (by kernel_rfl) (fun _ _ _ h => h) (Or.inl ⟨by rfl, ?_⟩) hS ?_
  rotate_left
  · intro wv _; go_simp; try with_reducible rfl
  try simp only [Act.put, List.setIfInBounds_toArray, List.set_cons_zero, List.set_cons_succ]
  refine wpAnyH_ready (rs := [13]) (by kernel_rfl) (by simp) (AllReadyH.cons (o := ⟨none, .store 52 (.tmp 16) (.tmp 15), 0, "tree.go:126", #[⟨12, .data⟩, ⟨11, .data⟩, ⟨11, .chain⟩, ⟨0, .phase⟩, ⟨1, .phase⟩, ⟨2, .phase⟩, ⟨3, .phase⟩, ⟨4, .phase⟩, ⟨5, .phase⟩, ⟨6, .phase⟩, ⟨7, .phase⟩, ⟨8, .phase⟩, ⟨9, .phase⟩, ⟨10, .phase⟩, ⟨11, .phase⟩], none⟩) rfl (fun K hK => ?_) AllReadyH.nil)
  go_simp
  have HB2 := Lib.hid (HBa.out.setN i hi (empN fr))
  have HG2 := Lib.hid ((((((HGa.out.setg (i * 6) (.int .i64 (-1))).setg (i * 6 + 1) (.int .u32 0)).setg (i * 6 + 2) (.int .i64 fr)).setg (i * 6 + 3) (.int .i64 (-1))).setg (i * 6 + 4) (.int .i64 (-1))).setg (i * 6 + 5) (.int .i64 (-1)))
  replace hS := Lib.hid (And.intro HB2.out.c0 HB2.out.c2)
  refine Shut.out hK _ _ hS (fun _ => ?_)
  clear hK K
  try simp only [Act.put, List.setIfInBounds_toArray, List.set_cons_zero, List.set_cons_succ]
  refine wpAnyH_done (by kernel_rfl) ?_ _
  refine NoPanic.normal ?_
  clear g0 g1 g2 g3 g4 g5 ff0 ff1 ff2 ff3 ff4 ff5
  unfold empN at HB2
  generalize ((((((wa.setCell ⟨g, i * 6, none⟩ (.int .i64 (-1))).setCell ⟨g, i * 6 + 1, none⟩ (.int .u32 0)).setCell ⟨g, i * 6 + 2, none⟩ (.int .i64 fr)).setCell ⟨g, i * 6 + 3, none⟩ (.int .i64 (-1))).setCell ⟨g, i * 6 + 4, none⟩ (.int .i64 (-1))).setCell ⟨g, i * 6 + 5, none⟩ (.int .i64 (-1))) = wb at *
  have c2 := HB2.out.c2; have f2 := blk_frozen HB2.out.box 2
  have HB3 := Lib.hid (HB2.out.setFr (i : Int))
  have HG3 := Lib.hid (HG2.out.setp 2 (.int .i64 (i : Int)))
  go_wp2
  refine bodyPost_end (results_none rfl _ _ _) rfl ?_
  exact ⟨rfl, HB3.out, HG3.out⟩
end Go.Proofs.Ytfgfohomgomidaa
