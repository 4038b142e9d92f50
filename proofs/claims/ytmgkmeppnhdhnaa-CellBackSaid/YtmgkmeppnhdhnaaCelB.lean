/- What the document's own Store, Swap and More of layer 14 answer; for lists of up to 16384. -/
import Derived.Test.YtmgkmeppnhdhnaaCelA
import Derived.Deep.Cut
import Derived.Deep.CutRange
namespace Go.Proofs.Ytmgkmeppnhdhnaa
set_option linter.unusedVariables false
set_option linter.unusedSimpArgs false
open Go.RowKit
set_option maxRecDepth 100000 in
set_option maxHeartbeats 8000000 in
theorem refStore14_any (A : Option Addr) (n c : Nat) (ws : List Nat) (i : Int) (x : Nat) (w : World) (hx : Ws w A n c ws) (hn : n ≤ 16384) :
    Calls Try.prog 9 #[.slice A n c, .int .i64 i, .int .u64 (x : Int)] w (StP w (storeC ws i x)) := by
  have hlen : ws.length = n := hx.len
  obtain ⟨R, hR⟩ : ∃ R, storeC ws i x = R := ⟨_, rfl⟩
  rw [hR]
  by_cases h1 : i < 0
  · have b0 : decide (i < 0) = true := by simpa using h1
    have HE := Lib.hid (show R = ([], false) from by rw [← hR]; unfold storeC; rw [if_neg (by unfold isC; omega)])
    clear hR hlen hx
    go_enter Try.func9, Try.ntmps9
    go_wp2
    go_ret2
    rw [HE.out]
    exact ⟨none, 0, 0, rfl, Es.nil _ _ _ _, Below.refl _ _⟩
  · have b0 : decide (i < 0) = false := by simpa using h1
    by_cases h2 : (n : Int) ≤ i
    · have b1 : decide ((n : Int) ≤ i) = true := by simpa using h2
      have HE := Lib.hid (show R = ([], false) from by rw [← hR]; unfold storeC; rw [if_neg (by unfold isC; omega)])
      clear hR hlen hx
      go_enter Try.func9, Try.ntmps9
      go_wp2
      go_ret2
      rw [HE.out]
      exact ⟨none, 0, 0, rfl, Es.nil _ _ _ _, Below.refl _ _⟩
    · have b1 : decide ((n : Int) ≤ i) = false := by simpa using h2
      obtain ⟨k, rfl⟩ : ∃ k : Nat, i = k := ⟨i.toNat, by omega⟩
      have hk : k < n := by omega
      have i0 : (0 : Int) ≤ (k : Int) := by omega
      have i1 : (k : Int) < (n : Int) := by omega
      have HE := Lib.hid (show R = (ws.set k x, true) from by rw [← hR]; unfold storeC; rw [if_pos (by unfold isC; omega), Int.toNat_natCast])
      have HST := Lib.hid (set_three (l := ws) (k := k) (x := x) (by omega))
      have hs1 : IntKind.i64.wrap ((k : Int) + 1) = (k : Int) + 1 := by rw [IntKind.wrap_i64]; omega
      obtain ⟨Ch, ch, hsh, hih⟩ := wsl_take (P := Try.prog) hx 22 unWs szWs (k : Int) k rfl (by omega)
      obtain ⟨Ct, ct, hst, hit⟩ := wsl_drop (P := Try.prog) hx 22 unWs szWs ((k : Int) + 1) (k + 1) rfl (by omega)
      have IH := Lib.hid hih; have IT := Lib.hid hit
      clear hR hlen hx h1 h2 hih hit
      go_enter Try.func9, Try.ntmps9
      go_upto_region 3 with fail
      generalize hzz : w.heap.size = zz at *
      have BZ := Lib.hid (show ∀ X, Below zz w X → Below w.heap.size w X from fun X h => by rw [hzz]; exact h)
      have HS : Below zz w w := by have h := Below.refl w.heap.size w; rwa [hzz] at h
      refine wp_region_noPanic ?_
      refine wp_region_held_drew (S := (fun wv => Below zz w wv)) (by kernel_rfl) (HS.drew) (fun hS => ?_)
      refine wpAnyH_take (i := 1) (oi := ⟨some 17, .move (.tmp 0), 22, "ref.go:17", #[], none⟩) (v := ?_) rfl (by kernel_rfl) (by kernel_rfl) (by kernel_rfl) (fun _ _ _ h => h) (Or.inl ⟨by rfl, ?_⟩) hS ?_
      rotate_left
      · intro wv _; go_simp; try with_reducible rfl
      try simp only [Act.put, List.setIfInBounds_toArray, List.set_cons_zero, List.set_cons_succ]
      refine wpAnyH_take (i := 2) (oi := ⟨some 18, .move (.tmp 1), 3, "ref.go:17", #[], none⟩) (v := ?_) rfl (by kernel_rfl) (by kernel_rfl) (by kernel_rfl) (fun _ _ _ h => h) (Or.inl ⟨by rfl, ?_⟩) hS ?_
      rotate_left
      · intro wv _; go_simp; try with_reducible rfl
      try simp only [Act.put, List.setIfInBounds_toArray, List.set_cons_zero, List.set_cons_succ]
      refine wpAnyH_take (i := 3) (oi := ⟨some 19, .slice 22 (.tmp 17) none (some (.tmp 18)) none, 22, "ref.go:17", #[⟨1, .data⟩, ⟨2, .data⟩], none⟩) (v := ?_) rfl (by kernel_rfl) (by kernel_rfl) (by kernel_rfl) (fun _ _ _ h => h) (Or.inl ⟨by rfl, ?_⟩) hS ?_
      rotate_left
      · intro wv _; go_simp; try with_reducible rfl
      try simp only [Act.put, List.setIfInBounds_toArray, List.set_cons_zero, List.set_cons_succ]
      refine wpAnyH_take (i := 5) (oi := ⟨some 21, .move (.tmp 2), 23, "ref.go:17", #[], none⟩) (v := ?_) rfl (by kernel_rfl) (by kernel_rfl) (by kernel_rfl) (fun _ _ _ h => h) (Or.inl ⟨by rfl, ?_⟩) hS ?_
      rotate_left
      · intro wv _; go_simp; try with_reducible rfl
      try simp only [Act.put, List.setIfInBounds_toArray, List.set_cons_zero, List.set_cons_succ]
      refine wpAnyH_take (i := 8) (oi := ⟨some 24, .move (.tmp 0), 22, "ref.go:17", #[], none⟩) (v := ?_) rfl (by kernel_rfl) (by kernel_rfl) (by kernel_rfl) (fun _ _ _ h => h) (Or.inl ⟨by rfl, ?_⟩) hS ?_
      rotate_left
      · intro wv _; go_simp; try with_reducible rfl
      try simp only [Act.put, List.setIfInBounds_toArray, List.set_cons_zero, List.set_cons_succ]
      refine wpAnyH_take (i := 9) (oi := ⟨some 25, .move (.tmp 1), 3, "ref.go:17", #[], none⟩) (v := ?_) rfl (by kernel_rfl) (by kernel_rfl) (by kernel_rfl) (fun _ _ _ h => h) (Or.inl ⟨by rfl, ?_⟩) hS ?_
      rotate_left
      · intro wv _; go_simp; try with_reducible rfl
      try simp only [Act.put, List.setIfInBounds_toArray, List.set_cons_zero, List.set_cons_succ]
      refine wpAnyH_take (i := 10) (oi := ⟨some 26, .binOp .add 3 (.tmp 25) (.const (Value.int IntKind.i64 1)) 3, 3, "ref.go:17", #[⟨9, .data⟩], none⟩) (v := ?_) rfl (by kernel_rfl) (by kernel_rfl) (by kernel_rfl) (fun _ _ _ h => h) (Or.inl ⟨by rfl, ?_⟩) hS ?_
      rotate_left
      · intro wv _; go_simp; try with_reducible rfl
      try simp only [Act.put, List.setIfInBounds_toArray, List.set_cons_zero, List.set_cons_succ]
      refine wpAnyH_take (i := 11) (oi := ⟨some 27, .slice 22 (.tmp 24) (some (.tmp 26)) none none, 22, "ref.go:17", #[⟨8, .data⟩, ⟨10, .data⟩], none⟩) (v := ?_) rfl (by kernel_rfl) (by kernel_rfl) (by kernel_rfl) (fun _ _ _ h => h) (Or.inl ⟨by rfl, ?_⟩) hS ?_
      rotate_left
      · intro wv _; go_simp; try with_reducible rfl
      try simp only [Act.put, List.setIfInBounds_toArray, List.set_cons_zero, List.set_cons_succ]
      refine wpAnyH_ready (rs := [0, 6]) (by kernel_rfl) (by simp) (AllReadyH.cons (o := ⟨some 16, .buildSlice 22 0 #[], 22, "ref.go:17", #[], none⟩) rfl (fun K hK => ?_) (AllReadyH.cons (o := ⟨some 22, .buildSlice 22 1 #[(0, .tmp 21)], 22, "ref.go:17", #[⟨5, .data⟩], none⟩) rfl (fun K hK => ?_) AllReadyH.nil))
      ·
       go_simp
       have zs : zz ≤ zz := Nat.le_refl _
       have bd : Below zz w (w.alloc (.cells #[] 23)) := by have h := (Below.refl w.heap.size w).alloc (Nat.le_refl _) (.cells #[] 23); rwa [hzz] at h
       have OX : (w.alloc (.cells #[] 23)).ownsRow zz 23 1 (.slice (some ⟨zz, 0, none⟩) 0 0) 0 (U64s []) := by have h := lit_ws (base := zz) w (Nat.le_of_eq hzz.symm); rw [hzz] at h; exact h
       replace HS := HS.trans (bd.mono zs)
       clear bd zs
       generalize w.alloc (.cells #[] 23) = y1_ at *
       replace hS := HS.drew
       refine Shut.out hK _ _ hS (fun _ => ?_)
       clear hK K
       try simp only [Act.put, List.setIfInBounds_toArray, List.set_cons_zero, List.set_cons_succ]
       refine wpAnyH_ready (rs := [4, 6]) (by kernel_rfl) (by simp) (AllReadyH.cons (o := ⟨some 20, .call { callee := .builtin .append, args := #[.tmp 16, .tmp 19], argTypes := #[22, 22] }, 22, "ref.go:17", #[⟨0, .data⟩, ⟨3, .data⟩], none⟩) rfl (fun K hK => ?_) (AllReadyH.cons (o := ⟨some 22, .buildSlice 22 1 #[(0, .tmp 21)], 22, "ref.go:17", #[⟨5, .data⟩], none⟩) rfl (fun K hK => ?_) AllReadyH.nil))
       ·
        replace HS := HS.drew
        replace OX : y1_.drew.ownsRow zz 23 1 _ _ _ := ⟨OX.1, OX.2⟩
        have zs : zz ≤ y1_.drew.heap.size := by have h1 := HS.size; rw [hzz] at h1; exact h1
        obtain ⟨A3_, c3_, w3_, hap, hown, hgr⟩ := app_ws y1_.drew zz _ (0) [] OX Ch k ch _ (Es.below IH.out (BZ.out _ HS)) (by omega) zs
        rw [Nat.zero_add] at hap hown
        rw [List.nil_append] at hown
        refine op_app_run7 (by rfl) rfl rfl rfl hap ?_
        have bg : Below zz y1_.drew w3_ := (Below.refl _ _).grown hgr zs (fun k hk => (OX.lt k hk).1)
        replace HS := HS.trans bg
        replace OX := hown
        clear hap hgr hown bg zs
        replace hS := HS
        refine Shut.out hK _ _ hS (fun _ => ?_)
        clear hK K
        try simp only [Act.put, List.setIfInBounds_toArray, List.set_cons_zero, List.set_cons_succ]
        refine wpAnyH_ready (rs := [6]) (by kernel_rfl) (by simp) (AllReadyH.cons (o := ⟨some 22, .buildSlice 22 1 #[(0, .tmp 21)], 22, "ref.go:17", #[⟨5, .data⟩], none⟩) rfl (fun K hK => ?_) AllReadyH.nil)
        go_simp
        have zs : zz ≤ w3_.heap.size := by have h1 := HS.size; rw [hzz] at h1; exact h1
        have bd : Below w3_.heap.size w3_ (w3_.alloc (.cells #[.int .u64 (x : Int)] 23)) := (Below.refl _ _).alloc (Nat.le_refl _) _
        have NE := fun k hk => Nat.ne_of_lt (OX.lt k hk).2
        replace OX := own_below OX bd
        have VL : (w3_.alloc (.cells #[.int .u64 (x : Int)] 23)).heap[w3_.heap.size]? = some (.cells #[.int .u64 (x : Int)] 23) := heap_alloc_new _ _
        replace HS := HS.trans (bd.mono zs)
        clear bd zs
        generalize w3_.alloc (.cells #[.int .u64 (x : Int)] 23) = y2_ at *
        generalize hs2_ : w3_.heap.size = s2_ at *
        replace hS := HS
        refine Shut.out hK _ _ hS (fun _ => ?_)
        clear hK K
        try simp only [Act.put, List.setIfInBounds_toArray, List.set_cons_zero, List.set_cons_succ]
        refine wpAnyH_ready (rs := [7]) (by kernel_rfl) (by simp) (AllReadyH.cons (o := ⟨some 23, .call { callee := .builtin .append, args := #[.tmp 20, .tmp 22], argTypes := #[22, 22] }, 22, "ref.go:17", #[⟨4, .data⟩, ⟨6, .data⟩, ⟨4, .chain⟩], none⟩) rfl (fun K hK => ?_) AllReadyH.nil)
        have zs : zz ≤ y2_.heap.size := by have h1 := HS.size; rw [hzz] at h1; exact h1
        obtain ⟨A4_, c4_, w4_, hap, hown, hgr⟩ := app_ws y2_ zz _ (k) (ws.take k) OX (some ⟨s2_, 0, none⟩) 1 1 [x] (ws_blk VL) (by omega) zs
        refine op_app_run7 (by rfl) rfl rfl rfl hap ?_
        have bg : Below zz y2_ w4_ := (Below.refl _ _).grown hgr zs (fun k hk => (OX.lt k hk).1)
        replace HS := HS.trans bg
        replace OX := hown
        clear hap hgr hown bg zs
        replace hS := HS
        refine Shut.out hK _ _ hS (fun _ => ?_)
        clear hK K
        try simp only [Act.put, List.setIfInBounds_toArray, List.set_cons_zero, List.set_cons_succ]
        refine wpAnyH_ready (rs := [12]) (by kernel_rfl) (by simp) (AllReadyH.cons (o := ⟨some 28, .call { callee := .builtin .append, args := #[.tmp 23, .tmp 27], argTypes := #[22, 22] }, 22, "ref.go:17", #[⟨7, .data⟩, ⟨11, .data⟩, ⟨7, .chain⟩], none⟩) rfl (fun K hK => ?_) AllReadyH.nil)
        have zs : zz ≤ w4_.heap.size := by have h1 := HS.size; rw [hzz] at h1; exact h1
        obtain ⟨A5_, c5_, w5_, hap, hown, hgr⟩ := app_ws w4_ zz _ (k + 1) (ws.take k ++ [x]) OX Ct (n - (k + 1)) ct _ (Es.below IT.out (BZ.out _ HS)) (by omega) zs
        refine op_app_run7 (by rfl) rfl rfl rfl hap ?_
        have bg : Below zz w4_ w5_ := (Below.refl _ _).grown hgr zs (fun k hk => (OX.lt k hk).1)
        replace HS := HS.trans bg
        replace OX := hown
        clear hap hgr hown bg zs
        replace hS := HS
        refine Shut.out hK _ _ hS (fun _ => ?_)
        clear hK K
        try simp only [Act.put, List.setIfInBounds_toArray, List.set_cons_zero, List.set_cons_succ]
        refine wpAnyH_take (i := 13) (oi := ⟨some 6, .assign (.tmp 28), 22, "ref.go:17", #[⟨12, .data⟩, ⟨12, .chain⟩, ⟨0, .phase⟩, ⟨1, .phase⟩, ⟨2, .phase⟩, ⟨3, .phase⟩, ⟨4, .phase⟩, ⟨5, .phase⟩, ⟨6, .phase⟩, ⟨7, .phase⟩, ⟨8, .phase⟩, ⟨9, .phase⟩, ⟨10, .phase⟩, ⟨11, .phase⟩, ⟨12, .phase⟩], none⟩) (v := ?_) rfl (by kernel_rfl) (by kernel_rfl) (by kernel_rfl) (fun _ _ _ h => h) (Or.inl ⟨by rfl, ?_⟩) hS ?_
        rotate_left
        · intro wv _; go_simp; try with_reducible rfl
        try simp only [Act.put, List.setIfInBounds_toArray, List.set_cons_zero, List.set_cons_succ]
        refine wpAnyH_take (i := 14) (oi := ⟨some 7, .assign (.const (Value.bool true)), 4, "ref.go:17", #[⟨13, .chain⟩, ⟨0, .phase⟩, ⟨1, .phase⟩, ⟨2, .phase⟩, ⟨3, .phase⟩, ⟨4, .phase⟩, ⟨5, .phase⟩, ⟨6, .phase⟩, ⟨7, .phase⟩, ⟨8, .phase⟩, ⟨9, .phase⟩, ⟨10, .phase⟩, ⟨11, .phase⟩, ⟨12, .phase⟩, ⟨13, .phase⟩], none⟩) (v := ?_) rfl (by kernel_rfl) (by kernel_rfl) (by kernel_rfl) (fun _ _ _ h => h) (Or.inl ⟨by rfl, ?_⟩) hS ?_
        rotate_left
        · intro wv _; go_simp; try with_reducible rfl
        try simp only [Act.put, List.setIfInBounds_toArray, List.set_cons_zero, List.set_cons_succ]
        refine wpAnyH_done (by kernel_rfl) ?_ _
        refine NoPanic.normal ?_
        go_wp2
        go_ret2
        rw [HE.out]
        refine ⟨_, _, _, rfl, ?_, by rw [hzz]; exact HS⟩
        have h9 := ws_own OX
        rw [HST.out] at h9
        exact h9
       ·
        go_simp
        have zs : zz ≤ y1_.heap.size := by have h1 := HS.size; rw [hzz] at h1; exact h1
        have bd : Below y1_.heap.size y1_ (y1_.alloc (.cells #[.int .u64 (x : Int)] 23)) := (Below.refl _ _).alloc (Nat.le_refl _) _
        have NE := fun k hk => Nat.ne_of_lt (OX.lt k hk).2
        replace OX := own_below OX bd
        have VL : (y1_.alloc (.cells #[.int .u64 (x : Int)] 23)).heap[y1_.heap.size]? = some (.cells #[.int .u64 (x : Int)] 23) := heap_alloc_new _ _
        replace HS := HS.trans (bd.mono zs)
        clear bd zs
        generalize y1_.alloc (.cells #[.int .u64 (x : Int)] 23) = y2_ at *
        generalize hs2_ : y1_.heap.size = s2_ at *
        replace hS := HS.drew
        refine Shut.out hK _ _ hS (fun _ => ?_)
        clear hK K
        try simp only [Act.put, List.setIfInBounds_toArray, List.set_cons_zero, List.set_cons_succ]
        refine wpAnyH_ready (rs := [4]) (by kernel_rfl) (by simp) (AllReadyH.cons (o := ⟨some 20, .call { callee := .builtin .append, args := #[.tmp 16, .tmp 19], argTypes := #[22, 22] }, 22, "ref.go:17", #[⟨0, .data⟩, ⟨3, .data⟩], none⟩) rfl (fun K hK => ?_) AllReadyH.nil)
        replace HS := HS.drew
        replace OX : y2_.drew.ownsRow zz 23 1 _ _ _ := ⟨OX.1, OX.2⟩
        replace VL : y2_.drew.heap[_]? = _ := VL
        have zs : zz ≤ y2_.drew.heap.size := by have h1 := HS.size; rw [hzz] at h1; exact h1
        obtain ⟨A3_, c3_, w3_, hap, hown, hgr⟩ := app_ws y2_.drew zz _ (0) [] OX Ch k ch _ (Es.below IH.out (BZ.out _ HS)) (by omega) zs
        rw [Nat.zero_add] at hap hown
        rw [List.nil_append] at hown
        refine op_app_run7 (by rfl) rfl rfl rfl hap ?_
        replace VL := blk_grown VL hgr NE
        clear NE
        have bg : Below zz y2_.drew w3_ := (Below.refl _ _).grown hgr zs (fun k hk => (OX.lt k hk).1)
        replace HS := HS.trans bg
        replace OX := hown
        clear hap hgr hown bg zs
        replace hS := HS
        refine Shut.out hK _ _ hS (fun _ => ?_)
        clear hK K
        try simp only [Act.put, List.setIfInBounds_toArray, List.set_cons_zero, List.set_cons_succ]
        refine wpAnyH_ready (rs := [7]) (by kernel_rfl) (by simp) (AllReadyH.cons (o := ⟨some 23, .call { callee := .builtin .append, args := #[.tmp 20, .tmp 22], argTypes := #[22, 22] }, 22, "ref.go:17", #[⟨4, .data⟩, ⟨6, .data⟩, ⟨4, .chain⟩], none⟩) rfl (fun K hK => ?_) AllReadyH.nil)
        have zs : zz ≤ w3_.heap.size := by have h1 := HS.size; rw [hzz] at h1; exact h1
        obtain ⟨A4_, c4_, w4_, hap, hown, hgr⟩ := app_ws w3_ zz _ (k) (ws.take k) OX (some ⟨s2_, 0, none⟩) 1 1 [x] (ws_blk VL) (by omega) zs
        refine op_app_run7 (by rfl) rfl rfl rfl hap ?_
        have bg : Below zz w3_ w4_ := (Below.refl _ _).grown hgr zs (fun k hk => (OX.lt k hk).1)
        replace HS := HS.trans bg
        replace OX := hown
        clear hap hgr hown bg zs
        replace hS := HS
        refine Shut.out hK _ _ hS (fun _ => ?_)
        clear hK K
        try simp only [Act.put, List.setIfInBounds_toArray, List.set_cons_zero, List.set_cons_succ]
        refine wpAnyH_ready (rs := [12]) (by kernel_rfl) (by simp) (AllReadyH.cons (o := ⟨some 28, .call { callee := .builtin .append, args := #[.tmp 23, .tmp 27], argTypes := #[22, 22] }, 22, "ref.go:17", #[⟨7, .data⟩, ⟨11, .data⟩, ⟨7, .chain⟩], none⟩) rfl (fun K hK => ?_) AllReadyH.nil)
        have zs : zz ≤ w4_.heap.size := by have h1 := HS.size; rw [hzz] at h1; exact h1
        obtain ⟨A5_, c5_, w5_, hap, hown, hgr⟩ := app_ws w4_ zz _ (k + 1) (ws.take k ++ [x]) OX Ct (n - (k + 1)) ct _ (Es.below IT.out (BZ.out _ HS)) (by omega) zs
        refine op_app_run7 (by rfl) rfl rfl rfl hap ?_
        have bg : Below zz w4_ w5_ := (Below.refl _ _).grown hgr zs (fun k hk => (OX.lt k hk).1)
        replace HS := HS.trans bg
        replace OX := hown
        clear hap hgr hown bg zs
        replace hS := HS
        refine Shut.out hK _ _ hS (fun _ => ?_)
        clear hK K
        try simp only [Act.put, List.setIfInBounds_toArray, List.set_cons_zero, List.set_cons_succ]
        refine wpAnyH_take (i := 13) (oi := ⟨some 6, .assign (.tmp 28), 22, "ref.go:17", #[⟨12, .data⟩, ⟨12, .chain⟩, ⟨0, .phase⟩, ⟨1, .phase⟩, ⟨2, .phase⟩, ⟨3, .phase⟩, ⟨4, .phase⟩, ⟨5, .phase⟩, ⟨6, .phase⟩, ⟨7, .phase⟩, ⟨8, .phase⟩, ⟨9, .phase⟩, ⟨10, .phase⟩, ⟨11, .phase⟩, ⟨12, .phase⟩], none⟩) (v := ?_) rfl (by kernel_rfl) (by kernel_rfl) (by kernel_rfl) (fun _ _ _ h => h) (Or.inl ⟨by rfl, ?_⟩) hS ?_
        rotate_left
        · intro wv _; go_simp; try with_reducible rfl
        try simp only [Act.put, List.setIfInBounds_toArray, List.set_cons_zero, List.set_cons_succ]
        refine wpAnyH_take (i := 14) (oi := ⟨some 7, .assign (.const (Value.bool true)), 4, "ref.go:17", #[⟨13, .chain⟩, ⟨0, .phase⟩, ⟨1, .phase⟩, ⟨2, .phase⟩, ⟨3, .phase⟩, ⟨4, .phase⟩, ⟨5, .phase⟩, ⟨6, .phase⟩, ⟨7, .phase⟩, ⟨8, .phase⟩, ⟨9, .phase⟩, ⟨10, .phase⟩, ⟨11, .phase⟩, ⟨12, .phase⟩, ⟨13, .phase⟩], none⟩) (v := ?_) rfl (by kernel_rfl) (by kernel_rfl) (by kernel_rfl) (fun _ _ _ h => h) (Or.inl ⟨by rfl, ?_⟩) hS ?_
        rotate_left
        · intro wv _; go_simp; try with_reducible rfl
        try simp only [Act.put, List.setIfInBounds_toArray, List.set_cons_zero, List.set_cons_succ]
        refine wpAnyH_done (by kernel_rfl) ?_ _
        refine NoPanic.normal ?_
        go_wp2
        go_ret2
        rw [HE.out]
        refine ⟨_, _, _, rfl, ?_, by rw [hzz]; exact HS⟩
        have h9 := ws_own OX
        rw [HST.out] at h9
        exact h9
      ·
       go_simp
       have zs : zz ≤ zz := Nat.le_refl _
       have bd : Below zz w (w.alloc (.cells #[.int .u64 (x : Int)] 23)) := by have h := (Below.refl w.heap.size w).alloc (Nat.le_refl _) (.cells #[.int .u64 (x : Int)] 23); rwa [hzz] at h
       have VL : (w.alloc (.cells #[.int .u64 (x : Int)] 23)).heap[zz]? = some (.cells #[.int .u64 (x : Int)] 23) := by have h := heap_alloc_new w (.cells #[.int .u64 (x : Int)] 23); rw [hzz] at h; exact h
       replace HS := HS.trans (bd.mono zs)
       clear bd zs
       generalize w.alloc (.cells #[.int .u64 (x : Int)] 23) = y1_ at *
       replace hS := HS.drew
       refine Shut.out hK _ _ hS (fun _ => ?_)
       clear hK K
       try simp only [Act.put, List.setIfInBounds_toArray, List.set_cons_zero, List.set_cons_succ]
       refine wpAnyH_ready (rs := [0]) (by kernel_rfl) (by simp) (AllReadyH.cons (o := ⟨some 16, .buildSlice 22 0 #[], 22, "ref.go:17", #[], none⟩) rfl (fun K hK => ?_) AllReadyH.nil)
       go_simp
       have zs : zz ≤ y1_.heap.size := by have h1 := HS.size; rw [hzz] at h1; exact h1
       have bd : Below y1_.heap.size y1_ (y1_.alloc (.cells #[] 23)) := (Below.refl _ _).alloc (Nat.le_refl _) _
       have ltl := blk_lt VL
       replace VL := blk_below VL bd ltl
       have OX : (y1_.alloc (.cells #[] 23)).ownsRow zz 23 1 (.slice (some ⟨y1_.heap.size, 0, none⟩) 0 0) 0 (U64s []) := lit_ws y1_ zs
       have NE : ∀ k, (Value.slice (some ⟨y1_.heap.size, 0, none⟩) 0 0).ownBlock = some k → k ≠ zz := fun k hk => by simp [Value.ownBlock] at hk; subst hk; exact (Nat.ne_of_lt ltl).symm
       clear ltl
       replace HS := HS.trans (bd.mono zs)
       clear bd zs
       generalize y1_.alloc (.cells #[] 23) = y2_ at *
       generalize hs2_ : y1_.heap.size = s2_ at *
       replace hS := HS.drew
       refine Shut.out hK _ _ hS (fun _ => ?_)
       clear hK K
       try simp only [Act.put, List.setIfInBounds_toArray, List.set_cons_zero, List.set_cons_succ]
       refine wpAnyH_ready (rs := [4]) (by kernel_rfl) (by simp) (AllReadyH.cons (o := ⟨some 20, .call { callee := .builtin .append, args := #[.tmp 16, .tmp 19], argTypes := #[22, 22] }, 22, "ref.go:17", #[⟨0, .data⟩, ⟨3, .data⟩], none⟩) rfl (fun K hK => ?_) AllReadyH.nil)
       replace HS := HS.drew
       replace OX : y2_.drew.ownsRow zz 23 1 _ _ _ := ⟨OX.1, OX.2⟩
       replace VL : y2_.drew.heap[_]? = _ := VL
       have zs : zz ≤ y2_.drew.heap.size := by have h1 := HS.size; rw [hzz] at h1; exact h1
       obtain ⟨A3_, c3_, w3_, hap, hown, hgr⟩ := app_ws y2_.drew zz _ (0) [] OX Ch k ch _ (Es.below IH.out (BZ.out _ HS)) (by omega) zs
       rw [Nat.zero_add] at hap hown
       rw [List.nil_append] at hown
       refine op_app_run7 (by rfl) rfl rfl rfl hap ?_
       replace VL := blk_grown VL hgr NE
       clear NE
       have bg : Below zz y2_.drew w3_ := (Below.refl _ _).grown hgr zs (fun k hk => (OX.lt k hk).1)
       replace HS := HS.trans bg
       replace OX := hown
       clear hap hgr hown bg zs
       replace hS := HS
       refine Shut.out hK _ _ hS (fun _ => ?_)
       clear hK K
       try simp only [Act.put, List.setIfInBounds_toArray, List.set_cons_zero, List.set_cons_succ]
       refine wpAnyH_ready (rs := [7]) (by kernel_rfl) (by simp) (AllReadyH.cons (o := ⟨some 23, .call { callee := .builtin .append, args := #[.tmp 20, .tmp 22], argTypes := #[22, 22] }, 22, "ref.go:17", #[⟨4, .data⟩, ⟨6, .data⟩, ⟨4, .chain⟩], none⟩) rfl (fun K hK => ?_) AllReadyH.nil)
       have zs : zz ≤ w3_.heap.size := by have h1 := HS.size; rw [hzz] at h1; exact h1
       obtain ⟨A4_, c4_, w4_, hap, hown, hgr⟩ := app_ws w3_ zz _ (k) (ws.take k) OX (some ⟨zz, 0, none⟩) 1 1 [x] (ws_blk VL) (by omega) zs
       refine op_app_run7 (by rfl) rfl rfl rfl hap ?_
       have bg : Below zz w3_ w4_ := (Below.refl _ _).grown hgr zs (fun k hk => (OX.lt k hk).1)
       replace HS := HS.trans bg
       replace OX := hown
       clear hap hgr hown bg zs
       replace hS := HS
       refine Shut.out hK _ _ hS (fun _ => ?_)
       clear hK K
       try simp only [Act.put, List.setIfInBounds_toArray, List.set_cons_zero, List.set_cons_succ]
       refine wpAnyH_ready (rs := [12]) (by kernel_rfl) (by simp) (AllReadyH.cons (o := ⟨some 28, .call { callee := .builtin .append, args := #[.tmp 23, .tmp 27], argTypes := #[22, 22] }, 22, "ref.go:17", #[⟨7, .data⟩, ⟨11, .data⟩, ⟨7, .chain⟩], none⟩) rfl (fun K hK => ?_) AllReadyH.nil)
       have zs : zz ≤ w4_.heap.size := by have h1 := HS.size; rw [hzz] at h1; exact h1
       obtain ⟨A5_, c5_, w5_, hap, hown, hgr⟩ := app_ws w4_ zz _ (k + 1) (ws.take k ++ [x]) OX Ct (n - (k + 1)) ct _ (Es.below IT.out (BZ.out _ HS)) (by omega) zs
       refine op_app_run7 (by rfl) rfl rfl rfl hap ?_
       have bg : Below zz w4_ w5_ := (Below.refl _ _).grown hgr zs (fun k hk => (OX.lt k hk).1)
       replace HS := HS.trans bg
       replace OX := hown
       clear hap hgr hown bg zs
       replace hS := HS
       refine Shut.out hK _ _ hS (fun _ => ?_)
       clear hK K
       try simp only [Act.put, List.setIfInBounds_toArray, List.set_cons_zero, List.set_cons_succ]
       refine wpAnyH_take (i := 13) (oi := ⟨some 6, .assign (.tmp 28), 22, "ref.go:17", #[⟨12, .data⟩, ⟨12, .chain⟩, ⟨0, .phase⟩, ⟨1, .phase⟩, ⟨2, .phase⟩, ⟨3, .phase⟩, ⟨4, .phase⟩, ⟨5, .phase⟩, ⟨6, .phase⟩, ⟨7, .phase⟩, ⟨8, .phase⟩, ⟨9, .phase⟩, ⟨10, .phase⟩, ⟨11, .phase⟩, ⟨12, .phase⟩], none⟩) (v := ?_) rfl (by kernel_rfl) (by kernel_rfl) (by kernel_rfl) (fun _ _ _ h => h) (Or.inl ⟨by rfl, ?_⟩) hS ?_
       rotate_left
       · intro wv _; go_simp; try with_reducible rfl
       try simp only [Act.put, List.setIfInBounds_toArray, List.set_cons_zero, List.set_cons_succ]
       refine wpAnyH_take (i := 14) (oi := ⟨some 7, .assign (.const (Value.bool true)), 4, "ref.go:17", #[⟨13, .chain⟩, ⟨0, .phase⟩, ⟨1, .phase⟩, ⟨2, .phase⟩, ⟨3, .phase⟩, ⟨4, .phase⟩, ⟨5, .phase⟩, ⟨6, .phase⟩, ⟨7, .phase⟩, ⟨8, .phase⟩, ⟨9, .phase⟩, ⟨10, .phase⟩, ⟨11, .phase⟩, ⟨12, .phase⟩, ⟨13, .phase⟩], none⟩) (v := ?_) rfl (by kernel_rfl) (by kernel_rfl) (by kernel_rfl) (fun _ _ _ h => h) (Or.inl ⟨by rfl, ?_⟩) hS ?_
       rotate_left
       · intro wv _; go_simp; try with_reducible rfl
       try simp only [Act.put, List.setIfInBounds_toArray, List.set_cons_zero, List.set_cons_succ]
       refine wpAnyH_done (by kernel_rfl) ?_ _
       refine NoPanic.normal ?_
       go_wp2
       go_ret2
       rw [HE.out]
       refine ⟨_, _, _, rfl, ?_, by rw [hzz]; exact HS⟩
       have h9 := ws_own OX
       rw [HST.out] at h9
       exact h9
set_option maxRecDepth 100000 in
set_option maxHeartbeats 8000000 in
theorem refSwap14_any (A : Option Addr) (n c : Nat) (ws : List Nat) (i : Int) (old x : Nat) (w : World) (hx : Ws w A n c ws) (hn : n ≤ 16384) :
    Calls Try.prog 11 #[.slice A n c, .int .i64 i, .int .u64 (old : Int), .int .u64 (x : Int)] w (SwP w (swapC ws i old x)) := by
  have RX := Lib.hid hx
  have LD := refLoad14_any A n c ws i w hx
  have ST := fun (W : World) (h : Ws W A n c ws) => refStore14_any A n c ws i x W h hn
  obtain ⟨R, hR⟩ : ∃ R, swapC ws i old x = R := ⟨_, rfl⟩
  rw [hR]
  unfold swapC at hR
  unfold loadC at LD
  unfold storeC at ST
  by_cases h1 : isC ws i
  · rw [if_pos h1] at hR LD
    simp only [if_pos h1] at ST
    generalize hv : ws.getD i.toNat 0 = v at *
    replace LD := Lib.hid LD; replace ST := Lib.hid ST
    clear h1 hv
    by_cases h2 : v = old
    · have b0 : ((v : Int) != (old : Int)) = false := by simp [h2]
      rw [if_pos h2] at hR
      have HE := Lib.hid hR.symm
      clear hR h2
      go_enter Try.func11, Try.ntmps11
      go_wp2_with fail
      refine LD.out.mono ?_
      rintro e w1 ⟨rfl, hb⟩
      have HB := Lib.hid hb
      clear hb hx
      go_wp2_with fail
      refine (ST.out _ (Es.below RX.out HB.out)).mono ?_
      rintro e w2 ⟨A2, n2, c2, rfl, hw, hb⟩
      have HW := Lib.hid hw
      replace HB := Lib.hid (HB.out.trans (hb.mono HB.out.size))
      clear hb hw
      go_wp2
      go_ret3
      rw [HE.out]
      exact ⟨_, _, _, rfl, HW.out, HB.out⟩
    · have b0 : ((v : Int) != (old : Int)) = true := by simp; omega
      rw [if_neg h2] at hR
      have HE := Lib.hid hR.symm
      clear hR h2
      go_enter Try.func11, Try.ntmps11
      go_wp2_with fail
      refine LD.out.mono ?_
      rintro e w1 ⟨rfl, hb⟩
      have HB := Lib.hid hb
      clear hb hx
      obtain ⟨A3, c3, w3, hap, hown, hgr⟩ := app_ws (w1.alloc (.cells #[] 23)) w1.heap.size _ 0 [] (lit_ws w1 (Nat.le_refl _)) A n c ws (Es.alloc (Es.below RX.out HB.out) _) (by omega) (by simp)
      rw [Nat.zero_add] at hap hown
      rw [List.nil_append] at hown
      have hb3 : Below w1.heap.size w1 w3 := ((Below.refl _ _).alloc (Nat.le_refl _) _).grown hgr (by simp) (by simp [Value.ownBlock])
      have HW := Lib.hid (ws_own hown)
      replace HB := Lib.hid (HB.out.trans (hb3.mono HB.out.size))
      clear hown hgr hb3
      go_wp2_with (at_builtin; refine eapp_run (by rfl) rfl rfl rfl hap ?_)
      go_ret3
      rw [HE.out]
      exact ⟨_, _, _, rfl, HW.out, HB.out⟩
  · rw [if_neg h1] at hR LD
    replace LD := Lib.hid LD
    have HE := Lib.hid hR.symm
    clear hR h1 ST
    go_enter Try.func11, Try.ntmps11
    go_wp2_with fail
    refine LD.out.mono ?_
    rintro e w1 ⟨rfl, hb⟩
    have HB := Lib.hid hb
    clear hb hx
    go_wp2
    go_ret3
    rw [HE.out]
    exact ⟨none, 0, 0, rfl, Es.nil _ _ _ _, HB.out⟩
set_option maxRecDepth 100000 in
set_option maxHeartbeats 8000000 in
theorem refMore14_any (A : Option Addr) (n c : Nat) (ws : List Nat) (i : Int) (y : Nat) (w : World) (hx : Ws w A n c ws) (hn : n ≤ 16384) :
    Calls Try.prog 13 #[.slice A n c, .int .i64 i, .int .u64 (y : Int)] w (MoP w (moreC ws i y)) := by
  have RX := Lib.hid hx
  have LD := refLoad14_any A n c ws i w hx
  have ST := fun (x : Nat) (W : World) (h : Ws W A n c ws) => refStore14_any A n c ws i x W h hn
  obtain ⟨R, hR⟩ : ∃ R, moreC ws i y = R := ⟨_, rfl⟩
  rw [hR]
  unfold moreC at hR
  unfold loadC at LD
  unfold storeC at ST
  by_cases h1 : isC ws i
  · rw [if_pos h1] at hR LD
    simp only [if_pos h1] at ST
    generalize hv : ws.getD i.toNat 0 = v at *
    obtain ⟨z, hz⟩ : ∃ z : Nat, (v + y) % M64_ = z := ⟨_, rfl⟩
    rw [hz] at hR
    have hwz := wrap_more hz
    replace LD := Lib.hid LD; replace ST := Lib.hid (ST z)
    have HE := Lib.hid hR.symm
    clear h1 hv hz hR
    go_enter Try.func13, Try.ntmps13
    go_wp2_with fail
    refine LD.out.mono ?_
    rintro e w1 ⟨rfl, hb⟩
    have HB := Lib.hid hb
    clear hb hx
    go_wp2_with fail
    refine (ST.out _ (Es.below RX.out HB.out)).mono ?_
    rintro e w2 ⟨A2, n2, c2, rfl, hw, hb⟩
    have HW := Lib.hid hw
    replace HB := Lib.hid (HB.out.trans (hb.mono HB.out.size))
    clear hb hw
    go_wp2
    go_ret3
    rw [HE.out]
    exact ⟨_, _, _, rfl, HW.out, HB.out⟩
  · rw [if_neg h1] at hR LD
    replace LD := Lib.hid LD
    have HE := Lib.hid hR.symm
    clear hR h1 ST
    go_enter Try.func13, Try.ntmps13
    go_wp2_with fail
    refine LD.out.mono ?_
    rintro e w1 ⟨rfl, hb⟩
    have HB := Lib.hid hb
    clear hb hx
    go_wp2
    go_ret3
    rw [HE.out]
    exact ⟨none, 0, 0, rfl, Es.nil _ _ _ _, HB.out⟩
end Go.Proofs.Ytmgkmeppnhdhnaa
