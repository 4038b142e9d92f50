/- What the landed timer's own comparisons answer: isNaN, Compare, Or, inTurn, isBefore, parent, isAheadOfParent, mayBe; for lists of up to 16384. -/
import Derived.Test.YtehpfpphpffniaaTimF
namespace Go.Proofs.Ytehpfpphpffniaa
set_option linter.unusedVariables false
set_option linter.unusedSimpArgs false
open Go.RowKit
def cmpI (x y : Int) : Int := if x < y then -1 else if y < x then 1 else 0
def orI (x y : Int) : Int := if x = 0 then y else x
theorem turn_bef (a1 a2 b1 b2 : Int) : decide (orI (cmpI a1 b1) (cmpI a2 b2) < 0) = decide (befT (a1, a2) (b1, b2)) := by
  apply decide_eq_decide.2
  unfold orI cmpI befT
  simp only
  constructor
  · intro h; split at h <;> split at h <;> (try split at h) <;> (try split at h) <;> omega
  · intro h; split <;> split <;> (try split) <;> (try split) <;> omega
set_option maxRecDepth 100000 in
set_option maxHeartbeats 4000000 in
theorem nan12a_any (x : Int) (w : World) : Calls Try.prog 60 #[.int .i64 x] w (fun e w' => e = .returned (.bool false) ∧ w' = w) := by
  have h0 : (x != x) = false := by simp
  go_enter Try.func60, Try.ntmps60
  go_wp2
  go_ret
  exact ⟨rfl, rfl⟩
theorem cmp12a_any (x y : Int) (w : World) : Calls Try.prog 47 #[.int .i64 x, .int .i64 y] w (fun e w' => e = .returned (.int .i64 (cmpI x y)) ∧ w' = w) := by
  have N := Lib.hid (fun (x : Int) (w : World) => nan12a_any x w)
  obtain ⟨R, hR⟩ : ∃ R, cmpI x y = R := ⟨_, rfl⟩
  rw [hR]
  unfold cmpI at hR
  by_cases h1 : x < y
  · have c1 : decide (x < y) = true := by simpa using h1
    rw [if_pos h1] at hR
    have HE := Lib.hid hR.symm
    clear hR h1
    go_enter Try.func47, Try.ntmps47
    go_wp2_with fail
    refine (N.out x _).mono ?_
    rintro e w1 ⟨rfl, rfl⟩
    go_wp2_with fail
    refine (N.out y _).mono ?_
    rintro e w1 ⟨rfl, rfl⟩
    go_wp2
    go_ret
    rw [HE.out]
    exact ⟨rfl, rfl⟩
  · have c1 : decide (x < y) = false := by simpa using h1
    rw [if_neg h1] at hR
    by_cases h2 : y < x
    · have c2 : decide (y < x) = true := by simpa using h2
      rw [if_pos h2] at hR
      have HE := Lib.hid hR.symm
      clear hR h1 h2
      go_enter Try.func47, Try.ntmps47
      go_wp2_with fail
      refine (N.out x _).mono ?_
      rintro e w1 ⟨rfl, rfl⟩
      go_wp2_with fail
      refine (N.out y _).mono ?_
      rintro e w1 ⟨rfl, rfl⟩
      go_wp2
      go_ret
      rw [HE.out]
      exact ⟨rfl, rfl⟩
    · have c2 : decide (y < x) = false := by simpa using h2
      rw [if_neg h2] at hR
      have HE := Lib.hid hR.symm
      clear hR h1 h2
      go_enter Try.func47, Try.ntmps47
      go_wp2_with fail
      refine (N.out x _).mono ?_
      rintro e w1 ⟨rfl, rfl⟩
      go_wp2_with fail
      refine (N.out y _).mono ?_
      rintro e w1 ⟨rfl, rfl⟩
      go_wp2
      go_ret
      rw [HE.out]
      exact ⟨rfl, rfl⟩
set_option maxRecDepth 100000 in
set_option maxHeartbeats 4000000 in
theorem nan12b_any (x : Int) (w : World) : Calls Try.prog 61 #[.int .i64 x] w (fun e w' => e = .returned (.bool false) ∧ w' = w) := by
  have h0 : (x != x) = false := by simp
  go_enter Try.func61, Try.ntmps61
  go_wp2
  go_ret
  exact ⟨rfl, rfl⟩
theorem cmp12b_any (x y : Int) (w : World) : Calls Try.prog 48 #[.int .i64 x, .int .i64 y] w (fun e w' => e = .returned (.int .i64 (cmpI x y)) ∧ w' = w) := by
  have N := Lib.hid (fun (x : Int) (w : World) => nan12b_any x w)
  obtain ⟨R, hR⟩ : ∃ R, cmpI x y = R := ⟨_, rfl⟩
  rw [hR]
  unfold cmpI at hR
  by_cases h1 : x < y
  · have c1 : decide (x < y) = true := by simpa using h1
    rw [if_pos h1] at hR
    have HE := Lib.hid hR.symm
    clear hR h1
    go_enter Try.func48, Try.ntmps48
    go_wp2_with fail
    refine (N.out x _).mono ?_
    rintro e w1 ⟨rfl, rfl⟩
    go_wp2_with fail
    refine (N.out y _).mono ?_
    rintro e w1 ⟨rfl, rfl⟩
    go_wp2
    go_ret
    rw [HE.out]
    exact ⟨rfl, rfl⟩
  · have c1 : decide (x < y) = false := by simpa using h1
    rw [if_neg h1] at hR
    by_cases h2 : y < x
    · have c2 : decide (y < x) = true := by simpa using h2
      rw [if_pos h2] at hR
      have HE := Lib.hid hR.symm
      clear hR h1 h2
      go_enter Try.func48, Try.ntmps48
      go_wp2_with fail
      refine (N.out x _).mono ?_
      rintro e w1 ⟨rfl, rfl⟩
      go_wp2_with fail
      refine (N.out y _).mono ?_
      rintro e w1 ⟨rfl, rfl⟩
      go_wp2
      go_ret
      rw [HE.out]
      exact ⟨rfl, rfl⟩
    · have c2 : decide (y < x) = false := by simpa using h2
      rw [if_neg h2] at hR
      have HE := Lib.hid hR.symm
      clear hR h1 h2
      go_enter Try.func48, Try.ntmps48
      go_wp2_with fail
      refine (N.out x _).mono ?_
      rintro e w1 ⟨rfl, rfl⟩
      go_wp2_with fail
      refine (N.out y _).mono ?_
      rintro e w1 ⟨rfl, rfl⟩
      go_wp2
      go_ret
      rw [HE.out]
      exact ⟨rfl, rfl⟩
set_option maxRecDepth 100000 in
set_option maxHeartbeats 4000000 in
theorem or12_any (A : Option Addr) (c : Nat) (x y : Int) (w : World) (hx : Is w A 2 c [x, y]) : Calls Try.prog 46 #[.slice A 2 c] w (fun e w' => e = .returned (.int .i64 (orI x y)) ∧ w' = w) := by
  obtain ⟨R, hR⟩ : ∃ R, orI x y = R := ⟨_, rfl⟩
  rw [hR]
  unfold orI at hR
  obtain ⟨b, off, rfl, hb, hc⟩ := Es.mem hx (by omega)
  have k0 := hc 0 (.int .i64 x) rfl
  have k1 := hc 1 (.int .i64 y) rfl
  rw [Nat.add_zero] at k0
  clear hx hc hb
  by_cases h1 : x = 0
  · subst h1
    rw [if_pos rfl] at hR
    subst hR
    by_cases h2 : y = 0
    · subst h2
      go_enter Try.func46, Try.ntmps46
      go_wp2
      go_loopw [8] (fun iv wr => ∃ (i : Nat), iv = .int .i64 (i : Int) ∧ i ≤ 2 ∧ wr = w) (fun iv _ => 2 - (intOf iv).toNat)
      case atStart => exact ⟨0, rfl, by omega, by first | trivial | rfl⟩
      case round =>
        obtain ⟨i, rfl, hi, hw⟩ := hrel
        subst hw
        rcases (by omega : i = 0 ∨ i = 1 ∨ i = 2) with rfl | rfl | rfl
        · go_wp2
          go_roundw
          case rel => exact ⟨1, rfl, by omega, by first | trivial | rfl⟩
          case measure => simp [intOf]
        · go_wp2
          go_roundw
          case rel => exact ⟨2, rfl, by omega, by first | trivial | rfl⟩
          case measure => simp [intOf]
        · go_wp2
          go_ret
          exact ⟨rfl, rfl⟩
    · have c2 : (y != 0) = true := by simpa using h2
      clear h2
      go_enter Try.func46, Try.ntmps46
      go_wp2
      go_loopw [8] (fun iv wr => ∃ (i : Nat), iv = .int .i64 (i : Int) ∧ i ≤ 1 ∧ wr = w) (fun iv _ => 2 - (intOf iv).toNat)
      case atStart => exact ⟨0, rfl, by omega, by first | trivial | rfl⟩
      case round =>
        obtain ⟨i, rfl, hi, hw⟩ := hrel
        subst hw
        rcases (by omega : i = 0 ∨ i = 1) with rfl | rfl
        · go_wp2
          go_roundw
          case rel => exact ⟨1, rfl, by omega, by first | trivial | rfl⟩
          case measure => simp [intOf]
        · go_wp2
          go_ret
          exact ⟨rfl, rfl⟩
  · have c1 : (x != 0) = true := by simpa using h1
    rw [if_neg h1] at hR
    have HE := Lib.hid hR.symm
    clear h1 hR
    go_enter Try.func46, Try.ntmps46
    go_wp2
    go_loopw [8] (fun iv wr => iv = .int .i64 0 ∧ wr = w) (fun iv _ => 2 - (intOf iv).toNat)
    case atStart => exact ⟨rfl, by first | trivial | rfl⟩
    case round =>
      obtain ⟨rfl, hw⟩ := hrel
      subst hw
      go_wp2
      go_ret
      rw [HE.out]
      exact ⟨rfl, rfl⟩
set_option maxRecDepth 100000 in
set_option maxHeartbeats 4000000 in
theorem turn12_any (a1 a2 b1 b2 : Int) (w : World) :
    Calls Try.prog 36 #[.agg #[.int .i64 a1, .int .i64 a2], .agg #[.int .i64 b1, .int .i64 b2]] w (fun e w' => e = .returned (.int .i64 (orI (cmpI a1 b1) (cmpI a2 b2))) ∧ Below w.heap.size w w') := by
  have CA := Lib.hid (fun (W : World) => cmp12a_any a1 b1 W)
  have CB := Lib.hid (fun (W : World) => cmp12b_any a2 b2 W)
  obtain ⟨x, hx⟩ : ∃ x, cmpI a1 b1 = x := ⟨_, rfl⟩
  obtain ⟨y, hy⟩ : ∃ y, cmpI a2 b2 = y := ⟨_, rfl⟩
  rw [hx] at CA
  rw [hy] at CB
  rw [hx, hy]
  have OR := Lib.hid (fun (W : World) (A : Option Addr) (h : Is W A 2 2 [x, y]) => or12_any A 2 x y W h)
  obtain ⟨R, hR⟩ : ∃ R, orI x y = R := ⟨_, rfl⟩
  rw [hR] at OR
  rw [hR]
  clear hx hy hR
  obtain ⟨v1, hv1⟩ : ∃ W, w.alloc (.cells #[.int .i64 a1, .int .i64 a2] 24) = W := ⟨_, rfl⟩
  have fr1 : Fr w v1 w.heap.size [.cells #[.int .i64 a1, .int .i64 a2] 24] := hv1 ▸ Fr.first w _
  have z1 : v1.heap.size = w.heap.size + 1 := by rw [← hv1, Fr.size1]
  obtain ⟨v2, hv2⟩ : ∃ W, v1.alloc (.cells #[.int .i64 b1, .int .i64 b2] 24) = W := ⟨_, rfl⟩
  have fr2 : Fr w v2 w.heap.size [.cells #[.int .i64 a1, .int .i64 a2] 24, .cells #[.int .i64 b1, .int .i64 b2] 24] := hv2 ▸ fr1.more z1 _
  have z2 : v2.heap.size = w.heap.size + 2 := by rw [← hv2, Fr.size1, z1]
  generalize hq : w.heap.size = q at *
  have FR := Lib.hid fr2
  clear fr1 fr2
  have hlt := is_lit v2 [x, y] (m := 2) rfl
  rw [z2] at hlt
  have LT := Lib.hid (show Is (v2.alloc (.cells #[.int .i64 x, .int .i64 y] 3)).drew (some ⟨q + 2, 0, none⟩) 2 2 [x, y] from Es.drew hlt)
  have LS := Lib.hid (show Fr w (v2.alloc (.cells #[.int .i64 x, .int .i64 y] 3)).drew q [.cells #[.int .i64 a1, .int .i64 a2] 24, .cells #[.int .i64 b1, .int .i64 b2] 24] from (FR.out.step ((Below.refl _ _).alloc (Nat.le_refl _) _)).drew)
  clear hlt
  go_enter Try.func36, Try.ntmps36
  go_upto_region 1 with fail
  refine wp_region_noPanic ?_
  refine wp_region_held_drew (S := (fun wv => Hid (Fr w wv q [.cells #[.int .i64 a1, .int .i64 a2] 24, .cells #[.int .i64 b1, .int .i64 b2] 24]))) (by kernel_rfl) (Lib.hid FR.out.drew) (fun hS => ?_)
  refine wpAnyH_take (i := 0) (oi := ⟨some 5, .fieldAddr 24 (.tmp 2) 0, 0, "heap.go:86", #[], none⟩) (v := ?_) rfl (by kernel_rfl) (by kernel_rfl) (by kernel_rfl) (fun _ _ _ h => h) (Or.inl ⟨by rfl, ?_⟩) hS ?_
  rotate_left
  · intro wv _; go_simp; try with_reducible rfl
  try simp only [Act.put, List.setIfInBounds_toArray, List.set_cons_zero, List.set_cons_succ]
  refine wpAnyH_take (i := 1) (oi := ⟨some 6, .load 2 (.tmp 5), 2, "heap.go:86", #[⟨0, .data⟩], none⟩) (v := ?_) rfl (by kernel_rfl) (by kernel_rfl) (by kernel_rfl) (fun _ _ _ h => h) (Or.inl ⟨by rfl, ?_⟩) hS ?_
  rotate_left
  · intro wv hS; have hrun := (show wv.cell? ⟨q, 0, none⟩ = some (.int .i64 a1) from hS.out.cell 0 0 rfl rfl rfl); go_simp; try with_reducible rfl
  try simp only [Act.put, List.setIfInBounds_toArray, List.set_cons_zero, List.set_cons_succ]
  refine wpAnyH_take (i := 2) (oi := ⟨some 7, .fieldAddr 24 (.tmp 3) 0, 0, "heap.go:86", #[], none⟩) (v := ?_) rfl (by kernel_rfl) (by kernel_rfl) (by kernel_rfl) (fun _ _ _ h => h) (Or.inl ⟨by rfl, ?_⟩) hS ?_
  rotate_left
  · intro wv _; go_simp; try with_reducible rfl
  try simp only [Act.put, List.setIfInBounds_toArray, List.set_cons_zero, List.set_cons_succ]
  refine wpAnyH_take (i := 3) (oi := ⟨some 8, .load 2 (.tmp 7), 2, "heap.go:86", #[⟨2, .data⟩], none⟩) (v := ?_) rfl (by kernel_rfl) (by kernel_rfl) (by kernel_rfl) (fun _ _ _ h => h) (Or.inl ⟨by rfl, ?_⟩) hS ?_
  rotate_left
  · intro wv hS; have hrun := (show wv.cell? ⟨q + 1, 0, none⟩ = some (.int .i64 b1) from hS.out.cell 1 0 rfl rfl rfl); go_simp; try with_reducible rfl
  try simp only [Act.put, List.setIfInBounds_toArray, List.set_cons_zero, List.set_cons_succ]
  refine wpAnyH_take (i := 5) (oi := ⟨some 10, .fieldAddr 24 (.tmp 2) 1, 0, "heap.go:86", #[], none⟩) (v := ?_) rfl (by kernel_rfl) (by kernel_rfl) (by kernel_rfl) (fun _ _ _ h => h) (Or.inl ⟨by rfl, ?_⟩) hS ?_
  rotate_left
  · intro wv _; go_simp; try with_reducible rfl
  try simp only [Act.put, List.setIfInBounds_toArray, List.set_cons_zero, List.set_cons_succ]
  refine wpAnyH_take (i := 6) (oi := ⟨some 11, .load 3 (.tmp 10), 3, "heap.go:86", #[⟨5, .data⟩], none⟩) (v := ?_) rfl (by kernel_rfl) (by kernel_rfl) (by kernel_rfl) (fun _ _ _ h => h) (Or.inl ⟨by rfl, ?_⟩) hS ?_
  rotate_left
  · intro wv hS; have hrun := (show wv.cell? ⟨q, 1, none⟩ = some (.int .i64 a2) from hS.out.cell 0 1 rfl rfl rfl); go_simp; try with_reducible rfl
  try simp only [Act.put, List.setIfInBounds_toArray, List.set_cons_zero, List.set_cons_succ]
  refine wpAnyH_take (i := 7) (oi := ⟨some 12, .fieldAddr 24 (.tmp 3) 1, 0, "heap.go:86", #[], none⟩) (v := ?_) rfl (by kernel_rfl) (by kernel_rfl) (by kernel_rfl) (fun _ _ _ h => h) (Or.inl ⟨by rfl, ?_⟩) hS ?_
  rotate_left
  · intro wv _; go_simp; try with_reducible rfl
  try simp only [Act.put, List.setIfInBounds_toArray, List.set_cons_zero, List.set_cons_succ]
  refine wpAnyH_take (i := 8) (oi := ⟨some 13, .load 3 (.tmp 12), 3, "heap.go:86", #[⟨7, .data⟩], none⟩) (v := ?_) rfl (by kernel_rfl) (by kernel_rfl) (by kernel_rfl) (fun _ _ _ h => h) (Or.inl ⟨by rfl, ?_⟩) hS ?_
  rotate_left
  · intro wv hS; have hrun := (show wv.cell? ⟨q + 1, 1, none⟩ = some (.int .i64 b2) from hS.out.cell 1 1 rfl rfl rfl); go_simp; try with_reducible rfl
  try simp only [Act.put, List.setIfInBounds_toArray, List.set_cons_zero, List.set_cons_succ]
  refine wpAnyH_ready (rs := [4]) (by kernel_rfl) (by simp) (AllReadyH.cons (o := ⟨some 9, .call { callee := .value (.func 47), args := #[.tmp 6, .tmp 8], argTypes := #[2, 2] }, 3, "heap.go:86", #[⟨1, .data⟩, ⟨3, .data⟩], none⟩) rfl (fun K hK => ?_) AllReadyH.nil)
  go_simp
  refine (CA.out _).mono ?_; rintro e wa ⟨rfl, rfl⟩
  go_wp2_with fail
  refine Shut.out hK _ _ hS (fun _ => ?_)
  clear hK K
  try simp only [Act.put, List.setIfInBounds_toArray, List.set_cons_zero, List.set_cons_succ]
  refine wpAnyH_ready (rs := [9]) (by kernel_rfl) (by simp) (AllReadyH.cons (o := ⟨some 14, .call { callee := .value (.func 48), args := #[.tmp 11, .tmp 13], argTypes := #[3, 3] }, 3, "heap.go:86", #[⟨6, .data⟩, ⟨8, .data⟩, ⟨4, .chain⟩], none⟩) rfl (fun K hK => ?_) AllReadyH.nil)
  go_simp
  refine (CB.out _).mono ?_; rintro e wa ⟨rfl, rfl⟩
  go_wp2_with fail
  refine Shut.out hK _ _ hS (fun _ => ?_)
  clear hK K
  try simp only [Act.put, List.setIfInBounds_toArray, List.set_cons_zero, List.set_cons_succ]
  refine wpAnyH_ready (rs := [10]) (by kernel_rfl) (by simp) (AllReadyH.cons (o := ⟨some 15, .buildSlice 36 2 #[(0, .tmp 9), (1, .tmp 14)], 36, "heap.go:86", #[⟨4, .data⟩, ⟨9, .data⟩], none⟩) rfl (fun K hK => ?_) AllReadyH.nil)
  go_simp
  replace hS := LS
  refine Shut.out hK _ _ hS (fun _ => ?_)
  clear hK K
  try simp only [Act.put, List.setIfInBounds_toArray, List.set_cons_zero, List.set_cons_succ]
  refine wpAnyH_ready (rs := [11]) (by kernel_rfl) (by simp) (AllReadyH.cons (o := ⟨some 16, .call { callee := .value (.func 46), args := #[.tmp 15], argTypes := #[36] }, 3, "heap.go:86", #[⟨10, .data⟩, ⟨9, .chain⟩], none⟩) rfl (fun K hK => ?_) AllReadyH.nil)
  go_simp
  refine (OR.out _ _ LT.out).mono ?_; rintro e wb ⟨rfl, rfl⟩
  go_wp2_with fail
  refine Shut.out hK _ _ hS (fun _ => ?_)
  clear hK K
  try simp only [Act.put, List.setIfInBounds_toArray, List.set_cons_zero, List.set_cons_succ]
  refine wpAnyH_take (i := 12) (oi := ⟨some 4, .assign (.tmp 16), 3, "heap.go:86", #[⟨11, .data⟩, ⟨11, .chain⟩, ⟨0, .phase⟩, ⟨1, .phase⟩, ⟨2, .phase⟩, ⟨3, .phase⟩, ⟨4, .phase⟩, ⟨5, .phase⟩, ⟨6, .phase⟩, ⟨7, .phase⟩, ⟨8, .phase⟩, ⟨9, .phase⟩, ⟨10, .phase⟩, ⟨11, .phase⟩], none⟩) (v := ?_) rfl (by kernel_rfl) (by kernel_rfl) (by kernel_rfl) (fun _ _ _ h => h) (Or.inl ⟨by rfl, ?_⟩) hS ?_
  rotate_left
  · intro wv _; go_simp; try with_reducible rfl
  try simp only [Act.put, List.setIfInBounds_toArray, List.set_cons_zero, List.set_cons_succ]
  refine wpAnyH_done (by kernel_rfl) ?_ _
  refine NoPanic.normal ?_
  go_wp2
  go_ret
  exact ⟨rfl, hS.out.bel⟩
set_option maxRecDepth 100000 in
set_option maxHeartbeats 4000000 in
theorem bef12_any (a1 a2 b1 b2 : Int) (w : World) :
    Calls Try.prog 42 #[.agg #[.int .i64 a1, .int .i64 a2], .agg #[.int .i64 b1, .int .i64 b2]] w (YesT w (decide (befT (a1, a2) (b1, b2)))) := by
  have TB := Lib.hid (turn_bef a1 a2 b1 b2)
  have TU := Lib.hid (fun (W : World) => turn12_any a1 a2 b1 b2 W)
  obtain ⟨x, hx⟩ : ∃ x, orI (cmpI a1 b1) (cmpI a2 b2) = x := ⟨_, rfl⟩
  rw [hx] at TU TB
  obtain ⟨R, hR⟩ : ∃ R, decide (befT (a1, a2) (b1, b2)) = R := ⟨_, rfl⟩
  rw [hR] at TB
  rw [hR]
  have hxR := TB.out
  clear hx hR TB
  obtain ⟨v1, hv1⟩ : ∃ W, w.alloc (.cells #[.int .i64 a1, .int .i64 a2] 24) = W := ⟨_, rfl⟩
  have fr1 : Fr w v1 w.heap.size [.cells #[.int .i64 a1, .int .i64 a2] 24] := hv1 ▸ Fr.first w _
  have z1 : v1.heap.size = w.heap.size + 1 := by rw [← hv1, Fr.size1]
  obtain ⟨v2, hv2⟩ : ∃ W, v1.alloc (.cells #[.int .i64 b1, .int .i64 b2] 24) = W := ⟨_, rfl⟩
  have fr2 : Fr w v2 w.heap.size [.cells #[.int .i64 a1, .int .i64 a2] 24, .cells #[.int .i64 b1, .int .i64 b2] 24] := hv2 ▸ fr1.more z1 _
  have z2 : v2.heap.size = w.heap.size + 2 := by rw [← hv2, Fr.size1, z1]
  generalize hq : w.heap.size = q at *
  have FR := Lib.hid fr2
  clear fr1 fr2
  go_enter Try.func42, Try.ntmps42
  have c00 : v2.cell? ⟨q, 0, none⟩ = some (.int .i64 a1) := FR.out.cell 0 0 rfl rfl rfl
  have c01 : v2.cell? ⟨q, 1, none⟩ = some (.int .i64 a2) := FR.out.cell 0 1 rfl rfl rfl
  have c10 : v2.cell? ⟨q + 1, 0, none⟩ = some (.int .i64 b1) := FR.out.cell 1 0 rfl rfl rfl
  have c11 : v2.cell? ⟨q + 1, 1, none⟩ = some (.int .i64 b2) := FR.out.cell 1 1 rfl rfl rfl
  go_wp2_with fail
  refine ((TU.out _)).mono ?_
  rintro e w3 ⟨rfl, hb⟩
  clear c00 c01 c10 c11
  replace FR := Lib.hid (FR.out.step hb)
  clear hb
  go_wp2
  go_ret
  exact ⟨rfl, FR.out.out⟩
set_option maxRecDepth 100000 in
set_option maxHeartbeats 4000000 in
theorem par12_any (k : Nat) (hk : 0 < k) (hn : k ≤ 16384) (w : World) : Calls Try.prog 43 #[.int .i64 (k : Int)] w (fun e w' => e = .returned (.int .i64 (((k - 1) / 4 : Nat) : Int)) ∧ w' = w) := by
  obtain ⟨p, hp⟩ : ∃ p, (k - 1) / 4 = p := ⟨_, rfl⟩
  rw [hp]
  have hs1 : IntKind.i64.wrap ((k : Int) - 1) = (k : Int) - 1 := by rw [IntKind.wrap_i64]; omega
  have hq1 : ((k : Int) - 1).tdiv 4 = (p : Int) := by rw [Int.tdiv_eq_ediv_of_nonneg (by omega)]; omega
  have hq2 : IntKind.i64.wrap (p : Int) = (p : Int) := by rw [IntKind.wrap_i64]; omega
  have HP := Lib.hid hp
  have hq3 := Lib.hid (show ((k : Int) - 1) / 4 = (p : Int) by omega)
  clear hp
  go_enter Try.func43, Try.ntmps43
  go_wp2
  go_ret
  refine ⟨?_, rfl⟩
  first
    | rfl
    | (congr 2; first | omega | (have := HP.out; omega))
set_option maxRecDepth 100000 in
set_option maxHeartbeats 4000000 in
theorem ahead12_any (A : Option Addr) (n c i : Nat) (h : List Tm) (w : World) (hx : Tms w A n c h) (hn : n ≤ 16384) (hi : i < n) :
    Calls Try.prog 34 #[.slice A n c, .int .i64 (i : Int)] w (YesT w (decide (0 < i ∧ befT (tmAt h i) (tmAt h ((i - 1) / 4))))) := by
  have HF := Lib.hid (fun (a1 a2 b1 b2 : Int) (W : World) => bef12_any a1 a2 b1 b2 W)
  have PF := Lib.hid (fun (h0 : 0 < i) (W : World) => par12_any i h0 (by omega) W)
  obtain ⟨R, hR⟩ : ∃ R, decide (0 < i ∧ befT (tmAt h i) (tmAt h ((i - 1) / 4))) = R := ⟨_, rfl⟩
  rw [hR]
  by_cases h0 : 0 < i
  · have c0 : decide ((0 : Int) < (i : Int)) = true := by simpa using h0
    have c0n : decide (0 < i) = true := by simpa using h0
    obtain ⟨p, hp⟩ : ∃ p, (i - 1) / 4 = p := ⟨_, rfl⟩
    have hpi : p < i := by omega
    have i0 : (0 : Int) ≤ (i : Int) := by omega
    have i1 : (i : Int) < (n : Int) := by omega
    have p0 : (0 : Int) ≤ (p : Int) := by omega
    have p1 : (p : Int) < (n : Int) := by omega
    obtain ⟨b, off, rfl, hb0, k0, k1⟩ := hx.look i hi
    obtain ⟨b2, off2, he2, _, g0, g1⟩ := hx.look p (by omega)
    injection he2 with he2
    injection he2 with he2 he3
    subst he2; subst he3
    obtain ⟨⟨tw, tk⟩, hti⟩ : ∃ x, tmAt h i = x := ⟨_, rfl⟩
    obtain ⟨⟨pw, pk⟩, hpt⟩ : ∃ x, tmAt h p = x := ⟨_, rfl⟩
    rw [hp, hti, hpt, show decide (0 < i ∧ befT (tw, tk) (pw, pk)) = decide (befT (tw, tk) (pw, pk)) from decide_eq_decide.2 ⟨fun h => h.2, fun h => ⟨h0, h⟩⟩] at hR
    rw [hti] at k0 k1
    rw [hpt] at g0 g1
    simp only at k0 k1 g0 g1
    have HB0 := Lib.hid hb0
    have K0 := Lib.hid k0; have K1 := Lib.hid k1; have G0 := Lib.hid g0; have G1 := Lib.hid g1
    have BF := HF.out tw tk pw pk
    rw [hR] at BF
    replace BF := Lib.hid BF
    replace PF := Lib.hid (PF.out h0)
    rw [hp] at PF
    clear hti hpt hp hR hb0 k0 k1 g0 g1 hx
    go_enter Try.func34, Try.ntmps34
    go_upto_region 1 with fail
    refine wp_region_noPanic ?_
    refine wp_region_held_drew (S := (fun wv => Hid (Below w.heap.size w wv))) (by kernel_rfl) (Lib.hid (Below.refl _ w).drew) (fun hS => ?_)
    refine wpAnyH_take (i := 0) (oi := ⟨some 5, .move (.tmp 1), 3, "heap.go:71", #[], none⟩) (v := ?_) rfl (by kernel_rfl) (by kernel_rfl) (by kernel_rfl) (fun _ _ _ h => h) (Or.inl ⟨by rfl, ?_⟩) hS ?_
    rotate_left
    · intro wv _; go_simp; try with_reducible rfl
    try simp only [Act.put, List.setIfInBounds_toArray, List.set_cons_zero, List.set_cons_succ]
    refine wpAnyH_take (i := 1) (oi := ⟨some 6, .binOp .gtr 3 (.tmp 5) (.const (Value.int IntKind.i64 0)) 3, 4, "heap.go:71", #[⟨0, .data⟩], none⟩) (v := ?_) rfl (by kernel_rfl) (by kernel_rfl) (by kernel_rfl) (fun _ _ _ h => h) (Or.inl ⟨by rfl, ?_⟩) hS ?_
    rotate_left
    · intro wv _; go_simp; try with_reducible rfl
    try simp only [Act.put, List.setIfInBounds_toArray, List.set_cons_zero, List.set_cons_succ]
    refine wpAnyH_take (i := 2) (oi := ⟨some 7, .move (.tmp 6), 4, "heap.go:71", #[⟨1, .data⟩], none⟩) (v := ?_) rfl (by kernel_rfl) (by kernel_rfl) (by kernel_rfl) (fun _ _ _ h => h) (Or.inl ⟨by rfl, ?_⟩) hS ?_
    rotate_left
    · intro wv _; go_simp; try with_reducible rfl
    try simp only [Act.put, List.setIfInBounds_toArray, List.set_cons_zero, List.set_cons_succ]
    refine wpAnyH_take (i := 3) (oi := ⟨some 8, .move (.tmp 0), 44, "heap.go:71", #[⟨2, .guard⟩], some (2, true)⟩) (v := ?_) rfl (by kernel_rfl) (by kernel_rfl) (by kernel_rfl) (fun _ _ _ h => h) (Or.inl ⟨by rfl, ?_⟩) hS ?_
    rotate_left
    · intro wv _; go_simp; try with_reducible rfl
    try simp only [Act.put, List.setIfInBounds_toArray, List.set_cons_zero, List.set_cons_succ]
    refine wpAnyH_take (i := 4) (oi := ⟨some 9, .move (.tmp 1), 3, "heap.go:71", #[⟨2, .guard⟩], some (2, true)⟩) (v := ?_) rfl (by kernel_rfl) (by kernel_rfl) (by kernel_rfl) (fun _ _ _ h => h) (Or.inl ⟨by rfl, ?_⟩) hS ?_
    rotate_left
    · intro wv _; go_simp; try with_reducible rfl
    try simp only [Act.put, List.setIfInBounds_toArray, List.set_cons_zero, List.set_cons_succ]
    refine wpAnyH_take (i := 5) (oi := ⟨some 10, .indexAddr 44 (.tmp 8) (.tmp 9), 0, "heap.go:71", #[⟨3, .data⟩, ⟨4, .data⟩, ⟨2, .guard⟩], some (2, true)⟩) (v := ?_) rfl (by kernel_rfl) (by kernel_rfl) (by kernel_rfl) (fun _ _ _ h => h) (Or.inl ⟨by rfl, ?_⟩) hS ?_
    rotate_left
    · intro wv _; go_simp; try with_reducible rfl
    try simp only [Act.put, List.setIfInBounds_toArray, List.set_cons_zero, List.set_cons_succ]
    refine wpAnyH_take (i := 6) (oi := ⟨some 11, .load 24 (.tmp 10), 24, "heap.go:71", #[⟨5, .data⟩, ⟨2, .guard⟩], some (2, true)⟩) (v := .agg (([.int .i64 tw, .int .i64 tk] : List Value)).toArray) rfl (by kernel_rfl) (by kernel_rfl) (by kernel_rfl) (fun _ _ _ h => h) (yieldsIf_load_mid (by rfl) _ _ (by rfl) (b) (off + i * 2) (by rfl) (([.int .i64 tw, .int .i64 tk] : List Value)) _ (fun wv hS => tm_range ((hS.out.cell (p := ⟨b, off + i * 2, none⟩) HB0.out).trans K0.out) ((hS.out.cell (p := ⟨b, off + i * 2 + 1, none⟩) HB0.out).trans K1.out)) Try.underlying24 (by rfl) (by kernel_rfl)) hS ?_
    try simp only [Act.put, List.setIfInBounds_toArray, List.set_cons_zero, List.set_cons_succ]
    refine wpAnyH_take (i := 7) (oi := ⟨some 12, .move (.tmp 0), 44, "heap.go:71", #[⟨2, .guard⟩], some (2, true)⟩) (v := ?_) rfl (by kernel_rfl) (by kernel_rfl) (by kernel_rfl) (fun _ _ _ h => h) (Or.inl ⟨by rfl, ?_⟩) hS ?_
    rotate_left
    · intro wv _; go_simp; try with_reducible rfl
    try simp only [Act.put, List.setIfInBounds_toArray, List.set_cons_zero, List.set_cons_succ]
    refine wpAnyH_take (i := 8) (oi := ⟨some 13, .move (.tmp 1), 3, "heap.go:71", #[⟨2, .guard⟩], some (2, true)⟩) (v := ?_) rfl (by kernel_rfl) (by kernel_rfl) (by kernel_rfl) (fun _ _ _ h => h) (Or.inl ⟨by rfl, ?_⟩) hS ?_
    rotate_left
    · intro wv _; go_simp; try with_reducible rfl
    try simp only [Act.put, List.setIfInBounds_toArray, List.set_cons_zero, List.set_cons_succ]
    refine wpAnyH_ready (rs := [9]) (by kernel_rfl) (by simp) (AllReadyH.cons (o := ⟨some 14, .call { callee := .value (.func 43), args := #[.tmp 13], argTypes := #[3] }, 3, "heap.go:71", #[⟨8, .data⟩, ⟨2, .chain⟩, ⟨2, .guard⟩], some (2, true)⟩) rfl (fun K hK => ?_) AllReadyH.nil)
    go_simp
    refine (PF.out _).mono ?_; rintro e wa ⟨rfl, rfl⟩
    go_wp2_with fail
    refine Shut.out hK _ _ hS (fun _ => ?_)
    clear hK K
    try simp only [Act.put, List.setIfInBounds_toArray, List.set_cons_zero, List.set_cons_succ]
    refine wpAnyH_take (i := 10) (oi := ⟨some 15, .indexAddr 44 (.tmp 12) (.tmp 14), 0, "heap.go:71", #[⟨7, .data⟩, ⟨9, .data⟩, ⟨2, .guard⟩], some (2, true)⟩) (v := ?_) rfl (by kernel_rfl) (by kernel_rfl) (by kernel_rfl) (fun _ _ _ h => h) (Or.inl ⟨by rfl, ?_⟩) hS ?_
    rotate_left
    · intro wv _; go_simp; try with_reducible rfl
    try simp only [Act.put, List.setIfInBounds_toArray, List.set_cons_zero, List.set_cons_succ]
    refine wpAnyH_take (i := 11) (oi := ⟨some 16, .load 24 (.tmp 15), 24, "heap.go:71", #[⟨10, .data⟩, ⟨2, .guard⟩], some (2, true)⟩) (v := .agg (([.int .i64 pw, .int .i64 pk] : List Value)).toArray) rfl (by kernel_rfl) (by kernel_rfl) (by kernel_rfl) (fun _ _ _ h => h) (yieldsIf_load_mid (by rfl) _ _ (by rfl) (b) (off + p * 2) (by rfl) (([.int .i64 pw, .int .i64 pk] : List Value)) _ (fun wv hS => tm_range ((hS.out.cell (p := ⟨b, off + p * 2, none⟩) HB0.out).trans G0.out) ((hS.out.cell (p := ⟨b, off + p * 2 + 1, none⟩) HB0.out).trans G1.out)) Try.underlying24 (by rfl) (by kernel_rfl)) hS ?_
    try simp only [Act.put, List.setIfInBounds_toArray, List.set_cons_zero, List.set_cons_succ]
    refine wpAnyH_ready (rs := [12]) (by kernel_rfl) (by simp) (AllReadyH.cons (o := ⟨some 17, .call { callee := .value (.func 42), args := #[.tmp 11, .tmp 16], argTypes := #[24, 24] }, 4, "heap.go:71", #[⟨6, .data⟩, ⟨11, .data⟩, ⟨9, .chain⟩, ⟨2, .guard⟩], some (2, true)⟩) rfl (fun K hK => ?_) AllReadyH.nil)
    go_simp
    refine (BF.out _).mono ?_; rintro e wa ⟨rfl, hbb⟩
    replace hS := Lib.hid (hS.out.trans (hbb.mono hS.out.size))
    clear hbb
    go_wp2_with fail
    refine Shut.out hK _ _ hS (fun _ => ?_)
    clear hK K
    try simp only [Act.put, List.setIfInBounds_toArray, List.set_cons_zero, List.set_cons_succ]
    refine wpAnyH_take (i := 13) (oi := ⟨some 18, .pick (.tmp 7) (.tmp 17) (.const (Value.bool false)), 4, "heap.go:71", #[⟨2, .data⟩, ⟨12, .data⟩], none⟩) (v := ?_) rfl (by kernel_rfl) (by kernel_rfl) (by kernel_rfl) (fun _ _ _ h => h) (Or.inl ⟨by rfl, ?_⟩) hS ?_
    rotate_left
    · intro wv _; go_simp; try with_reducible rfl
    try simp only [Act.put, List.setIfInBounds_toArray, List.set_cons_zero, List.set_cons_succ]
    refine wpAnyH_take (i := 14) (oi := ⟨some 4, .assign (.tmp 18), 4, "heap.go:71", #[⟨13, .data⟩, ⟨12, .chain⟩, ⟨0, .phase⟩, ⟨1, .phase⟩, ⟨2, .phase⟩, ⟨3, .phase⟩, ⟨4, .phase⟩, ⟨5, .phase⟩, ⟨6, .phase⟩, ⟨7, .phase⟩, ⟨8, .phase⟩, ⟨9, .phase⟩, ⟨10, .phase⟩, ⟨11, .phase⟩, ⟨12, .phase⟩, ⟨13, .phase⟩], none⟩) (v := ?_) rfl (by kernel_rfl) (by kernel_rfl) (by kernel_rfl) (fun _ _ _ h => h) (Or.inl ⟨by rfl, ?_⟩) hS ?_
    rotate_left
    · intro wv _; go_simp; try with_reducible rfl
    try simp only [Act.put, List.setIfInBounds_toArray, List.set_cons_zero, List.set_cons_succ]
    refine wpAnyH_done (by kernel_rfl) ?_ _
    refine NoPanic.normal ?_
    go_wp2
    go_ret
    exact ⟨rfl, hS.out⟩
  · have c0 : decide ((0 : Int) < (i : Int)) = false := by simpa using h0
    have c0n : decide (0 < i) = false := by simpa using h0
    have HE := Lib.hid (show R = false from by rw [← hR]; exact decide_eq_false (fun h9 => h0 h9.1))
    clear hR hx h0
    go_enter Try.func34, Try.ntmps34
    go_upto_region 1 with fail
    refine wp_region_noPanic ?_
    refine wp_region_held_drew (S := (fun wv => Hid (Below w.heap.size w wv))) (by kernel_rfl) (Lib.hid (Below.refl _ w).drew) (fun hS => ?_)
    refine wpAnyH_take (i := 0) (oi := ⟨some 5, .move (.tmp 1), 3, "heap.go:71", #[], none⟩) (v := ?_) rfl (by kernel_rfl) (by kernel_rfl) (by kernel_rfl) (fun _ _ _ h => h) (Or.inl ⟨by rfl, ?_⟩) hS ?_
    rotate_left
    · intro wv _; go_simp; try with_reducible rfl
    try simp only [Act.put, List.setIfInBounds_toArray, List.set_cons_zero, List.set_cons_succ]
    refine wpAnyH_take (i := 1) (oi := ⟨some 6, .binOp .gtr 3 (.tmp 5) (.const (Value.int IntKind.i64 0)) 3, 4, "heap.go:71", #[⟨0, .data⟩], none⟩) (v := ?_) rfl (by kernel_rfl) (by kernel_rfl) (by kernel_rfl) (fun _ _ _ h => h) (Or.inl ⟨by rfl, ?_⟩) hS ?_
    rotate_left
    · intro wv _; go_simp; try with_reducible rfl
    try simp only [Act.put, List.setIfInBounds_toArray, List.set_cons_zero, List.set_cons_succ]
    refine wpAnyH_take (i := 2) (oi := ⟨some 7, .move (.tmp 6), 4, "heap.go:71", #[⟨1, .data⟩], none⟩) (v := ?_) rfl (by kernel_rfl) (by kernel_rfl) (by kernel_rfl) (fun _ _ _ h => h) (Or.inl ⟨by rfl, ?_⟩) hS ?_
    rotate_left
    · intro wv _; go_simp; try with_reducible rfl
    try simp only [Act.put, List.setIfInBounds_toArray, List.set_cons_zero, List.set_cons_succ]
    refine wpAnyH_take (i := 3) (oi := ⟨some 8, .move (.tmp 0), 44, "heap.go:71", #[⟨2, .guard⟩], some (2, true)⟩) (v := undef) rfl (by kernel_rfl) (by kernel_rfl) (by kernel_rfl) (fun _ _ _ h => h) (Or.inr ⟨by rfl, rfl⟩) hS ?_
    try simp only [Act.put, List.setIfInBounds_toArray, List.set_cons_zero, List.set_cons_succ]
    refine wpAnyH_take (i := 4) (oi := ⟨some 9, .move (.tmp 1), 3, "heap.go:71", #[⟨2, .guard⟩], some (2, true)⟩) (v := undef) rfl (by kernel_rfl) (by kernel_rfl) (by kernel_rfl) (fun _ _ _ h => h) (Or.inr ⟨by rfl, rfl⟩) hS ?_
    try simp only [Act.put, List.setIfInBounds_toArray, List.set_cons_zero, List.set_cons_succ]
    refine wpAnyH_take (i := 5) (oi := ⟨some 10, .indexAddr 44 (.tmp 8) (.tmp 9), 0, "heap.go:71", #[⟨3, .data⟩, ⟨4, .data⟩, ⟨2, .guard⟩], some (2, true)⟩) (v := undef) rfl (by kernel_rfl) (by kernel_rfl) (by kernel_rfl) (fun _ _ _ h => h) (Or.inr ⟨by rfl, rfl⟩) hS ?_
    try simp only [Act.put, List.setIfInBounds_toArray, List.set_cons_zero, List.set_cons_succ]
    refine wpAnyH_take (i := 6) (oi := ⟨some 11, .load 24 (.tmp 10), 24, "heap.go:71", #[⟨5, .data⟩, ⟨2, .guard⟩], some (2, true)⟩) (v := undef) rfl (by kernel_rfl) (by kernel_rfl) (by kernel_rfl) (fun _ _ _ h => h) (Or.inr ⟨by rfl, rfl⟩) hS ?_
    try simp only [Act.put, List.setIfInBounds_toArray, List.set_cons_zero, List.set_cons_succ]
    refine wpAnyH_take (i := 7) (oi := ⟨some 12, .move (.tmp 0), 44, "heap.go:71", #[⟨2, .guard⟩], some (2, true)⟩) (v := undef) rfl (by kernel_rfl) (by kernel_rfl) (by kernel_rfl) (fun _ _ _ h => h) (Or.inr ⟨by rfl, rfl⟩) hS ?_
    try simp only [Act.put, List.setIfInBounds_toArray, List.set_cons_zero, List.set_cons_succ]
    refine wpAnyH_take (i := 8) (oi := ⟨some 13, .move (.tmp 1), 3, "heap.go:71", #[⟨2, .guard⟩], some (2, true)⟩) (v := undef) rfl (by kernel_rfl) (by kernel_rfl) (by kernel_rfl) (fun _ _ _ h => h) (Or.inr ⟨by rfl, rfl⟩) hS ?_
    try simp only [Act.put, List.setIfInBounds_toArray, List.set_cons_zero, List.set_cons_succ]
    refine wpAnyH_take (i := 9) (oi := ⟨some 14, .call { callee := .value (.func 43), args := #[.tmp 13], argTypes := #[3] }, 3, "heap.go:71", #[⟨8, .data⟩, ⟨2, .chain⟩, ⟨2, .guard⟩], some (2, true)⟩) (v := undef) rfl (by kernel_rfl) (by kernel_rfl) (by kernel_rfl) (fun _ _ _ h => h) (Or.inr ⟨by rfl, rfl⟩) hS ?_
    try simp only [Act.put, List.setIfInBounds_toArray, List.set_cons_zero, List.set_cons_succ]
    refine wpAnyH_take (i := 10) (oi := ⟨some 15, .indexAddr 44 (.tmp 12) (.tmp 14), 0, "heap.go:71", #[⟨7, .data⟩, ⟨9, .data⟩, ⟨2, .guard⟩], some (2, true)⟩) (v := undef) rfl (by kernel_rfl) (by kernel_rfl) (by kernel_rfl) (fun _ _ _ h => h) (Or.inr ⟨by rfl, rfl⟩) hS ?_
    try simp only [Act.put, List.setIfInBounds_toArray, List.set_cons_zero, List.set_cons_succ]
    refine wpAnyH_take (i := 11) (oi := ⟨some 16, .load 24 (.tmp 15), 24, "heap.go:71", #[⟨10, .data⟩, ⟨2, .guard⟩], some (2, true)⟩) (v := undef) rfl (by kernel_rfl) (by kernel_rfl) (by kernel_rfl) (fun _ _ _ h => h) (Or.inr ⟨by rfl, rfl⟩) hS ?_
    try simp only [Act.put, List.setIfInBounds_toArray, List.set_cons_zero, List.set_cons_succ]
    refine wpAnyH_take (i := 12) (oi := ⟨some 17, .call { callee := .value (.func 42), args := #[.tmp 11, .tmp 16], argTypes := #[24, 24] }, 4, "heap.go:71", #[⟨6, .data⟩, ⟨11, .data⟩, ⟨9, .chain⟩, ⟨2, .guard⟩], some (2, true)⟩) (v := undef) rfl (by kernel_rfl) (by kernel_rfl) (by kernel_rfl) (fun _ _ _ h => h) (Or.inr ⟨by rfl, rfl⟩) hS ?_
    try simp only [Act.put, List.setIfInBounds_toArray, List.set_cons_zero, List.set_cons_succ]
    refine wpAnyH_take (i := 13) (oi := ⟨some 18, .pick (.tmp 7) (.tmp 17) (.const (Value.bool false)), 4, "heap.go:71", #[⟨2, .data⟩, ⟨12, .data⟩], none⟩) (v := ?_) rfl (by kernel_rfl) (by kernel_rfl) (by kernel_rfl) (fun _ _ _ h => h) (Or.inl ⟨by rfl, ?_⟩) hS ?_
    rotate_left
    · intro wv _; go_simp; try with_reducible rfl
    try simp only [Act.put, List.setIfInBounds_toArray, List.set_cons_zero, List.set_cons_succ]
    refine wpAnyH_take (i := 14) (oi := ⟨some 4, .assign (.tmp 18), 4, "heap.go:71", #[⟨13, .data⟩, ⟨12, .chain⟩, ⟨0, .phase⟩, ⟨1, .phase⟩, ⟨2, .phase⟩, ⟨3, .phase⟩, ⟨4, .phase⟩, ⟨5, .phase⟩, ⟨6, .phase⟩, ⟨7, .phase⟩, ⟨8, .phase⟩, ⟨9, .phase⟩, ⟨10, .phase⟩, ⟨11, .phase⟩, ⟨12, .phase⟩, ⟨13, .phase⟩], none⟩) (v := ?_) rfl (by kernel_rfl) (by kernel_rfl) (by kernel_rfl) (fun _ _ _ h => h) (Or.inl ⟨by rfl, ?_⟩) hS ?_
    rotate_left
    · intro wv _; go_simp; try with_reducible rfl
    try simp only [Act.put, List.setIfInBounds_toArray, List.set_cons_zero, List.set_cons_succ]
    refine wpAnyH_done (by kernel_rfl) ?_ _
    refine NoPanic.normal ?_
    go_wp2
    go_ret
    rw [HE.out]
    exact ⟨rfl, hS.out⟩
set_option maxRecDepth 100000 in
set_option maxHeartbeats 4000000 in
theorem may12_any (a1 a2 : Int) (w : World) :
    Calls Try.prog 26 #[.agg #[.int .i64 a1, .int .i64 a2]] w (YesT w (decide (0 ≤ a1 ∧ 0 ≤ a2))) := by
  obtain ⟨R, hR⟩ : ∃ R, decide (0 ≤ a1 ∧ 0 ≤ a2) = R := ⟨_, rfl⟩
  rw [hR]
  obtain ⟨v1, hv1⟩ : ∃ W, w.alloc (.cells #[.int .i64 a1, .int .i64 a2] 24) = W := ⟨_, rfl⟩
  have fr1 : Fr w v1 w.heap.size [.cells #[.int .i64 a1, .int .i64 a2] 24] := hv1 ▸ Fr.first w _
  have z1 : v1.heap.size = w.heap.size + 1 := by rw [← hv1, Fr.size1]
  generalize hq : w.heap.size = q at *
  have FR := Lib.hid fr1
  clear fr1
  by_cases h1 : 0 ≤ a1
  · have k1 : decide (0 ≤ a1) = true := by simpa using h1
    by_cases h2 : 0 ≤ a2
    · have k2 : decide (0 ≤ a2) = true := by simpa using h2
      have HE := Lib.hid (show R = true from by rw [← hR]; exact decide_eq_true ⟨h1, h2⟩)
      clear h1 h2 hR
      have c00 : v1.cell? ⟨q, 0, none⟩ = some (.int .i64 a1) := FR.out.cell 0 0 rfl rfl rfl
      have c01 : v1.cell? ⟨q, 1, none⟩ = some (.int .i64 a2) := FR.out.cell 0 1 rfl rfl rfl
      go_enter Try.func26, Try.ntmps26
      go_wp2
      go_ret
      rw [HE.out]
      exact ⟨rfl, FR.out.out⟩
    · have k2 : decide (0 ≤ a2) = false := by simpa using h2
      have HE := Lib.hid (show R = false from by rw [← hR]; exact decide_eq_false (fun h => h2 h.2))
      clear h1 h2 hR
      have c00 : v1.cell? ⟨q, 0, none⟩ = some (.int .i64 a1) := FR.out.cell 0 0 rfl rfl rfl
      have c01 : v1.cell? ⟨q, 1, none⟩ = some (.int .i64 a2) := FR.out.cell 0 1 rfl rfl rfl
      go_enter Try.func26, Try.ntmps26
      go_wp2
      go_ret
      rw [HE.out]
      exact ⟨rfl, FR.out.out⟩
  · have k1 : decide (0 ≤ a1) = false := by simpa using h1
    have HE := Lib.hid (show R = false from by rw [← hR]; exact decide_eq_false (fun h => h1 h.1))
    clear h1 hR
    have c00 : v1.cell? ⟨q, 0, none⟩ = some (.int .i64 a1) := FR.out.cell 0 0 rfl rfl rfl
    have c01 : v1.cell? ⟨q, 1, none⟩ = some (.int .i64 a2) := FR.out.cell 0 1 rfl rfl rfl
    go_enter Try.func26, Try.ntmps26
    go_wp2
    go_ret
    rw [HE.out]
    exact ⟨rfl, FR.out.out⟩
end Go.Proofs.Ytehpfpphpffniaa
