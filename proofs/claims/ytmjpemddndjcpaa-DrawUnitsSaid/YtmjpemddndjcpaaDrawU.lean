/- The walks of DrawBelow and DrawUnits: they answer true, over any world; no condition. -/
import Derived.Test.YtmjpemddndjcpaaDrawT
namespace Go.Proofs.Ytmjpemddndjcpaa
set_option linter.unusedVariables false
set_option linter.unusedSimpArgs false
open Go.RowKit

set_option maxRecDepth 100000 in
set_option maxHeartbeats 4000000 in
theorem below6_walk (x y n : Int) (w : World) (x0 : (Lit.int .u64 x).wf = true) (y0 : (Lit.int .u64 y).wf = true) (n0 : (Lit.int .i64 n).wf = true) :
    Calls Try.prog 6 #[.int .u64 x, .int .u64 y, .int .i64 n] w fun e w' => e = .returned (.bool true) ∧ Below w.heap.size w w' := by
  obtain ⟨X, rfl, hx⟩ := nat_u64' x0
  obtain ⟨Y, rfl, hy⟩ := nat_u64' y0
  have hn := bounds_i64 n0
  by_cases h1 : n < 1
  · have b1 : decide (n < 1) = true := by simpa using h1
    have B1 := fun w => drawBelow_any X n w hx (by omega)
    rw [show belowI X n = 0 by unfold belowI; rw [if_pos h1]] at B1
    replace B1 := Lib.hid B1
    clear h1 hx hy hn x0 y0 n0
    have HB := Lib.hid (Below.refl w.heap.size w)
    go_enter Try.func6, Try.ntmps6
    go_wp2_with fail
    refine (alive6 _).mono ?_
    rintro e w1 ⟨rfl, hb⟩
    replace HB := Lib.hid (HB.out.trans (hb.mono HB.out.size))
    clear hb
    go_wp2_with fail
    refine (B1.out _).mono ?_
    rintro e w2 ⟨rfl, hb⟩
    replace HB := Lib.hid (HB.out.trans (hb.mono HB.out.size))
    clear hb
    go_wp2
    go_ret
    exact ⟨rfl, HB.out⟩
  · have b1 : decide (n < 1) = false := by simpa using h1
    obtain ⟨k, rfl⟩ : ∃ k : Nat, n = k := ⟨n.toNat, by omega⟩
    have hb : ∀ z, belowI z (k : Int) = belowN z k := fun z => by unfold belowI; rw [if_neg h1, Int.toNat_natCast]
    have B := fun (z : Nat) (hz : z < M64) w => drawBelow_any z (k : Int) w hz (by omega)
    simp only [hb] at B
    have l1 : belowN X k < k := below_lt hx (by omega)
    have bt : belowN 18446744073709551615 k = k - 1 := below_top (by omega) (by unfold M64; omega)
    have bz := below_zero k
    have lm : belowN (min X Y) k ≤ belowN (max X Y) k := below_mono k (by omega)
    have g1 : ∀ m : Int, m = ((min X Y : Nat) : Int) → ∀ w, Calls Try.prog 15 #[.int .u64 m, .int .i64 (k : Int)] w fun e w' => e = .returned (.int .i64 (belowN (min X Y) k : Nat)) ∧ Below w.heap.size w w' := fun m hm w => by
      subst hm; exact B _ (by unfold M64 at *; omega) w
    have g2 : ∀ m : Int, m = ((max X Y : Nat) : Int) → ∀ w, Calls Try.prog 15 #[.int .u64 m, .int .i64 (k : Int)] w fun e w' => e = .returned (.int .i64 (belowN (max X Y) k : Nat)) ∧ Below w.heap.size w w' := fun m hm w => by
      subst hm; exact B _ (by unfold M64 at *; omega) w
    have g3 : ∀ w, Calls Try.prog 15 #[.int .u64 0, .int .i64 (k : Int)] w fun e w' => e = .returned (.int .i64 0) ∧ Below w.heap.size w w' := fun w => by
      have := B 0 (by decide) w; rwa [bz] at this
    have g4 : ∀ w, Calls Try.prog 15 #[.int .u64 18446744073709551615, .int .i64 (k : Int)] w fun e w' => e = .returned (.int .i64 ((k : Int) - 1)) ∧ Below w.heap.size w w' := fun w => by
      have := B 18446744073709551615 (by decide) w; rw [bt] at this; rwa [show ((k - 1 : Nat) : Int) = (k : Int) - 1 by omega] at this
    have g0 := fun w => B X hx w
    generalize belowN (min X Y) k = p at *
    generalize belowN (max X Y) k = q at *
    generalize belowN X k = z at *
    have c1 : decide ((0 : Int) ≤ (z : Int)) = true := by simp
    have c2 : decide (z < k) = true := by simp; omega
    have c3 : decide (p ≤ q) = true := by simp; omega
    replace g0 := Lib.hid g0; replace g1 := Lib.hid g1; replace g2 := Lib.hid g2; replace g3 := Lib.hid g3; replace g4 := Lib.hid g4
    clear h1 B hb bt bz lm hx hy x0 y0 n0 l1
    have HB := Lib.hid (Below.refl w.heap.size w)
    go_enter Try.func6, Try.ntmps6
    go_wp2_with fail
    refine (alive6 _).mono ?_
    rintro e w1 ⟨rfl, hb⟩
    replace HB := Lib.hid (HB.out.trans (hb.mono HB.out.size))
    clear hb
    go_wp2_with fail
    refine (g0.out _).mono ?_
    rintro e w2 ⟨rfl, hb⟩
    replace HB := Lib.hid (HB.out.trans (hb.mono HB.out.size))
    clear hb
    go_wp2_with fail
    all_goals
      refine (g1.out _ (by omega) _).mono ?_
      rintro e w3 ⟨rfl, hb⟩
      have HB3 := Lib.hid (HB.out.trans (hb.mono HB.out.size))
      clear hb
      go_wp2_with fail
      all_goals
        refine (g2.out _ (by omega) _).mono ?_
        rintro e w4 ⟨rfl, hb⟩
        have HB4 := Lib.hid (HB3.out.trans (hb.mono HB3.out.size))
        clear hb
        go_wp2_with fail
        refine (g3.out _).mono ?_
        rintro e w5 ⟨rfl, hb⟩
        have HB5 := Lib.hid (HB4.out.trans (hb.mono HB4.out.size))
        clear hb
        go_wp2_with fail
        refine (g4.out _).mono ?_
        rintro e w6 ⟨rfl, hb⟩
        have HB6 := Lib.hid (HB5.out.trans (hb.mono HB5.out.size))
        clear hb
        go_wp2
        go_ret
        exact ⟨rfl, HB6.out⟩
theorem unit_less {a b : Nat} (ha : a < 9223372036854775808) (hb : b < 9223372036854775808) (h : a ≤ 9218868437227405312) (h2 : b ≤ 9218868437227405312) : lessN a b = decide (a < b) := by
  have ra : rung a = a := by unfold rung; omega
  have rb : rung b = b := by unfold rung; omega
  have sa : sgn a = false := by rw [sgn_iff (by omega)]; exact decide_eq_false (by omega)
  have sb : sgn b = false := by rw [sgn_iff (by omega)]; exact decide_eq_false (by omega)
  have hl := less_val (x := a) (y := b) (by omega) (by omega)
  rw [val_pos sa, val_pos sb, ra, rb] at hl
  have hm := @mag_lt_iff a b
  by_cases hlt : a < b
  · rw [decide_eq_true hlt]; exact hl.2 ⟨h, h2, by have := hm.2 hlt; omega⟩
  · rw [decide_eq_false hlt]
    cases hx : lessN a b with
    | false => rfl
    | true => exact absurd (hm.1 (by have := (hl.1 hx).2.2; omega)) hlt
/-- what comes by chance has a chance. -/
theorem chance_pos {u p : Nat} (hu : u < 4607182418800017408) (hp : p < M64) (h : lessN u p = true) : lessN 0 p = true := by
  have h1 := (less_val (x := u) (y := p) (by omega) hp).1 h
  have su : sgn u = false := by rw [sgn_iff (by omega)]; exact decide_eq_false (by omega)
  refine (less_val (x := 0) (y := p) (by decide) hp).2 ⟨by decide, h1.2.1, ?_⟩
  have h3 := h1.2.2
  rw [val_pos su] at h3
  rw [show val 0 = 0 by decide]
  omega
theorem chance_none {u p : Nat} (hp : p < M64) (h4 : clsN p = 4) : lessN u p = false := by
  unfold lessN
  rw [decide_eq_false]
  intro h; exact h.2.1 h4
set_option maxRecDepth 100000 in
set_option maxHeartbeats 8000000 in
theorem units6_walk (x y p : Int) (w : World) (x0 : (Lit.int .u64 x).wf = true) (y0 : (Lit.int .u64 y).wf = true) (p0 : (Lit.int .u64 p).wf = true) :
    Calls Try.prog 7 #[.int .u64 x, .int .u64 y, .int .u64 p] w fun e w' => e = .returned (.bool true) ∧ Below w.heap.size w w' := by
  obtain ⟨X, rfl, hx⟩ := nat_u64' x0
  obtain ⟨Y, rfl, hy⟩ := nat_u64' y0
  obtain ⟨Z, rfl, hz⟩ := nat_u64' p0
  have hmin : min X Y < M64 := by unfold M64 at *; omega
  have hmax : max X Y < M64 := by unfold M64 at *; omega
  have ux := unit_bounds hx
  have umin := unit_bounds hmin
  have umax := unit_bounds hmax
  have um := unit_mono (show min X Y ≤ max X Y by omega)
  have U := fun w => drawUnit_any X w hx
  have U1 : ∀ m : Int, m = ((max X Y : Nat) : Int) → ∀ w, Calls Try.prog 17 #[.int .u64 m] w fun e w' => e = .returned (.int .u64 (unitN (max X Y) : Nat)) ∧ Below w.heap.size w w' := fun m hm w => by
    subst hm; exact drawUnit_any _ w hmax
  have U2 : ∀ m : Int, m = ((min X Y : Nat) : Int) → ∀ w, Calls Try.prog 17 #[.int .u64 m] w fun e w' => e = .returned (.int .u64 (unitN (min X Y) : Nat)) ∧ Below w.heap.size w w' := fun m hm w => by
    subst hm; exact drawUnit_any _ w hmin
  have CH := fun w => drawChance_any X Z w hx hz
  have C1 := fun w => (drawChance_any X 4607182418800017408 w hx (by decide)).mono (post_eq6 (b := .bool true) (by rw [unit_less (by omega) (by decide) (by omega) (by decide), decide_eq_true ux]))
  have C0 := fun w => (drawChance_any X 0 w hx (by decide)).mono (post_eq6 (b := .bool false) (by rw [unit_less (by omega) (by decide) (by omega) (by decide)]; rfl))
  have L0 := fun w => (realLess_any (unitN X) 0 w (by omega) (by decide)).mono (post_eq6 (b := .bool false) (by rw [unit_less (by omega) (by decide) (by omega) (by decide)]; rfl))
  have L1 := fun w => (realLess_any (unitN X) 4607182418800017408 w (by omega) (by decide)).mono (post_eq6 (b := .bool true) (by rw [unit_less (by omega) (by decide) (by omega) (by decide), decide_eq_true ux]))
  have L2 := fun w => (realLess_any (unitN (max X Y)) (unitN (min X Y)) w (by omega) (by omega)).mono (post_eq6 (b := .bool false) (by rw [unit_less (by omega) (by omega) (by omega) (by omega), decide_eq_false (by omega)]))
  have L3 := fun (h : lessN (unitN X) Z = true) w => (realLess_any 0 Z w (by decide) hz).mono (post_eq6 (b := .bool true) (by rw [chance_pos ux hz h]))
  have CZ := fun w => realClass_any Z w hz
  have hcn : lessN (unitN X) Z = true → clsN Z ≠ 4 := fun h h4 => by rw [chance_none hz h4] at h; cases h
  obtain ⟨c, hc⟩ : ∃ c : Int, (clsN Z : Int) = c := ⟨_, rfl⟩
  have hc4 : lessN (unitN X) Z = true → (c != 4) = true := fun h => by
    have := hcn h; simp; omega
  rw [hc] at CZ
  obtain ⟨ch, hch⟩ : ∃ ch, lessN (unitN X) Z = ch := ⟨_, rfl⟩
  rw [hch] at CH L3 hc4
  clear hcn hc hch
  have hux := ux
  generalize unitN (max X Y) = p1 at *
  generalize unitN (min X Y) = p2 at *
  generalize unitN X = u at *
  replace U := Lib.hid U; replace U1 := Lib.hid U1; replace U2 := Lib.hid U2; replace CH := Lib.hid CH; replace C1 := Lib.hid C1; replace C0 := Lib.hid C0
  replace L0 := Lib.hid L0; replace L1 := Lib.hid L1; replace L2 := Lib.hid L2; replace L3 := Lib.hid L3; replace CZ := Lib.hid CZ; replace hc4 := Lib.hid hc4
  clear hmin hmax umin umax um ux hux x0 y0 p0
  have HB := Lib.hid (Below.refl w.heap.size w)
  cases ch with
  | true =>
    have c4 := hc4.out rfl
    replace L3 := Lib.hid (L3.out rfl)
    clear hc4
    go_enter Try.func7, Try.ntmps7
    go_wp2_with fail
    refine (alive6 _).mono ?_
    rintro e w1 ⟨rfl, hb⟩
    replace HB := Lib.hid (HB.out.trans (hb.mono HB.out.size))
    clear hb
    go_wp2_with fail
    refine (U.out _).mono ?_
    rintro e w2 ⟨rfl, hb⟩
    replace HB := Lib.hid (HB.out.trans (hb.mono HB.out.size))
    clear hb
    go_wp2_with fail
    refine (CH.out _).mono ?_
    rintro e w3 ⟨rfl, hb⟩
    replace HB := Lib.hid (HB.out.trans (hb.mono HB.out.size))
    clear hb
    go_wp2_with fail
    refine (L0.out _).mono ?_
    rintro e w4 ⟨rfl, hb⟩
    replace HB := Lib.hid (HB.out.trans (hb.mono HB.out.size))
    clear hb
    go_wp2_with fail
    refine (L1.out _).mono ?_
    rintro e w5 ⟨rfl, hb⟩
    replace HB := Lib.hid (HB.out.trans (hb.mono HB.out.size))
    clear hb
    go_wp2_with fail
    all_goals
      refine (U1.out _ (by omega) _).mono ?_
      rintro e w6 ⟨rfl, hb⟩
      have HB6 := Lib.hid (HB.out.trans (hb.mono HB.out.size))
      clear hb
      go_wp2_with fail
      all_goals
        refine (U2.out _ (by omega) _).mono ?_
        rintro e w7 ⟨rfl, hb⟩
        have HB7 := Lib.hid (HB6.out.trans (hb.mono HB6.out.size))
        clear hb
        go_wp2_with fail
        refine (L2.out _).mono ?_
        rintro e w8 ⟨rfl, hb⟩
        have HB8 := Lib.hid (HB7.out.trans (hb.mono HB7.out.size))
        clear hb
        go_wp2_with fail
        refine (C1.out _).mono ?_
        rintro e w9 ⟨rfl, hb⟩
        have HB9 := Lib.hid (HB8.out.trans (hb.mono HB8.out.size))
        clear hb
        go_wp2_with fail
        refine (C0.out _).mono ?_
        rintro e w10 ⟨rfl, hb⟩
        have HB10 := Lib.hid (HB9.out.trans (hb.mono HB9.out.size))
        clear hb
        go_wp2_with fail
        refine (L3.out _).mono ?_
        rintro e w11 ⟨rfl, hb⟩
        have HB11 := Lib.hid (HB10.out.trans (hb.mono HB10.out.size))
        clear hb
        go_wp2_with fail
        refine (CZ.out _).mono ?_
        rintro e w12 ⟨rfl, hb⟩
        have HB12 := Lib.hid (HB11.out.trans (hb.mono HB11.out.size))
        clear hb
        go_wp2
        go_ret
        exact ⟨rfl, HB12.out⟩
  | false =>
    clear hc4 L3
    go_enter Try.func7, Try.ntmps7
    go_wp2_with fail
    refine (alive6 _).mono ?_
    rintro e w1 ⟨rfl, hb⟩
    replace HB := Lib.hid (HB.out.trans (hb.mono HB.out.size))
    clear hb
    go_wp2_with fail
    refine (U.out _).mono ?_
    rintro e w2 ⟨rfl, hb⟩
    replace HB := Lib.hid (HB.out.trans (hb.mono HB.out.size))
    clear hb
    go_wp2_with fail
    refine (CH.out _).mono ?_
    rintro e w3 ⟨rfl, hb⟩
    replace HB := Lib.hid (HB.out.trans (hb.mono HB.out.size))
    clear hb
    go_wp2_with fail
    refine (L0.out _).mono ?_
    rintro e w4 ⟨rfl, hb⟩
    replace HB := Lib.hid (HB.out.trans (hb.mono HB.out.size))
    clear hb
    go_wp2_with fail
    refine (L1.out _).mono ?_
    rintro e w5 ⟨rfl, hb⟩
    replace HB := Lib.hid (HB.out.trans (hb.mono HB.out.size))
    clear hb
    go_wp2_with fail
    all_goals
      refine (U1.out _ (by omega) _).mono ?_
      rintro e w6 ⟨rfl, hb⟩
      have HB6 := Lib.hid (HB.out.trans (hb.mono HB.out.size))
      clear hb
      go_wp2_with fail
      all_goals
        refine (U2.out _ (by omega) _).mono ?_
        rintro e w7 ⟨rfl, hb⟩
        have HB7 := Lib.hid (HB6.out.trans (hb.mono HB6.out.size))
        clear hb
        go_wp2_with fail
        refine (L2.out _).mono ?_
        rintro e w8 ⟨rfl, hb⟩
        have HB8 := Lib.hid (HB7.out.trans (hb.mono HB7.out.size))
        clear hb
        go_wp2_with fail
        refine (C1.out _).mono ?_
        rintro e w9 ⟨rfl, hb⟩
        have HB9 := Lib.hid (HB8.out.trans (hb.mono HB8.out.size))
        clear hb
        go_wp2_with fail
        refine (C0.out _).mono ?_
        rintro e w10 ⟨rfl, hb⟩
        have HB10 := Lib.hid (HB9.out.trans (hb.mono HB9.out.size))
        clear hb
        go_wp2_with fail
        refine (CZ.out _).mono ?_
        rintro e w11 ⟨rfl, hb⟩
        have HB11 := Lib.hid (HB10.out.trans (hb.mono HB10.out.size))
        clear hb
        cases c4 : (c != 4)
        all_goals
          go_wp2
          go_ret
          exact ⟨rfl, HB11.out⟩
end Go.Proofs.Ytmjpemddndjcpaa
