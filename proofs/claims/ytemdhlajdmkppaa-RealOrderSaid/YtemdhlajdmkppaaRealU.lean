/- The walk of RealOrder: it answers true, over any world; no condition. -/
import Derived.Test.YtemdhlajdmkppaaRealT
namespace Go.Proofs.Ytemdhlajdmkppaa
set_option linter.unusedVariables false
set_option linter.unusedSimpArgs false
open Go.RowKit
open Ieee

set_option maxRecDepth 100000 in
set_option maxHeartbeats 4000000 in
theorem order5_walk (x y : Int) (w : World) (x0 : (Lit.int .u64 x).wf = true) (y0 : (Lit.int .u64 y).wf = true) :
    Calls Try.prog 6 #[.int .u64 x, .int .u64 y] w fun e w' => e = .returned (.bool true) ∧ Below w.heap.size w w' := by
  obtain ⟨X, hX, hx⟩ := nat_u64 x0
  obtain ⟨Y, hY, hy⟩ := nat_u64 y0
  obtain ⟨kx, hkx⟩ : ∃ k : Int, ((keyN X : Nat) : Int) = k := ⟨_, rfl⟩
  obtain ⟨ky, hky⟩ : ∃ k : Int, ((keyN Y : Nat) : Int) = k := ⟨_, rfl⟩
  obtain ⟨ux, hux⟩ : ∃ k : Int, ((unkeyN X : Nat) : Int) = k := ⟨_, rfl⟩
  obtain ⟨cx, hcx⟩ : ∃ k : Int, ((clsN X : Nat) : Int) = k := ⟨_, rfl⟩
  obtain ⟨cy, hcy⟩ : ∃ k : Int, ((clsN Y : Nat) : Int) = k := ⟨_, rfl⟩
  obtain ⟨lo, hlo⟩ : ∃ k : Int, ((leastN X Y : Nat) : Int) = k := ⟨_, rfl⟩
  obtain ⟨hi, hhi⟩ : ∃ k : Int, ((mostN X Y : Nat) : Int) = k := ⟨_, rfl⟩
  have Kx : ∀ w, Calls Try.prog 15 #[.int .u64 x] w fun e w' => e = .returned (.int .u64 kx) ∧ Below w.heap.size w w' := fun w => by
    rw [hX, ← hkx]; exact realKey_any X w hx
  have Ky : ∀ w, Calls Try.prog 15 #[.int .u64 y] w fun e w' => e = .returned (.int .u64 ky) ∧ Below w.heap.size w w' := fun w => by
    rw [hY, ← hky]; exact realKey_any Y w hy
  have UK : ∀ w, Calls Try.prog 17 #[.int .u64 kx] w fun e w' => e = .returned (.int .u64 x) ∧ Below w.heap.size w w' := fun w => by
    rw [hX, ← hkx]; have h := realUnkey_any (keyN X) w (keyN_lt hx); rwa [unkey_key hx] at h
  have Ux : ∀ w, Calls Try.prog 17 #[.int .u64 x] w fun e w' => e = .returned (.int .u64 ux) ∧ Below w.heap.size w w' := fun w => by
    rw [hX, ← hux]; exact realUnkey_any X w hx
  have KU : ∀ w, Calls Try.prog 15 #[.int .u64 ux] w fun e w' => e = .returned (.int .u64 x) ∧ Below w.heap.size w w' := fun w => by
    rw [hX, ← hux]; have h := realKey_any (unkeyN X) w (unkeyN_lt hx); rwa [key_unkey hx] at h
  have Cx : ∀ w, Calls Try.prog 11 #[.int .u64 x] w fun e w' => e = .returned (.int .i64 cx) ∧ Below w.heap.size w w' := fun w => by
    rw [hX, ← hcx]; exact realClass_any X w hx
  have Cy : ∀ w, Calls Try.prog 11 #[.int .u64 y] w fun e w' => e = .returned (.int .i64 cy) ∧ Below w.heap.size w w' := fun w => by
    rw [hY, ← hcy]; exact realClass_any Y w hy
  have Lo : ∀ w, Calls Try.prog 23 #[.int .u64 x, .int .u64 y] w fun e w' => e = .returned (.int .u64 lo) ∧ Below w.heap.size w w' := fun w => by
    rw [hX, hY, ← hlo]; exact realLeast_any X Y w hx hy
  have Hi : ∀ w, Calls Try.prog 25 #[.int .u64 x, .int .u64 y] w fun e w' => e = .returned (.int .u64 hi) ∧ Below w.heap.size w w' := fun w => by
    rw [hX, hY, ← hhi]; exact realMost_any X Y w hx hy
  have hk : (kx == ky) = (x == y) := by
    have h := key_inj hx hy
    rw [Bool.eq_iff_iff, beq_iff_eq, beq_iff_eq]
    omega
  replace Kx := Lib.hid Kx
  replace Ky := Lib.hid Ky
  replace UK := Lib.hid UK
  replace Ux := Lib.hid Ux
  replace KU := Lib.hid KU
  replace Cx := Lib.hid Cx
  replace Cy := Lib.hid Cy
  replace Lo := Lib.hid Lo
  replace Hi := Lib.hid Hi
  obtain ⟨s1, hs1⟩ : ∃ s, (x == y) = s := ⟨_, rfl⟩
  rw [hs1] at hk
  by_cases hn : clsN X = 4 ∨ clsN Y = 4
  · obtain ⟨n1, n2, n3, n4⟩ := order_none hx hy hn
    have hlh : lo = hi := by rw [← hlo, ← hhi, n3, n4]
    subst hlh
    have L : ∀ w, Calls Try.prog 19 #[.int .u64 x, .int .u64 y] w fun e w' => e = .returned (.bool false) ∧ Below w.heap.size w w' := fun w => by
      rw [hX, hY]; have h := realLess_any X Y w hx hy; rwa [n1] at h
    have S : ∀ w, Calls Try.prog 21 #[.int .u64 x, .int .u64 y] w fun e w' => e = .returned (.bool false) ∧ Below w.heap.size w w' := fun w => by
      rw [hX, hY]; have h := realSame_any X Y w hx hy; rwa [n2] at h
    replace L := Lib.hid L
    replace S := Lib.hid S
    by_cases h4 : cx = 4
    · have b1 : (cx == 4) = true := by simpa using h4
      clear hX hY hkx hky hux hcx hcy hlo hhi n1 n2 n3 n4 hn h4
      cases s1
      all_goals
        have HB := Lib.hid (Below.refl w.heap.size w)
        go_enter Try.func6, Try.ntmps6
        go_wp2_with fail
        refine (alive5 _).mono ?_
        rintro e wk ⟨rfl, hb⟩
        have HB := Lib.hid (HB.out.trans (hb.mono HB.out.size))
        clear hb
        go_wp2_with fail
        refine (Kx.out _).mono ?_
        rintro e wk ⟨rfl, hb⟩
        have HB := Lib.hid (HB.out.trans (hb.mono HB.out.size))
        clear hb
        go_wp2_with fail
        refine (UK.out _).mono ?_
        rintro e wk ⟨rfl, hb⟩
        have HB := Lib.hid (HB.out.trans (hb.mono HB.out.size))
        clear hb
        go_wp2_with fail
        refine (Ux.out _).mono ?_
        rintro e wk ⟨rfl, hb⟩
        have HB := Lib.hid (HB.out.trans (hb.mono HB.out.size))
        clear hb
        go_wp2_with fail
        refine (KU.out _).mono ?_
        rintro e wk ⟨rfl, hb⟩
        have HB := Lib.hid (HB.out.trans (hb.mono HB.out.size))
        clear hb
        go_wp2_with fail
        refine (Kx.out _).mono ?_
        rintro e wk ⟨rfl, hb⟩
        have HB := Lib.hid (HB.out.trans (hb.mono HB.out.size))
        clear hb
        go_wp2_with fail
        refine (Ky.out _).mono ?_
        rintro e wk ⟨rfl, hb⟩
        have HB := Lib.hid (HB.out.trans (hb.mono HB.out.size))
        clear hb
        go_wp2_with fail
        refine (Cx.out _).mono ?_
        rintro e wk ⟨rfl, hb⟩
        have HB := Lib.hid (HB.out.trans (hb.mono HB.out.size))
        clear hb
        go_wp2_with fail
        refine (L.out _).mono ?_
        rintro e wk ⟨rfl, hb⟩
        have HB := Lib.hid (HB.out.trans (hb.mono HB.out.size))
        clear hb
        go_wp2_with fail
        refine (S.out _).mono ?_
        rintro e wk ⟨rfl, hb⟩
        have HB := Lib.hid (HB.out.trans (hb.mono HB.out.size))
        clear hb
        go_wp2_with fail
        refine (Lo.out _).mono ?_
        rintro e wk ⟨rfl, hb⟩
        have HB := Lib.hid (HB.out.trans (hb.mono HB.out.size))
        clear hb
        go_wp2_with fail
        refine (Hi.out _).mono ?_
        rintro e wk ⟨rfl, hb⟩
        have HB := Lib.hid (HB.out.trans (hb.mono HB.out.size))
        clear hb
        go_wp2
        go_ret
        exact ⟨rfl, HB.out⟩
    · have b1 : (cx == 4) = false := by simpa using h4
      have b2 : (cy == 4) = true := by
        have : cy = 4 := by omega
        simpa using this
      clear hX hY hkx hky hux hcx hcy hlo hhi n1 n2 n3 n4 hn h4
      cases s1
      all_goals
        have HB := Lib.hid (Below.refl w.heap.size w)
        go_enter Try.func6, Try.ntmps6
        go_wp2_with fail
        refine (alive5 _).mono ?_
        rintro e wk ⟨rfl, hb⟩
        have HB := Lib.hid (HB.out.trans (hb.mono HB.out.size))
        clear hb
        go_wp2_with fail
        refine (Kx.out _).mono ?_
        rintro e wk ⟨rfl, hb⟩
        have HB := Lib.hid (HB.out.trans (hb.mono HB.out.size))
        clear hb
        go_wp2_with fail
        refine (UK.out _).mono ?_
        rintro e wk ⟨rfl, hb⟩
        have HB := Lib.hid (HB.out.trans (hb.mono HB.out.size))
        clear hb
        go_wp2_with fail
        refine (Ux.out _).mono ?_
        rintro e wk ⟨rfl, hb⟩
        have HB := Lib.hid (HB.out.trans (hb.mono HB.out.size))
        clear hb
        go_wp2_with fail
        refine (KU.out _).mono ?_
        rintro e wk ⟨rfl, hb⟩
        have HB := Lib.hid (HB.out.trans (hb.mono HB.out.size))
        clear hb
        go_wp2_with fail
        refine (Kx.out _).mono ?_
        rintro e wk ⟨rfl, hb⟩
        have HB := Lib.hid (HB.out.trans (hb.mono HB.out.size))
        clear hb
        go_wp2_with fail
        refine (Ky.out _).mono ?_
        rintro e wk ⟨rfl, hb⟩
        have HB := Lib.hid (HB.out.trans (hb.mono HB.out.size))
        clear hb
        go_wp2_with fail
        refine (Cx.out _).mono ?_
        rintro e wk ⟨rfl, hb⟩
        have HB := Lib.hid (HB.out.trans (hb.mono HB.out.size))
        clear hb
        go_wp2_with fail
        refine (Cy.out _).mono ?_
        rintro e wk ⟨rfl, hb⟩
        have HB := Lib.hid (HB.out.trans (hb.mono HB.out.size))
        clear hb
        go_wp2_with fail
        refine (L.out _).mono ?_
        rintro e wk ⟨rfl, hb⟩
        have HB := Lib.hid (HB.out.trans (hb.mono HB.out.size))
        clear hb
        go_wp2_with fail
        refine (S.out _).mono ?_
        rintro e wk ⟨rfl, hb⟩
        have HB := Lib.hid (HB.out.trans (hb.mono HB.out.size))
        clear hb
        go_wp2_with fail
        refine (Lo.out _).mono ?_
        rintro e wk ⟨rfl, hb⟩
        have HB := Lib.hid (HB.out.trans (hb.mono HB.out.size))
        clear hb
        go_wp2_with fail
        refine (Hi.out _).mono ?_
        rintro e wk ⟨rfl, hb⟩
        have HB := Lib.hid (HB.out.trans (hb.mono HB.out.size))
        clear hb
        go_wp2
        go_ret
        exact ⟨rfl, HB.out⟩
  · have c1 : clsN X ≠ 4 := fun h => hn (Or.inl h)
    have c2 : clsN Y ≠ 4 := fun h => hn (Or.inr h)
    have b1 : (cx == 4) = false := by
      have : cx ≠ 4 := by omega
      simpa using this
    have b2 : (cy == 4) = false := by
      have : cy ≠ 4 := by omega
      simpa using this
    obtain ⟨e1, e2⟩ := order_ends hx hy c1 c2
    have hlk := @less_key X Y
    obtain ⟨p, hp⟩ : ∃ p, lessN X Y = p := ⟨_, rfl⟩
    obtain ⟨q, hq⟩ : ∃ p, lessN Y X = p := ⟨_, rfl⟩
    obtain ⟨s, hs⟩ : ∃ p, sameN X Y = p := ⟨_, rfl⟩
    have h3 := order_one hx hy c1 c2
    rw [hp, hq, hs] at h3
    rw [hp] at hlk
    have L : ∀ w, Calls Try.prog 19 #[.int .u64 x, .int .u64 y] w fun e w' => e = .returned (.bool p) ∧ Below w.heap.size w w' := fun w => by
      rw [hX, hY, ← hp]; exact realLess_any X Y w hx hy
    have M : ∀ w, Calls Try.prog 19 #[.int .u64 y, .int .u64 x] w fun e w' => e = .returned (.bool q) ∧ Below w.heap.size w w' := fun w => by
      rw [hX, hY, ← hq]; exact realLess_any Y X w hy hx
    have S : ∀ w, Calls Try.prog 21 #[.int .u64 x, .int .u64 y] w fun e w' => e = .returned (.bool s) ∧ Below w.heap.size w w' := fun w => by
      rw [hX, hY, ← hs]; exact realSame_any X Y w hx hy
    have hm : mostN X Y < 18446744073709551616 ∧ leastN X Y < 18446744073709551616 := by
      rcases e2 with ⟨h5, h6⟩ | ⟨h5, h6⟩ <;> omega
    have N : ∀ w, Calls Try.prog 19 #[.int .u64 hi, .int .u64 lo] w fun e w' => e = .returned (.bool false) ∧ Below w.heap.size w w' := fun w => by
      rw [← hlo, ← hhi]; have h := realLess_any (mostN X Y) (leastN X Y) w hm.1 hm.2; rwa [e1] at h
    replace L := Lib.hid L
    replace M := Lib.hid M
    replace S := Lib.hid S
    replace N := Lib.hid N
    have e3 : (lo = x ∧ hi = y) ∨ (x ≠ y ∧ lo = y ∧ hi = x) := by
      rcases e2 with ⟨h5, h6⟩ | ⟨h5, h6⟩
      · left; omega
      · by_cases h7 : X = Y
        · left; omega
        · right; omega
    have hpk : p = true → decide (kx < ky) = true := fun h => by
      have := hlk h
      rw [decide_eq_true_eq]
      omega
    clear hX hY hkx hky hux hcx hcy hlo hhi c1 c2 hn hp hq hs hlk e1 e2 hm
    rcases e3 with ⟨rfl, rfl⟩ | ⟨hne, rfl, rfl⟩
    · have b6 : True := trivial
      rcases h3 with ⟨rfl, rfl, rfl⟩ | ⟨rfl, rfl, rfl⟩ | ⟨rfl, rfl, rfl⟩
      · have b5 := hpk rfl
        clear hpk
        cases s1
        all_goals
          have HB := Lib.hid (Below.refl w.heap.size w)
          go_enter Try.func6, Try.ntmps6
          go_wp2_with fail
          refine (alive5 _).mono ?_
          rintro e wk ⟨rfl, hb⟩
          have HB := Lib.hid (HB.out.trans (hb.mono HB.out.size))
          clear hb
          go_wp2_with fail
          refine (Kx.out _).mono ?_
          rintro e wk ⟨rfl, hb⟩
          have HB := Lib.hid (HB.out.trans (hb.mono HB.out.size))
          clear hb
          go_wp2_with fail
          refine (UK.out _).mono ?_
          rintro e wk ⟨rfl, hb⟩
          have HB := Lib.hid (HB.out.trans (hb.mono HB.out.size))
          clear hb
          go_wp2_with fail
          refine (Ux.out _).mono ?_
          rintro e wk ⟨rfl, hb⟩
          have HB := Lib.hid (HB.out.trans (hb.mono HB.out.size))
          clear hb
          go_wp2_with fail
          refine (KU.out _).mono ?_
          rintro e wk ⟨rfl, hb⟩
          have HB := Lib.hid (HB.out.trans (hb.mono HB.out.size))
          clear hb
          go_wp2_with fail
          refine (Kx.out _).mono ?_
          rintro e wk ⟨rfl, hb⟩
          have HB := Lib.hid (HB.out.trans (hb.mono HB.out.size))
          clear hb
          go_wp2_with fail
          refine (Ky.out _).mono ?_
          rintro e wk ⟨rfl, hb⟩
          have HB := Lib.hid (HB.out.trans (hb.mono HB.out.size))
          clear hb
          go_wp2_with fail
          refine (Cx.out _).mono ?_
          rintro e wk ⟨rfl, hb⟩
          have HB := Lib.hid (HB.out.trans (hb.mono HB.out.size))
          clear hb
          go_wp2_with fail
          refine (Cy.out _).mono ?_
          rintro e wk ⟨rfl, hb⟩
          have HB := Lib.hid (HB.out.trans (hb.mono HB.out.size))
          clear hb
          go_wp2_with fail
          refine (L.out _).mono ?_
          rintro e wk ⟨rfl, hb⟩
          have HB := Lib.hid (HB.out.trans (hb.mono HB.out.size))
          clear hb
          go_wp2_with fail
          refine (M.out _).mono ?_
          rintro e wk ⟨rfl, hb⟩
          have HB := Lib.hid (HB.out.trans (hb.mono HB.out.size))
          clear hb
          go_wp2_with fail
          refine (S.out _).mono ?_
          rintro e wk ⟨rfl, hb⟩
          have HB := Lib.hid (HB.out.trans (hb.mono HB.out.size))
          clear hb
          go_wp2_with fail
          refine (Lo.out _).mono ?_
          rintro e wk ⟨rfl, hb⟩
          have HB := Lib.hid (HB.out.trans (hb.mono HB.out.size))
          clear hb
          go_wp2_with fail
          refine (Hi.out _).mono ?_
          rintro e wk ⟨rfl, hb⟩
          have HB := Lib.hid (HB.out.trans (hb.mono HB.out.size))
          clear hb
          go_wp2_with fail
          refine (L.out _).mono ?_
          rintro e wk ⟨rfl, hb⟩
          have HB := Lib.hid (HB.out.trans (hb.mono HB.out.size))
          clear hb
          go_wp2_with fail
          refine (Kx.out _).mono ?_
          rintro e wk ⟨rfl, hb⟩
          have HB := Lib.hid (HB.out.trans (hb.mono HB.out.size))
          clear hb
          go_wp2_with fail
          refine (Ky.out _).mono ?_
          rintro e wk ⟨rfl, hb⟩
          have HB := Lib.hid (HB.out.trans (hb.mono HB.out.size))
          clear hb
          go_wp2_with fail
          refine (N.out _).mono ?_
          rintro e wk ⟨rfl, hb⟩
          have HB := Lib.hid (HB.out.trans (hb.mono HB.out.size))
          clear hb
          go_wp2
          go_ret
          exact ⟨rfl, HB.out⟩
      · clear hpk
        cases s1
        all_goals
          have HB := Lib.hid (Below.refl w.heap.size w)
          go_enter Try.func6, Try.ntmps6
          go_wp2_with fail
          refine (alive5 _).mono ?_
          rintro e wk ⟨rfl, hb⟩
          have HB := Lib.hid (HB.out.trans (hb.mono HB.out.size))
          clear hb
          go_wp2_with fail
          refine (Kx.out _).mono ?_
          rintro e wk ⟨rfl, hb⟩
          have HB := Lib.hid (HB.out.trans (hb.mono HB.out.size))
          clear hb
          go_wp2_with fail
          refine (UK.out _).mono ?_
          rintro e wk ⟨rfl, hb⟩
          have HB := Lib.hid (HB.out.trans (hb.mono HB.out.size))
          clear hb
          go_wp2_with fail
          refine (Ux.out _).mono ?_
          rintro e wk ⟨rfl, hb⟩
          have HB := Lib.hid (HB.out.trans (hb.mono HB.out.size))
          clear hb
          go_wp2_with fail
          refine (KU.out _).mono ?_
          rintro e wk ⟨rfl, hb⟩
          have HB := Lib.hid (HB.out.trans (hb.mono HB.out.size))
          clear hb
          go_wp2_with fail
          refine (Kx.out _).mono ?_
          rintro e wk ⟨rfl, hb⟩
          have HB := Lib.hid (HB.out.trans (hb.mono HB.out.size))
          clear hb
          go_wp2_with fail
          refine (Ky.out _).mono ?_
          rintro e wk ⟨rfl, hb⟩
          have HB := Lib.hid (HB.out.trans (hb.mono HB.out.size))
          clear hb
          go_wp2_with fail
          refine (Cx.out _).mono ?_
          rintro e wk ⟨rfl, hb⟩
          have HB := Lib.hid (HB.out.trans (hb.mono HB.out.size))
          clear hb
          go_wp2_with fail
          refine (Cy.out _).mono ?_
          rintro e wk ⟨rfl, hb⟩
          have HB := Lib.hid (HB.out.trans (hb.mono HB.out.size))
          clear hb
          go_wp2_with fail
          refine (L.out _).mono ?_
          rintro e wk ⟨rfl, hb⟩
          have HB := Lib.hid (HB.out.trans (hb.mono HB.out.size))
          clear hb
          go_wp2_with fail
          refine (M.out _).mono ?_
          rintro e wk ⟨rfl, hb⟩
          have HB := Lib.hid (HB.out.trans (hb.mono HB.out.size))
          clear hb
          go_wp2_with fail
          refine (S.out _).mono ?_
          rintro e wk ⟨rfl, hb⟩
          have HB := Lib.hid (HB.out.trans (hb.mono HB.out.size))
          clear hb
          go_wp2_with fail
          refine (Lo.out _).mono ?_
          rintro e wk ⟨rfl, hb⟩
          have HB := Lib.hid (HB.out.trans (hb.mono HB.out.size))
          clear hb
          go_wp2_with fail
          refine (Hi.out _).mono ?_
          rintro e wk ⟨rfl, hb⟩
          have HB := Lib.hid (HB.out.trans (hb.mono HB.out.size))
          clear hb
          go_wp2_with fail
          refine (L.out _).mono ?_
          rintro e wk ⟨rfl, hb⟩
          have HB := Lib.hid (HB.out.trans (hb.mono HB.out.size))
          clear hb
          go_wp2_with fail
          refine (N.out _).mono ?_
          rintro e wk ⟨rfl, hb⟩
          have HB := Lib.hid (HB.out.trans (hb.mono HB.out.size))
          clear hb
          go_wp2
          go_ret
          exact ⟨rfl, HB.out⟩
      · clear hpk
        cases s1
        all_goals
          have HB := Lib.hid (Below.refl w.heap.size w)
          go_enter Try.func6, Try.ntmps6
          go_wp2_with fail
          refine (alive5 _).mono ?_
          rintro e wk ⟨rfl, hb⟩
          have HB := Lib.hid (HB.out.trans (hb.mono HB.out.size))
          clear hb
          go_wp2_with fail
          refine (Kx.out _).mono ?_
          rintro e wk ⟨rfl, hb⟩
          have HB := Lib.hid (HB.out.trans (hb.mono HB.out.size))
          clear hb
          go_wp2_with fail
          refine (UK.out _).mono ?_
          rintro e wk ⟨rfl, hb⟩
          have HB := Lib.hid (HB.out.trans (hb.mono HB.out.size))
          clear hb
          go_wp2_with fail
          refine (Ux.out _).mono ?_
          rintro e wk ⟨rfl, hb⟩
          have HB := Lib.hid (HB.out.trans (hb.mono HB.out.size))
          clear hb
          go_wp2_with fail
          refine (KU.out _).mono ?_
          rintro e wk ⟨rfl, hb⟩
          have HB := Lib.hid (HB.out.trans (hb.mono HB.out.size))
          clear hb
          go_wp2_with fail
          refine (Kx.out _).mono ?_
          rintro e wk ⟨rfl, hb⟩
          have HB := Lib.hid (HB.out.trans (hb.mono HB.out.size))
          clear hb
          go_wp2_with fail
          refine (Ky.out _).mono ?_
          rintro e wk ⟨rfl, hb⟩
          have HB := Lib.hid (HB.out.trans (hb.mono HB.out.size))
          clear hb
          go_wp2_with fail
          refine (Cx.out _).mono ?_
          rintro e wk ⟨rfl, hb⟩
          have HB := Lib.hid (HB.out.trans (hb.mono HB.out.size))
          clear hb
          go_wp2_with fail
          refine (Cy.out _).mono ?_
          rintro e wk ⟨rfl, hb⟩
          have HB := Lib.hid (HB.out.trans (hb.mono HB.out.size))
          clear hb
          go_wp2_with fail
          refine (L.out _).mono ?_
          rintro e wk ⟨rfl, hb⟩
          have HB := Lib.hid (HB.out.trans (hb.mono HB.out.size))
          clear hb
          go_wp2_with fail
          refine (M.out _).mono ?_
          rintro e wk ⟨rfl, hb⟩
          have HB := Lib.hid (HB.out.trans (hb.mono HB.out.size))
          clear hb
          go_wp2_with fail
          refine (S.out _).mono ?_
          rintro e wk ⟨rfl, hb⟩
          have HB := Lib.hid (HB.out.trans (hb.mono HB.out.size))
          clear hb
          go_wp2_with fail
          refine (Lo.out _).mono ?_
          rintro e wk ⟨rfl, hb⟩
          have HB := Lib.hid (HB.out.trans (hb.mono HB.out.size))
          clear hb
          go_wp2_with fail
          refine (Hi.out _).mono ?_
          rintro e wk ⟨rfl, hb⟩
          have HB := Lib.hid (HB.out.trans (hb.mono HB.out.size))
          clear hb
          go_wp2_with fail
          refine (L.out _).mono ?_
          rintro e wk ⟨rfl, hb⟩
          have HB := Lib.hid (HB.out.trans (hb.mono HB.out.size))
          clear hb
          go_wp2_with fail
          refine (N.out _).mono ?_
          rintro e wk ⟨rfl, hb⟩
          have HB := Lib.hid (HB.out.trans (hb.mono HB.out.size))
          clear hb
          go_wp2
          go_ret
          exact ⟨rfl, HB.out⟩
    · have b6 : (lo == hi) = false := by simpa using fun h => hne h.symm
      have b7 : (hi == lo) = false := by simpa using hne
      clear hne
      obtain rfl : s1 = false := hs1.symm.trans b7
      rcases h3 with ⟨rfl, rfl, rfl⟩ | ⟨rfl, rfl, rfl⟩ | ⟨rfl, rfl, rfl⟩
      · have b5 := hpk rfl
        clear hpk
        skip
        all_goals
          have HB := Lib.hid (Below.refl w.heap.size w)
          go_enter Try.func6, Try.ntmps6
          go_wp2_with fail
          refine (alive5 _).mono ?_
          rintro e wk ⟨rfl, hb⟩
          have HB := Lib.hid (HB.out.trans (hb.mono HB.out.size))
          clear hb
          go_wp2_with fail
          refine (Kx.out _).mono ?_
          rintro e wk ⟨rfl, hb⟩
          have HB := Lib.hid (HB.out.trans (hb.mono HB.out.size))
          clear hb
          go_wp2_with fail
          refine (UK.out _).mono ?_
          rintro e wk ⟨rfl, hb⟩
          have HB := Lib.hid (HB.out.trans (hb.mono HB.out.size))
          clear hb
          go_wp2_with fail
          refine (Ux.out _).mono ?_
          rintro e wk ⟨rfl, hb⟩
          have HB := Lib.hid (HB.out.trans (hb.mono HB.out.size))
          clear hb
          go_wp2_with fail
          refine (KU.out _).mono ?_
          rintro e wk ⟨rfl, hb⟩
          have HB := Lib.hid (HB.out.trans (hb.mono HB.out.size))
          clear hb
          go_wp2_with fail
          refine (Kx.out _).mono ?_
          rintro e wk ⟨rfl, hb⟩
          have HB := Lib.hid (HB.out.trans (hb.mono HB.out.size))
          clear hb
          go_wp2_with fail
          refine (Ky.out _).mono ?_
          rintro e wk ⟨rfl, hb⟩
          have HB := Lib.hid (HB.out.trans (hb.mono HB.out.size))
          clear hb
          go_wp2_with fail
          refine (Cx.out _).mono ?_
          rintro e wk ⟨rfl, hb⟩
          have HB := Lib.hid (HB.out.trans (hb.mono HB.out.size))
          clear hb
          go_wp2_with fail
          refine (Cy.out _).mono ?_
          rintro e wk ⟨rfl, hb⟩
          have HB := Lib.hid (HB.out.trans (hb.mono HB.out.size))
          clear hb
          go_wp2_with fail
          refine (L.out _).mono ?_
          rintro e wk ⟨rfl, hb⟩
          have HB := Lib.hid (HB.out.trans (hb.mono HB.out.size))
          clear hb
          go_wp2_with fail
          refine (M.out _).mono ?_
          rintro e wk ⟨rfl, hb⟩
          have HB := Lib.hid (HB.out.trans (hb.mono HB.out.size))
          clear hb
          go_wp2_with fail
          refine (S.out _).mono ?_
          rintro e wk ⟨rfl, hb⟩
          have HB := Lib.hid (HB.out.trans (hb.mono HB.out.size))
          clear hb
          go_wp2_with fail
          refine (Lo.out _).mono ?_
          rintro e wk ⟨rfl, hb⟩
          have HB := Lib.hid (HB.out.trans (hb.mono HB.out.size))
          clear hb
          go_wp2_with fail
          refine (Hi.out _).mono ?_
          rintro e wk ⟨rfl, hb⟩
          have HB := Lib.hid (HB.out.trans (hb.mono HB.out.size))
          clear hb
          go_wp2_with fail
          refine (L.out _).mono ?_
          rintro e wk ⟨rfl, hb⟩
          have HB := Lib.hid (HB.out.trans (hb.mono HB.out.size))
          clear hb
          go_wp2_with fail
          refine (Kx.out _).mono ?_
          rintro e wk ⟨rfl, hb⟩
          have HB := Lib.hid (HB.out.trans (hb.mono HB.out.size))
          clear hb
          go_wp2_with fail
          refine (Ky.out _).mono ?_
          rintro e wk ⟨rfl, hb⟩
          have HB := Lib.hid (HB.out.trans (hb.mono HB.out.size))
          clear hb
          go_wp2_with fail
          refine (N.out _).mono ?_
          rintro e wk ⟨rfl, hb⟩
          have HB := Lib.hid (HB.out.trans (hb.mono HB.out.size))
          clear hb
          go_wp2
          go_ret
          exact ⟨rfl, HB.out⟩
      · clear hpk
        skip
        all_goals
          have HB := Lib.hid (Below.refl w.heap.size w)
          go_enter Try.func6, Try.ntmps6
          go_wp2_with fail
          refine (alive5 _).mono ?_
          rintro e wk ⟨rfl, hb⟩
          have HB := Lib.hid (HB.out.trans (hb.mono HB.out.size))
          clear hb
          go_wp2_with fail
          refine (Kx.out _).mono ?_
          rintro e wk ⟨rfl, hb⟩
          have HB := Lib.hid (HB.out.trans (hb.mono HB.out.size))
          clear hb
          go_wp2_with fail
          refine (UK.out _).mono ?_
          rintro e wk ⟨rfl, hb⟩
          have HB := Lib.hid (HB.out.trans (hb.mono HB.out.size))
          clear hb
          go_wp2_with fail
          refine (Ux.out _).mono ?_
          rintro e wk ⟨rfl, hb⟩
          have HB := Lib.hid (HB.out.trans (hb.mono HB.out.size))
          clear hb
          go_wp2_with fail
          refine (KU.out _).mono ?_
          rintro e wk ⟨rfl, hb⟩
          have HB := Lib.hid (HB.out.trans (hb.mono HB.out.size))
          clear hb
          go_wp2_with fail
          refine (Kx.out _).mono ?_
          rintro e wk ⟨rfl, hb⟩
          have HB := Lib.hid (HB.out.trans (hb.mono HB.out.size))
          clear hb
          go_wp2_with fail
          refine (Ky.out _).mono ?_
          rintro e wk ⟨rfl, hb⟩
          have HB := Lib.hid (HB.out.trans (hb.mono HB.out.size))
          clear hb
          go_wp2_with fail
          refine (Cx.out _).mono ?_
          rintro e wk ⟨rfl, hb⟩
          have HB := Lib.hid (HB.out.trans (hb.mono HB.out.size))
          clear hb
          go_wp2_with fail
          refine (Cy.out _).mono ?_
          rintro e wk ⟨rfl, hb⟩
          have HB := Lib.hid (HB.out.trans (hb.mono HB.out.size))
          clear hb
          go_wp2_with fail
          refine (L.out _).mono ?_
          rintro e wk ⟨rfl, hb⟩
          have HB := Lib.hid (HB.out.trans (hb.mono HB.out.size))
          clear hb
          go_wp2_with fail
          refine (M.out _).mono ?_
          rintro e wk ⟨rfl, hb⟩
          have HB := Lib.hid (HB.out.trans (hb.mono HB.out.size))
          clear hb
          go_wp2_with fail
          refine (S.out _).mono ?_
          rintro e wk ⟨rfl, hb⟩
          have HB := Lib.hid (HB.out.trans (hb.mono HB.out.size))
          clear hb
          go_wp2_with fail
          refine (Lo.out _).mono ?_
          rintro e wk ⟨rfl, hb⟩
          have HB := Lib.hid (HB.out.trans (hb.mono HB.out.size))
          clear hb
          go_wp2_with fail
          refine (Hi.out _).mono ?_
          rintro e wk ⟨rfl, hb⟩
          have HB := Lib.hid (HB.out.trans (hb.mono HB.out.size))
          clear hb
          go_wp2_with fail
          refine (L.out _).mono ?_
          rintro e wk ⟨rfl, hb⟩
          have HB := Lib.hid (HB.out.trans (hb.mono HB.out.size))
          clear hb
          go_wp2_with fail
          refine (N.out _).mono ?_
          rintro e wk ⟨rfl, hb⟩
          have HB := Lib.hid (HB.out.trans (hb.mono HB.out.size))
          clear hb
          go_wp2
          go_ret
          exact ⟨rfl, HB.out⟩
      · clear hpk
        skip
        all_goals
          have HB := Lib.hid (Below.refl w.heap.size w)
          go_enter Try.func6, Try.ntmps6
          go_wp2_with fail
          refine (alive5 _).mono ?_
          rintro e wk ⟨rfl, hb⟩
          have HB := Lib.hid (HB.out.trans (hb.mono HB.out.size))
          clear hb
          go_wp2_with fail
          refine (Kx.out _).mono ?_
          rintro e wk ⟨rfl, hb⟩
          have HB := Lib.hid (HB.out.trans (hb.mono HB.out.size))
          clear hb
          go_wp2_with fail
          refine (UK.out _).mono ?_
          rintro e wk ⟨rfl, hb⟩
          have HB := Lib.hid (HB.out.trans (hb.mono HB.out.size))
          clear hb
          go_wp2_with fail
          refine (Ux.out _).mono ?_
          rintro e wk ⟨rfl, hb⟩
          have HB := Lib.hid (HB.out.trans (hb.mono HB.out.size))
          clear hb
          go_wp2_with fail
          refine (KU.out _).mono ?_
          rintro e wk ⟨rfl, hb⟩
          have HB := Lib.hid (HB.out.trans (hb.mono HB.out.size))
          clear hb
          go_wp2_with fail
          refine (Kx.out _).mono ?_
          rintro e wk ⟨rfl, hb⟩
          have HB := Lib.hid (HB.out.trans (hb.mono HB.out.size))
          clear hb
          go_wp2_with fail
          refine (Ky.out _).mono ?_
          rintro e wk ⟨rfl, hb⟩
          have HB := Lib.hid (HB.out.trans (hb.mono HB.out.size))
          clear hb
          go_wp2_with fail
          refine (Cx.out _).mono ?_
          rintro e wk ⟨rfl, hb⟩
          have HB := Lib.hid (HB.out.trans (hb.mono HB.out.size))
          clear hb
          go_wp2_with fail
          refine (Cy.out _).mono ?_
          rintro e wk ⟨rfl, hb⟩
          have HB := Lib.hid (HB.out.trans (hb.mono HB.out.size))
          clear hb
          go_wp2_with fail
          refine (L.out _).mono ?_
          rintro e wk ⟨rfl, hb⟩
          have HB := Lib.hid (HB.out.trans (hb.mono HB.out.size))
          clear hb
          go_wp2_with fail
          refine (M.out _).mono ?_
          rintro e wk ⟨rfl, hb⟩
          have HB := Lib.hid (HB.out.trans (hb.mono HB.out.size))
          clear hb
          go_wp2_with fail
          refine (S.out _).mono ?_
          rintro e wk ⟨rfl, hb⟩
          have HB := Lib.hid (HB.out.trans (hb.mono HB.out.size))
          clear hb
          go_wp2_with fail
          refine (Lo.out _).mono ?_
          rintro e wk ⟨rfl, hb⟩
          have HB := Lib.hid (HB.out.trans (hb.mono HB.out.size))
          clear hb
          go_wp2_with fail
          refine (Hi.out _).mono ?_
          rintro e wk ⟨rfl, hb⟩
          have HB := Lib.hid (HB.out.trans (hb.mono HB.out.size))
          clear hb
          go_wp2_with fail
          refine (L.out _).mono ?_
          rintro e wk ⟨rfl, hb⟩
          have HB := Lib.hid (HB.out.trans (hb.mono HB.out.size))
          clear hb
          go_wp2_with fail
          refine (N.out _).mono ?_
          rintro e wk ⟨rfl, hb⟩
          have HB := Lib.hid (HB.out.trans (hb.mono HB.out.size))
          clear hb
          go_wp2
          go_ret
          exact ⟨rfl, HB.out⟩
end Go.Proofs.Ytemdhlajdmkppaa
