/- The walk of RealSteps: it answers true, over any world; no condition. -/
import Derived.Test.YtemdhlajdmkppaaRealT
namespace Go.Proofs.Ytemdhlajdmkppaa
set_option linter.unusedVariables false
set_option linter.unusedSimpArgs false
open Go.RowKit
open Ieee

set_option maxRecDepth 100000 in
set_option maxHeartbeats 4000000 in
theorem steps5_walk (x y : Int) (w : World) (x0 : (Lit.int .u64 x).wf = true) (y0 : (Lit.int .u64 y).wf = true) :
    Calls Try.prog 7 #[.int .u64 x, .int .u64 y] w fun e w' => e = .returned (.bool true) ∧ Below w.heap.size w w' := by
  obtain ⟨X, hX, hx⟩ := nat_u64 x0
  obtain ⟨Y, hY, hy⟩ := nat_u64 y0
  obtain ⟨up, hup⟩ : ∃ k : Int, ((upN X : Nat) : Int) = k := ⟨_, rfl⟩
  obtain ⟨dn, hdn⟩ : ∃ k : Int, ((downN X : Nat) : Int) = k := ⟨_, rfl⟩
  obtain ⟨c, hc⟩ : ∃ k : Int, ((clsN X : Nat) : Int) = k := ⟨_, rfl⟩
  have None_ := Lib.hid (fun w => refNone_any w)
  have Up : ∀ w, Calls Try.prog 27 #[.int .u64 x] w fun e w' => e = .returned (.int .u64 up) ∧ Below w.heap.size w w' := fun w => by
    rw [hX, ← hup]; exact realUp_any X w hx
  have Dn : ∀ w, Calls Try.prog 29 #[.int .u64 x] w fun e w' => e = .returned (.int .u64 dn) ∧ Below w.heap.size w w' := fun w => by
    rw [hX, ← hdn]; exact realDown_any X w hx
  have Cl : ∀ w, Calls Try.prog 11 #[.int .u64 x] w fun e w' => e = .returned (.int .i64 c) ∧ Below w.heap.size w w' := fun w => by
    rw [hX, ← hc]; exact realClass_any X w hx
  replace Cl := Lib.hid Cl
  by_cases h4 : clsN X = 4
  · obtain ⟨e1, e2⟩ := steps_none h4
    obtain rfl : up = 9221120237041090560 := by omega
    obtain rfl : dn = 9221120237041090560 := by omega
    have b1 : (c == 4) = true := by
      have : c = 4 := by omega
      simpa using this
    replace Up := Lib.hid Up
    replace Dn := Lib.hid Dn
    clear hX hY hup hdn hc h4 e1 e2
    have HB := Lib.hid (Below.refl w.heap.size w)
    go_enter Try.func7, Try.ntmps7
    go_wp2_with fail
    refine (alive5 _).mono ?_
    rintro e wk ⟨rfl, hb⟩
    have HB := Lib.hid (HB.out.trans (hb.mono HB.out.size))
    clear hb
    go_wp2_with fail
    refine (Up.out _).mono ?_
    rintro e wk ⟨rfl, hb⟩
    have HB := Lib.hid (HB.out.trans (hb.mono HB.out.size))
    clear hb
    go_wp2_with fail
    refine (Dn.out _).mono ?_
    rintro e wk ⟨rfl, hb⟩
    have HB := Lib.hid (HB.out.trans (hb.mono HB.out.size))
    clear hb
    go_wp2_with fail
    refine (Cl.out _).mono ?_
    rintro e wk ⟨rfl, hb⟩
    have HB := Lib.hid (HB.out.trans (hb.mono HB.out.size))
    clear hb
    go_wp2_with fail
    refine (None_.out _).mono ?_
    rintro e wk ⟨rfl, rfl⟩
    go_wp2
    go_ret
    exact ⟨rfl, HB.out⟩
  · have b1 : (c == 4) = false := by
      have : c ≠ 4 := by omega
      simpa using this
    by_cases hi : X = 9218868437227405312
    · obtain ⟨e1, e2⟩ := steps_inf
      obtain rfl : x = up := by rw [hX, ← hup, hi, e1]
      have b2 : (x == 9218868437227405312) = true := by
        have : x = 9218868437227405312 := by omega
        simpa using this
      have L : ∀ w, Calls Try.prog 19 #[.int .u64 dn, .int .u64 x] w fun e w' => e = .returned (.bool true) ∧ Below w.heap.size w w' := fun w => by
        rw [hX, ← hdn]; have h := realLess_any (downN X) X w (by rw [hi]; decide) hx; rwa [show lessN (downN X) X = true by rw [hi]; exact e2] at h
      replace Up := Lib.hid Up
      replace Dn := Lib.hid Dn
      replace L := Lib.hid L
      clear hX hY hup hdn hc h4 e1 e2 hi
      have HB := Lib.hid (Below.refl w.heap.size w)
      go_enter Try.func7, Try.ntmps7
      go_wp2_with fail
      refine (alive5 _).mono ?_
      rintro e wk ⟨rfl, hb⟩
      have HB := Lib.hid (HB.out.trans (hb.mono HB.out.size))
      clear hb
      go_wp2_with fail
      refine (Up.out _).mono ?_
      rintro e wk ⟨rfl, hb⟩
      have HB := Lib.hid (HB.out.trans (hb.mono HB.out.size))
      clear hb
      go_wp2_with fail
      refine (Dn.out _).mono ?_
      rintro e wk ⟨rfl, hb⟩
      have HB := Lib.hid (HB.out.trans (hb.mono HB.out.size))
      clear hb
      go_wp2_with fail
      refine (Cl.out _).mono ?_
      rintro e wk ⟨rfl, hb⟩
      have HB := Lib.hid (HB.out.trans (hb.mono HB.out.size))
      clear hb
      go_wp2_with fail
      refine (L.out _).mono ?_
      rintro e wk ⟨rfl, hb⟩
      have HB := Lib.hid (HB.out.trans (hb.mono HB.out.size))
      clear hb
      go_wp2
      go_ret
      exact ⟨rfl, HB.out⟩
    · have b2 : (x == 9218868437227405312) = false := by
        have : x ≠ 9218868437227405312 := by omega
        simpa using this
      obtain ⟨g1, g2, g3⟩ := ord_up hx h4 hi
      obtain ⟨e1, e2, e3, e4⟩ := steps hx hy h4 hi
      have ld := downN_lt g1
      obtain ⟨z, hz⟩ : ∃ k : Int, ((downN (upN X) : Nat) : Int) = k := ⟨_, rfl⟩
      obtain ⟨p, hp⟩ : ∃ p, lessN X Y = p := ⟨_, rfl⟩
      have P : ∀ w, Calls Try.prog 19 #[.int .u64 x, .int .u64 y] w fun e w' => e = .returned (.bool p) ∧ Below w.heap.size w w' := fun w => by
        rw [hX, hY, ← hp]; exact realLess_any X Y w hx hy
      have Q : p = true → ∀ w, Calls Try.prog 19 #[.int .u64 y, .int .u64 up] w fun e w' => e = .returned (.bool false) ∧ Below w.heap.size w w' := fun h w => by
        rw [hY, ← hup]; have h5 := realLess_any Y (upN X) w hy g1; rwa [e2 (hp.trans h)] at h5
      have R : ∀ w, Calls Try.prog 19 #[.int .u64 x, .int .u64 up] w fun e w' => e = .returned (.bool true) ∧ Below w.heap.size w w' := fun w => by
        rw [hX, ← hup]; have h := realLess_any X (upN X) w hx g1; rwa [e1] at h
      have D : ∀ w, Calls Try.prog 29 #[.int .u64 up] w fun e w' => e = .returned (.int .u64 z) ∧ Below w.heap.size w w' := fun w => by
        rw [← hup, ← hz]; exact realDown_any (upN X) w g1
      have S : ∀ w, Calls Try.prog 21 #[.int .u64 z, .int .u64 x] w fun e w' => e = .returned (.bool true) ∧ Below w.heap.size w w' := fun w => by
        rw [hX, ← hz]; have h := realSame_any (downN (upN X)) X w ld hx; rwa [e3] at h
      replace P := Lib.hid P
      replace Q := Lib.hid Q
      replace R := Lib.hid R
      replace D := Lib.hid D
      replace S := Lib.hid S
      by_cases hm : X = 18442240474082181120
      · have b3 : (x == 18442240474082181120) = true := by
          have : x = 18442240474082181120 := by omega
          simpa using this
        obtain rfl : x = dn := by rw [hX, ← hdn, hm, down_inf]
        replace Up := Lib.hid Up
        replace Dn := Lib.hid Dn
        clear hX hY hup hdn hc h4 hm hi e1 e2 e3 e4 g1 g2 g3 hz ld hp
        cases p with
        | true =>
          replace Q := Lib.hid (Q.out rfl)
          have HB := Lib.hid (Below.refl w.heap.size w)
          go_enter Try.func7, Try.ntmps7
          go_wp2_with fail
          refine (alive5 _).mono ?_
          rintro e wk ⟨rfl, hb⟩
          have HB := Lib.hid (HB.out.trans (hb.mono HB.out.size))
          clear hb
          go_wp2_with fail
          refine (Up.out _).mono ?_
          rintro e wk ⟨rfl, hb⟩
          have HB := Lib.hid (HB.out.trans (hb.mono HB.out.size))
          clear hb
          go_wp2_with fail
          refine (Dn.out _).mono ?_
          rintro e wk ⟨rfl, hb⟩
          have HB := Lib.hid (HB.out.trans (hb.mono HB.out.size))
          clear hb
          go_wp2_with fail
          refine (Cl.out _).mono ?_
          rintro e wk ⟨rfl, hb⟩
          have HB := Lib.hid (HB.out.trans (hb.mono HB.out.size))
          clear hb
          go_wp2_with fail
          refine (P.out _).mono ?_
          rintro e wk ⟨rfl, hb⟩
          have HB := Lib.hid (HB.out.trans (hb.mono HB.out.size))
          clear hb
          go_wp2_with fail
          refine (Q.out _).mono ?_
          rintro e wk ⟨rfl, hb⟩
          have HB := Lib.hid (HB.out.trans (hb.mono HB.out.size))
          clear hb
          go_wp2_with fail
          refine (R.out _).mono ?_
          rintro e wk ⟨rfl, hb⟩
          have HB := Lib.hid (HB.out.trans (hb.mono HB.out.size))
          clear hb
          go_wp2_with fail
          refine (D.out _).mono ?_
          rintro e wk ⟨rfl, hb⟩
          have HB := Lib.hid (HB.out.trans (hb.mono HB.out.size))
          clear hb
          go_wp2_with fail
          refine (S.out _).mono ?_
          rintro e wk ⟨rfl, hb⟩
          have HB := Lib.hid (HB.out.trans (hb.mono HB.out.size))
          clear hb
          go_wp2
          go_ret
          exact ⟨rfl, HB.out⟩
        | false =>
          clear Q
          have HB := Lib.hid (Below.refl w.heap.size w)
          go_enter Try.func7, Try.ntmps7
          go_wp2_with fail
          refine (alive5 _).mono ?_
          rintro e wk ⟨rfl, hb⟩
          have HB := Lib.hid (HB.out.trans (hb.mono HB.out.size))
          clear hb
          go_wp2_with fail
          refine (Up.out _).mono ?_
          rintro e wk ⟨rfl, hb⟩
          have HB := Lib.hid (HB.out.trans (hb.mono HB.out.size))
          clear hb
          go_wp2_with fail
          refine (Dn.out _).mono ?_
          rintro e wk ⟨rfl, hb⟩
          have HB := Lib.hid (HB.out.trans (hb.mono HB.out.size))
          clear hb
          go_wp2_with fail
          refine (Cl.out _).mono ?_
          rintro e wk ⟨rfl, hb⟩
          have HB := Lib.hid (HB.out.trans (hb.mono HB.out.size))
          clear hb
          go_wp2_with fail
          refine (P.out _).mono ?_
          rintro e wk ⟨rfl, hb⟩
          have HB := Lib.hid (HB.out.trans (hb.mono HB.out.size))
          clear hb
          go_wp2_with fail
          refine (R.out _).mono ?_
          rintro e wk ⟨rfl, hb⟩
          have HB := Lib.hid (HB.out.trans (hb.mono HB.out.size))
          clear hb
          go_wp2_with fail
          refine (D.out _).mono ?_
          rintro e wk ⟨rfl, hb⟩
          have HB := Lib.hid (HB.out.trans (hb.mono HB.out.size))
          clear hb
          go_wp2_with fail
          refine (S.out _).mono ?_
          rintro e wk ⟨rfl, hb⟩
          have HB := Lib.hid (HB.out.trans (hb.mono HB.out.size))
          clear hb
          go_wp2
          go_ret
          exact ⟨rfl, HB.out⟩
      · have b3 : (x == 18442240474082181120) = false := by
          have : x ≠ 18442240474082181120 := by omega
          simpa using this
        obtain ⟨k1, k2, k3⟩ := ord_down hx h4 hm
        obtain ⟨f1, f2⟩ := e4 hm
        have lu := upN_lt k1
        obtain ⟨v, hv⟩ : ∃ k : Int, ((upN (downN X) : Nat) : Int) = k := ⟨_, rfl⟩
        have T : ∀ w, Calls Try.prog 19 #[.int .u64 dn, .int .u64 x] w fun e w' => e = .returned (.bool true) ∧ Below w.heap.size w w' := fun w => by
          rw [hX, ← hdn]; have h := realLess_any (downN X) X w k1 hx; rwa [f1] at h
        have U : ∀ w, Calls Try.prog 27 #[.int .u64 dn] w fun e w' => e = .returned (.int .u64 v) ∧ Below w.heap.size w w' := fun w => by
          rw [← hdn, ← hv]; exact realUp_any (downN X) w k1
        have V : ∀ w, Calls Try.prog 21 #[.int .u64 v, .int .u64 x] w fun e w' => e = .returned (.bool true) ∧ Below w.heap.size w w' := fun w => by
          rw [hX, ← hv]; have h := realSame_any (upN (downN X)) X w lu hx; rwa [f2] at h
        replace T := Lib.hid T
        replace U := Lib.hid U
        replace V := Lib.hid V
        replace Up := Lib.hid Up
        replace Dn := Lib.hid Dn
        clear hX hY hup hdn hc h4 hm hi e1 e2 e3 e4 g1 g2 g3 hz ld hp f1 f2 lu hv k1 k2 k3
        cases p with
        | true =>
          replace Q := Lib.hid (Q.out rfl)
          have HB := Lib.hid (Below.refl w.heap.size w)
          go_enter Try.func7, Try.ntmps7
          go_wp2_with fail
          refine (alive5 _).mono ?_
          rintro e wk ⟨rfl, hb⟩
          have HB := Lib.hid (HB.out.trans (hb.mono HB.out.size))
          clear hb
          go_wp2_with fail
          refine (Up.out _).mono ?_
          rintro e wk ⟨rfl, hb⟩
          have HB := Lib.hid (HB.out.trans (hb.mono HB.out.size))
          clear hb
          go_wp2_with fail
          refine (Dn.out _).mono ?_
          rintro e wk ⟨rfl, hb⟩
          have HB := Lib.hid (HB.out.trans (hb.mono HB.out.size))
          clear hb
          go_wp2_with fail
          refine (Cl.out _).mono ?_
          rintro e wk ⟨rfl, hb⟩
          have HB := Lib.hid (HB.out.trans (hb.mono HB.out.size))
          clear hb
          go_wp2_with fail
          refine (P.out _).mono ?_
          rintro e wk ⟨rfl, hb⟩
          have HB := Lib.hid (HB.out.trans (hb.mono HB.out.size))
          clear hb
          go_wp2_with fail
          refine (Q.out _).mono ?_
          rintro e wk ⟨rfl, hb⟩
          have HB := Lib.hid (HB.out.trans (hb.mono HB.out.size))
          clear hb
          go_wp2_with fail
          refine (R.out _).mono ?_
          rintro e wk ⟨rfl, hb⟩
          have HB := Lib.hid (HB.out.trans (hb.mono HB.out.size))
          clear hb
          go_wp2_with fail
          refine (D.out _).mono ?_
          rintro e wk ⟨rfl, hb⟩
          have HB := Lib.hid (HB.out.trans (hb.mono HB.out.size))
          clear hb
          go_wp2_with fail
          refine (S.out _).mono ?_
          rintro e wk ⟨rfl, hb⟩
          have HB := Lib.hid (HB.out.trans (hb.mono HB.out.size))
          clear hb
          go_wp2_with fail
          refine (T.out _).mono ?_
          rintro e wk ⟨rfl, hb⟩
          have HB := Lib.hid (HB.out.trans (hb.mono HB.out.size))
          clear hb
          go_wp2_with fail
          refine (U.out _).mono ?_
          rintro e wk ⟨rfl, hb⟩
          have HB := Lib.hid (HB.out.trans (hb.mono HB.out.size))
          clear hb
          go_wp2_with fail
          refine (V.out _).mono ?_
          rintro e wk ⟨rfl, hb⟩
          have HB := Lib.hid (HB.out.trans (hb.mono HB.out.size))
          clear hb
          go_wp2
          go_ret
          exact ⟨rfl, HB.out⟩
        | false =>
          clear Q
          have HB := Lib.hid (Below.refl w.heap.size w)
          go_enter Try.func7, Try.ntmps7
          go_wp2_with fail
          refine (alive5 _).mono ?_
          rintro e wk ⟨rfl, hb⟩
          have HB := Lib.hid (HB.out.trans (hb.mono HB.out.size))
          clear hb
          go_wp2_with fail
          refine (Up.out _).mono ?_
          rintro e wk ⟨rfl, hb⟩
          have HB := Lib.hid (HB.out.trans (hb.mono HB.out.size))
          clear hb
          go_wp2_with fail
          refine (Dn.out _).mono ?_
          rintro e wk ⟨rfl, hb⟩
          have HB := Lib.hid (HB.out.trans (hb.mono HB.out.size))
          clear hb
          go_wp2_with fail
          refine (Cl.out _).mono ?_
          rintro e wk ⟨rfl, hb⟩
          have HB := Lib.hid (HB.out.trans (hb.mono HB.out.size))
          clear hb
          go_wp2_with fail
          refine (P.out _).mono ?_
          rintro e wk ⟨rfl, hb⟩
          have HB := Lib.hid (HB.out.trans (hb.mono HB.out.size))
          clear hb
          go_wp2_with fail
          refine (R.out _).mono ?_
          rintro e wk ⟨rfl, hb⟩
          have HB := Lib.hid (HB.out.trans (hb.mono HB.out.size))
          clear hb
          go_wp2_with fail
          refine (D.out _).mono ?_
          rintro e wk ⟨rfl, hb⟩
          have HB := Lib.hid (HB.out.trans (hb.mono HB.out.size))
          clear hb
          go_wp2_with fail
          refine (S.out _).mono ?_
          rintro e wk ⟨rfl, hb⟩
          have HB := Lib.hid (HB.out.trans (hb.mono HB.out.size))
          clear hb
          go_wp2_with fail
          refine (T.out _).mono ?_
          rintro e wk ⟨rfl, hb⟩
          have HB := Lib.hid (HB.out.trans (hb.mono HB.out.size))
          clear hb
          go_wp2_with fail
          refine (U.out _).mono ?_
          rintro e wk ⟨rfl, hb⟩
          have HB := Lib.hid (HB.out.trans (hb.mono HB.out.size))
          clear hb
          go_wp2_with fail
          refine (V.out _).mono ?_
          rintro e wk ⟨rfl, hb⟩
          have HB := Lib.hid (HB.out.trans (hb.mono HB.out.size))
          clear hb
          go_wp2
          go_ret
          exact ⟨rfl, HB.out⟩
end Go.Proofs.Ytemdhlajdmkppaa
