/- The walk of RealBack: it answers true, over any world; no condition. -/
import Derived.Test.YtemdhlajdmkppaaRealT
namespace Go.Proofs.Ytemdhlajdmkppaa
set_option linter.unusedVariables false
set_option linter.unusedSimpArgs false
open Go.RowKit
open Ieee

set_option maxRecDepth 100000 in
set_option maxHeartbeats 4000000 in
theorem back5_walk (i j : Int) (w : World) (i0 : (Lit.int .i64 i).wf = true) (j0 : (Lit.int .i64 j).wf = true) :
    Calls Try.prog 8 #[.int .i64 i, .int .i64 j] w fun e w' => e = .returned (.bool true) ∧ Below w.heap.size w w' := by
  have hi := bounds_i64 i0
  have hj := bounds_i64 j0
  have la := fromS_lt (i := i) (by omega) (by omega)
  have lb := fromS_lt (i := j) (by omega) (by omega)
  have hcl := fromS_cls (i := i) (by omega) (by omega)
  obtain ⟨a, ha⟩ : ∃ k : Int, ((fromS i : Nat) : Int) = k := ⟨_, rfl⟩
  obtain ⟨b, hb⟩ : ∃ k : Int, ((fromS j : Nat) : Int) = k := ⟨_, rfl⟩
  obtain ⟨c, hc⟩ : ∃ k : Int, ((clsN (fromS i) : Nat) : Int) = k := ⟨_, rfl⟩
  have A : ∀ w, Calls Try.prog 39 #[.int .i64 i] w fun e w' => e = .returned (.int .u64 a) ∧ Below w.heap.size w w' := fun w => by
    rw [← ha]; exact realFromInt_any i w (by omega) (by omega)
  have B : ∀ w, Calls Try.prog 39 #[.int .i64 j] w fun e w' => e = .returned (.int .u64 b) ∧ Below w.heap.size w w' := fun w => by
    rw [← hb]; exact realFromInt_any j w (by omega) (by omega)
  have Cl : ∀ w, Calls Try.prog 11 #[.int .u64 a] w fun e w' => e = .returned (.int .i64 c) ∧ Below w.heap.size w w' := fun w => by
    rw [← ha, ← hc]; exact realClass_any (fromS i) w la
  have T : -9007199254740992 ≤ i → i ≤ 9007199254740992 → ∀ w, Calls Try.prog 41 #[.int .u64 a] w fun e w' => e = .returned (.int .i64 i) ∧ Below w.heap.size w w' := fun h1 h2 w => by
    rw [← ha]; have h := realToInt_any (fromS i) w la; rwa [toInt_back h1 h2] at h
  have K : 1 ≤ i → i ≤ 1099511627776 → ∀ w, Calls Try.prog 43 #[.int .u64 a] w fun e w' => e = .returned (.int .i64 i) ∧ Below w.heap.size w w' := fun h1 h2 w => by
    rw [← ha]; have h := realTicks_any (fromS i) w la; rwa [ticks_back h1 h2] at h
  have Z : i ≤ 0 → ∀ w, Calls Try.prog 43 #[.int .u64 a] w fun e w' => e = .returned (.int .i64 0) ∧ Below w.heap.size w w' := fun h1 w => by
    rw [← ha]; have h := realTicks_any (fromS i) w la; rwa [ticks_zero (by omega) h1] at h
  have L : i ≤ j → ∀ w, Calls Try.prog 19 #[.int .u64 b, .int .u64 a] w fun e w' => e = .returned (.bool false) ∧ Below w.heap.size w w' := fun h1 w => by
    rw [← ha, ← hb]; have h := realLess_any (fromS j) (fromS i) w lb la; rwa [fromS_mono (by omega) (by omega) (by omega) (by omega) h1] at h
  replace A := Lib.hid A
  replace B := Lib.hid B
  replace Cl := Lib.hid Cl
  replace T := Lib.hid T
  replace K := Lib.hid K
  replace Z := Lib.hid Z
  replace L := Lib.hid L
  have b1 : (c != 4) = true := by
    have : c ≠ 4 := by omega
    simpa using this
  have b2 : (c != 3) = true := by
    have : c ≠ 3 := by omega
    simpa using this
  clear ha hb hc hcl la lb i0 j0
  by_cases hm : (-9007199254740992 : Int) ≤ i
  · by_cases hn : i ≤ 9007199254740992
    · by_cases hp : i < 1
      · by_cases hg : j < i
        · have b3 : decide (j < i) = true := by simpa using hg
          have f1 : decide ((-9007199254740992 : Int) ≤ i) = true := by simp; omega
          have f2 : decide (i ≤ 9007199254740992) = true := by simp; omega
          have f4 : decide (i < 1) = true := by simp; omega
          have f5 : decide (0 < i) = false := by simp; omega
          replace T := Lib.hid (T.out hm hn)
          replace Z := Lib.hid (Z.out (by omega))
          clear hg hm hn hp hi hj
          have HB := Lib.hid (Below.refl w.heap.size w)
          go_enter Try.func8, Try.ntmps8
          go_wp2_with fail
          refine (alive5 _).mono ?_
          rintro e wk ⟨rfl, hb⟩
          have HB := Lib.hid (HB.out.trans (hb.mono HB.out.size))
          clear hb
          go_wp2_with fail
          refine (A.out _).mono ?_
          rintro e wk ⟨rfl, hb⟩
          have HB := Lib.hid (HB.out.trans (hb.mono HB.out.size))
          clear hb
          go_wp2_with fail
          refine (B.out _).mono ?_
          rintro e wk ⟨rfl, hb⟩
          have HB := Lib.hid (HB.out.trans (hb.mono HB.out.size))
          clear hb
          go_wp2_with fail
          refine (T.out _).mono ?_
          rintro e wk ⟨rfl, hb⟩
          have HB := Lib.hid (HB.out.trans (hb.mono HB.out.size))
          clear hb
          go_wp2_with fail
          refine (Cl.out _).mono ?_
          rintro e wk ⟨rfl, hb⟩
          have HB := Lib.hid (HB.out.trans (hb.mono HB.out.size))
          clear hb
          go_wp2_with fail
          refine (Cl.out _).mono ?_
          rintro e wk ⟨rfl, hb⟩
          have HB := Lib.hid (HB.out.trans (hb.mono HB.out.size))
          clear hb
          go_wp2_with fail
          refine (Z.out _).mono ?_
          rintro e wk ⟨rfl, hb⟩
          have HB := Lib.hid (HB.out.trans (hb.mono HB.out.size))
          clear hb
          go_wp2
          go_ret
          exact ⟨rfl, HB.out⟩
        · have b3 : decide (j < i) = false := by simpa using hg
          have f1 : decide ((-9007199254740992 : Int) ≤ i) = true := by simp; omega
          have f2 : decide (i ≤ 9007199254740992) = true := by simp; omega
          have f4 : decide (i < 1) = true := by simp; omega
          have f5 : decide (0 < i) = false := by simp; omega
          replace T := Lib.hid (T.out hm hn)
          replace Z := Lib.hid (Z.out (by omega))
          replace L := Lib.hid (L.out (by omega))
          clear hg hm hn hp hi hj
          have HB := Lib.hid (Below.refl w.heap.size w)
          go_enter Try.func8, Try.ntmps8
          go_wp2_with fail
          refine (alive5 _).mono ?_
          rintro e wk ⟨rfl, hb⟩
          have HB := Lib.hid (HB.out.trans (hb.mono HB.out.size))
          clear hb
          go_wp2_with fail
          refine (A.out _).mono ?_
          rintro e wk ⟨rfl, hb⟩
          have HB := Lib.hid (HB.out.trans (hb.mono HB.out.size))
          clear hb
          go_wp2_with fail
          refine (B.out _).mono ?_
          rintro e wk ⟨rfl, hb⟩
          have HB := Lib.hid (HB.out.trans (hb.mono HB.out.size))
          clear hb
          go_wp2_with fail
          refine (T.out _).mono ?_
          rintro e wk ⟨rfl, hb⟩
          have HB := Lib.hid (HB.out.trans (hb.mono HB.out.size))
          clear hb
          go_wp2_with fail
          refine (L.out _).mono ?_
          rintro e wk ⟨rfl, hb⟩
          have HB := Lib.hid (HB.out.trans (hb.mono HB.out.size))
          clear hb
          go_wp2_with fail
          refine (Cl.out _).mono ?_
          rintro e wk ⟨rfl, hb⟩
          have HB := Lib.hid (HB.out.trans (hb.mono HB.out.size))
          clear hb
          go_wp2_with fail
          refine (Cl.out _).mono ?_
          rintro e wk ⟨rfl, hb⟩
          have HB := Lib.hid (HB.out.trans (hb.mono HB.out.size))
          clear hb
          go_wp2_with fail
          refine (Z.out _).mono ?_
          rintro e wk ⟨rfl, hb⟩
          have HB := Lib.hid (HB.out.trans (hb.mono HB.out.size))
          clear hb
          go_wp2
          go_ret
          exact ⟨rfl, HB.out⟩
      · by_cases hq : i ≤ 1099511627776
        · by_cases hg : j < i
          · have b3 : decide (j < i) = true := by simpa using hg
            have f1 : decide ((-9007199254740992 : Int) ≤ i) = true := by simp; omega
            have f2 : decide (i ≤ 9007199254740992) = true := by simp; omega
            have f4 : decide (i < 1) = false := by simp; omega
            have f5 : decide (0 < i) = true := by simp; omega
            have f6 : decide ((1099511627776 : Int) < i) = false := by simp; omega
            replace T := Lib.hid (T.out hm hn)
            replace K := Lib.hid (K.out (by omega) hq)
            clear hg hm hn hp hq hi hj
            have HB := Lib.hid (Below.refl w.heap.size w)
            go_enter Try.func8, Try.ntmps8
            go_wp2_with fail
            refine (alive5 _).mono ?_
            rintro e wk ⟨rfl, hb⟩
            have HB := Lib.hid (HB.out.trans (hb.mono HB.out.size))
            clear hb
            go_wp2_with fail
            refine (A.out _).mono ?_
            rintro e wk ⟨rfl, hb⟩
            have HB := Lib.hid (HB.out.trans (hb.mono HB.out.size))
            clear hb
            go_wp2_with fail
            refine (B.out _).mono ?_
            rintro e wk ⟨rfl, hb⟩
            have HB := Lib.hid (HB.out.trans (hb.mono HB.out.size))
            clear hb
            go_wp2_with fail
            refine (T.out _).mono ?_
            rintro e wk ⟨rfl, hb⟩
            have HB := Lib.hid (HB.out.trans (hb.mono HB.out.size))
            clear hb
            go_wp2_with fail
            refine (Cl.out _).mono ?_
            rintro e wk ⟨rfl, hb⟩
            have HB := Lib.hid (HB.out.trans (hb.mono HB.out.size))
            clear hb
            go_wp2_with fail
            refine (Cl.out _).mono ?_
            rintro e wk ⟨rfl, hb⟩
            have HB := Lib.hid (HB.out.trans (hb.mono HB.out.size))
            clear hb
            go_wp2_with fail
            refine (K.out _).mono ?_
            rintro e wk ⟨rfl, hb⟩
            have HB := Lib.hid (HB.out.trans (hb.mono HB.out.size))
            clear hb
            go_wp2
            go_ret
            exact ⟨rfl, HB.out⟩
          · have b3 : decide (j < i) = false := by simpa using hg
            have f1 : decide ((-9007199254740992 : Int) ≤ i) = true := by simp; omega
            have f2 : decide (i ≤ 9007199254740992) = true := by simp; omega
            have f4 : decide (i < 1) = false := by simp; omega
            have f5 : decide (0 < i) = true := by simp; omega
            have f6 : decide ((1099511627776 : Int) < i) = false := by simp; omega
            replace T := Lib.hid (T.out hm hn)
            replace K := Lib.hid (K.out (by omega) hq)
            replace L := Lib.hid (L.out (by omega))
            clear hg hm hn hp hq hi hj
            have HB := Lib.hid (Below.refl w.heap.size w)
            go_enter Try.func8, Try.ntmps8
            go_wp2_with fail
            refine (alive5 _).mono ?_
            rintro e wk ⟨rfl, hb⟩
            have HB := Lib.hid (HB.out.trans (hb.mono HB.out.size))
            clear hb
            go_wp2_with fail
            refine (A.out _).mono ?_
            rintro e wk ⟨rfl, hb⟩
            have HB := Lib.hid (HB.out.trans (hb.mono HB.out.size))
            clear hb
            go_wp2_with fail
            refine (B.out _).mono ?_
            rintro e wk ⟨rfl, hb⟩
            have HB := Lib.hid (HB.out.trans (hb.mono HB.out.size))
            clear hb
            go_wp2_with fail
            refine (T.out _).mono ?_
            rintro e wk ⟨rfl, hb⟩
            have HB := Lib.hid (HB.out.trans (hb.mono HB.out.size))
            clear hb
            go_wp2_with fail
            refine (L.out _).mono ?_
            rintro e wk ⟨rfl, hb⟩
            have HB := Lib.hid (HB.out.trans (hb.mono HB.out.size))
            clear hb
            go_wp2_with fail
            refine (Cl.out _).mono ?_
            rintro e wk ⟨rfl, hb⟩
            have HB := Lib.hid (HB.out.trans (hb.mono HB.out.size))
            clear hb
            go_wp2_with fail
            refine (Cl.out _).mono ?_
            rintro e wk ⟨rfl, hb⟩
            have HB := Lib.hid (HB.out.trans (hb.mono HB.out.size))
            clear hb
            go_wp2_with fail
            refine (K.out _).mono ?_
            rintro e wk ⟨rfl, hb⟩
            have HB := Lib.hid (HB.out.trans (hb.mono HB.out.size))
            clear hb
            go_wp2
            go_ret
            exact ⟨rfl, HB.out⟩
        · by_cases hg : j < i
          · have b3 : decide (j < i) = true := by simpa using hg
            have f1 : decide ((-9007199254740992 : Int) ≤ i) = true := by simp; omega
            have f2 : decide (i ≤ 9007199254740992) = true := by simp; omega
            have f4 : decide (i < 1) = false := by simp; omega
            have f5 : decide (0 < i) = true := by simp; omega
            have f6 : decide ((1099511627776 : Int) < i) = true := by simp; omega
            replace T := Lib.hid (T.out hm hn)
            clear hg hm hn hp hq hi hj
            have HB := Lib.hid (Below.refl w.heap.size w)
            go_enter Try.func8, Try.ntmps8
            go_wp2_with fail
            refine (alive5 _).mono ?_
            rintro e wk ⟨rfl, hb⟩
            have HB := Lib.hid (HB.out.trans (hb.mono HB.out.size))
            clear hb
            go_wp2_with fail
            refine (A.out _).mono ?_
            rintro e wk ⟨rfl, hb⟩
            have HB := Lib.hid (HB.out.trans (hb.mono HB.out.size))
            clear hb
            go_wp2_with fail
            refine (B.out _).mono ?_
            rintro e wk ⟨rfl, hb⟩
            have HB := Lib.hid (HB.out.trans (hb.mono HB.out.size))
            clear hb
            go_wp2_with fail
            refine (T.out _).mono ?_
            rintro e wk ⟨rfl, hb⟩
            have HB := Lib.hid (HB.out.trans (hb.mono HB.out.size))
            clear hb
            go_wp2_with fail
            refine (Cl.out _).mono ?_
            rintro e wk ⟨rfl, hb⟩
            have HB := Lib.hid (HB.out.trans (hb.mono HB.out.size))
            clear hb
            go_wp2_with fail
            refine (Cl.out _).mono ?_
            rintro e wk ⟨rfl, hb⟩
            have HB := Lib.hid (HB.out.trans (hb.mono HB.out.size))
            clear hb
            go_wp2
            go_ret
            exact ⟨rfl, HB.out⟩
          · have b3 : decide (j < i) = false := by simpa using hg
            have f1 : decide ((-9007199254740992 : Int) ≤ i) = true := by simp; omega
            have f2 : decide (i ≤ 9007199254740992) = true := by simp; omega
            have f4 : decide (i < 1) = false := by simp; omega
            have f5 : decide (0 < i) = true := by simp; omega
            have f6 : decide ((1099511627776 : Int) < i) = true := by simp; omega
            replace T := Lib.hid (T.out hm hn)
            replace L := Lib.hid (L.out (by omega))
            clear hg hm hn hp hq hi hj
            have HB := Lib.hid (Below.refl w.heap.size w)
            go_enter Try.func8, Try.ntmps8
            go_wp2_with fail
            refine (alive5 _).mono ?_
            rintro e wk ⟨rfl, hb⟩
            have HB := Lib.hid (HB.out.trans (hb.mono HB.out.size))
            clear hb
            go_wp2_with fail
            refine (A.out _).mono ?_
            rintro e wk ⟨rfl, hb⟩
            have HB := Lib.hid (HB.out.trans (hb.mono HB.out.size))
            clear hb
            go_wp2_with fail
            refine (B.out _).mono ?_
            rintro e wk ⟨rfl, hb⟩
            have HB := Lib.hid (HB.out.trans (hb.mono HB.out.size))
            clear hb
            go_wp2_with fail
            refine (T.out _).mono ?_
            rintro e wk ⟨rfl, hb⟩
            have HB := Lib.hid (HB.out.trans (hb.mono HB.out.size))
            clear hb
            go_wp2_with fail
            refine (L.out _).mono ?_
            rintro e wk ⟨rfl, hb⟩
            have HB := Lib.hid (HB.out.trans (hb.mono HB.out.size))
            clear hb
            go_wp2_with fail
            refine (Cl.out _).mono ?_
            rintro e wk ⟨rfl, hb⟩
            have HB := Lib.hid (HB.out.trans (hb.mono HB.out.size))
            clear hb
            go_wp2_with fail
            refine (Cl.out _).mono ?_
            rintro e wk ⟨rfl, hb⟩
            have HB := Lib.hid (HB.out.trans (hb.mono HB.out.size))
            clear hb
            go_wp2
            go_ret
            exact ⟨rfl, HB.out⟩
    · by_cases hg : j < i
      · have b3 : decide (j < i) = true := by simpa using hg
        have f1 : decide ((-9007199254740992 : Int) ≤ i) = true := by simp; omega
        have f2 : decide (i ≤ 9007199254740992) = false := by simp; omega
        have f4 : decide (i < 1) = false := by simp; omega
        have f5 : decide (0 < i) = true := by simp; omega
        have f6 : decide ((1099511627776 : Int) < i) = true := by simp; omega
        clear hg hm hn hi hj
        have HB := Lib.hid (Below.refl w.heap.size w)
        go_enter Try.func8, Try.ntmps8
        go_wp2_with fail
        refine (alive5 _).mono ?_
        rintro e wk ⟨rfl, hb⟩
        have HB := Lib.hid (HB.out.trans (hb.mono HB.out.size))
        clear hb
        go_wp2_with fail
        refine (A.out _).mono ?_
        rintro e wk ⟨rfl, hb⟩
        have HB := Lib.hid (HB.out.trans (hb.mono HB.out.size))
        clear hb
        go_wp2_with fail
        refine (B.out _).mono ?_
        rintro e wk ⟨rfl, hb⟩
        have HB := Lib.hid (HB.out.trans (hb.mono HB.out.size))
        clear hb
        go_wp2_with fail
        refine (Cl.out _).mono ?_
        rintro e wk ⟨rfl, hb⟩
        have HB := Lib.hid (HB.out.trans (hb.mono HB.out.size))
        clear hb
        go_wp2_with fail
        refine (Cl.out _).mono ?_
        rintro e wk ⟨rfl, hb⟩
        have HB := Lib.hid (HB.out.trans (hb.mono HB.out.size))
        clear hb
        go_wp2
        go_ret
        exact ⟨rfl, HB.out⟩
      · have b3 : decide (j < i) = false := by simpa using hg
        have f1 : decide ((-9007199254740992 : Int) ≤ i) = true := by simp; omega
        have f2 : decide (i ≤ 9007199254740992) = false := by simp; omega
        have f4 : decide (i < 1) = false := by simp; omega
        have f5 : decide (0 < i) = true := by simp; omega
        have f6 : decide ((1099511627776 : Int) < i) = true := by simp; omega
        replace L := Lib.hid (L.out (by omega))
        clear hg hm hn hi hj
        have HB := Lib.hid (Below.refl w.heap.size w)
        go_enter Try.func8, Try.ntmps8
        go_wp2_with fail
        refine (alive5 _).mono ?_
        rintro e wk ⟨rfl, hb⟩
        have HB := Lib.hid (HB.out.trans (hb.mono HB.out.size))
        clear hb
        go_wp2_with fail
        refine (A.out _).mono ?_
        rintro e wk ⟨rfl, hb⟩
        have HB := Lib.hid (HB.out.trans (hb.mono HB.out.size))
        clear hb
        go_wp2_with fail
        refine (B.out _).mono ?_
        rintro e wk ⟨rfl, hb⟩
        have HB := Lib.hid (HB.out.trans (hb.mono HB.out.size))
        clear hb
        go_wp2_with fail
        refine (L.out _).mono ?_
        rintro e wk ⟨rfl, hb⟩
        have HB := Lib.hid (HB.out.trans (hb.mono HB.out.size))
        clear hb
        go_wp2_with fail
        refine (Cl.out _).mono ?_
        rintro e wk ⟨rfl, hb⟩
        have HB := Lib.hid (HB.out.trans (hb.mono HB.out.size))
        clear hb
        go_wp2_with fail
        refine (Cl.out _).mono ?_
        rintro e wk ⟨rfl, hb⟩
        have HB := Lib.hid (HB.out.trans (hb.mono HB.out.size))
        clear hb
        go_wp2
        go_ret
        exact ⟨rfl, HB.out⟩
  · by_cases hg : j < i
    · have b3 : decide (j < i) = true := by simpa using hg
      have f1 : decide ((-9007199254740992 : Int) ≤ i) = false := by simp; omega
      have f4 : decide (i < 1) = true := by simp; omega
      have f5 : decide (0 < i) = false := by simp; omega
      replace Z := Lib.hid (Z.out (by omega))
      clear hg hm hi hj
      have HB := Lib.hid (Below.refl w.heap.size w)
      go_enter Try.func8, Try.ntmps8
      go_wp2_with fail
      refine (alive5 _).mono ?_
      rintro e wk ⟨rfl, hb⟩
      have HB := Lib.hid (HB.out.trans (hb.mono HB.out.size))
      clear hb
      go_wp2_with fail
      refine (A.out _).mono ?_
      rintro e wk ⟨rfl, hb⟩
      have HB := Lib.hid (HB.out.trans (hb.mono HB.out.size))
      clear hb
      go_wp2_with fail
      refine (B.out _).mono ?_
      rintro e wk ⟨rfl, hb⟩
      have HB := Lib.hid (HB.out.trans (hb.mono HB.out.size))
      clear hb
      go_wp2_with fail
      refine (Cl.out _).mono ?_
      rintro e wk ⟨rfl, hb⟩
      have HB := Lib.hid (HB.out.trans (hb.mono HB.out.size))
      clear hb
      go_wp2_with fail
      refine (Cl.out _).mono ?_
      rintro e wk ⟨rfl, hb⟩
      have HB := Lib.hid (HB.out.trans (hb.mono HB.out.size))
      clear hb
      go_wp2_with fail
      refine (Z.out _).mono ?_
      rintro e wk ⟨rfl, hb⟩
      have HB := Lib.hid (HB.out.trans (hb.mono HB.out.size))
      clear hb
      go_wp2
      go_ret
      exact ⟨rfl, HB.out⟩
    · have b3 : decide (j < i) = false := by simpa using hg
      have f1 : decide ((-9007199254740992 : Int) ≤ i) = false := by simp; omega
      have f4 : decide (i < 1) = true := by simp; omega
      have f5 : decide (0 < i) = false := by simp; omega
      replace Z := Lib.hid (Z.out (by omega))
      replace L := Lib.hid (L.out (by omega))
      clear hg hm hi hj
      have HB := Lib.hid (Below.refl w.heap.size w)
      go_enter Try.func8, Try.ntmps8
      go_wp2_with fail
      refine (alive5 _).mono ?_
      rintro e wk ⟨rfl, hb⟩
      have HB := Lib.hid (HB.out.trans (hb.mono HB.out.size))
      clear hb
      go_wp2_with fail
      refine (A.out _).mono ?_
      rintro e wk ⟨rfl, hb⟩
      have HB := Lib.hid (HB.out.trans (hb.mono HB.out.size))
      clear hb
      go_wp2_with fail
      refine (B.out _).mono ?_
      rintro e wk ⟨rfl, hb⟩
      have HB := Lib.hid (HB.out.trans (hb.mono HB.out.size))
      clear hb
      go_wp2_with fail
      refine (L.out _).mono ?_
      rintro e wk ⟨rfl, hb⟩
      have HB := Lib.hid (HB.out.trans (hb.mono HB.out.size))
      clear hb
      go_wp2_with fail
      refine (Cl.out _).mono ?_
      rintro e wk ⟨rfl, hb⟩
      have HB := Lib.hid (HB.out.trans (hb.mono HB.out.size))
      clear hb
      go_wp2_with fail
      refine (Cl.out _).mono ?_
      rintro e wk ⟨rfl, hb⟩
      have HB := Lib.hid (HB.out.trans (hb.mono HB.out.size))
      clear hb
      go_wp2_with fail
      refine (Z.out _).mono ?_
      rintro e wk ⟨rfl, hb⟩
      have HB := Lib.hid (HB.out.trans (hb.mono HB.out.size))
      clear hb
      go_wp2
      go_ret
      exact ⟨rfl, HB.out⟩
end Go.Proofs.Ytemdhlajdmkppaa
