/- What the document's own Many and counted of layer 13 answer; for slices of up to 16384 bytes. -/
import Derived.Test.YtkoodhnfphmbnaaCodE
namespace Go.Proofs.Ytkoodhnfphmbnaa
set_option linter.unusedVariables false
set_option linter.unusedSimpArgs false
open Go.RowKit
/-- numbers of the call's own, a place, and what was wrong. -/
def ManyC (w : World) (r : List Int × Int × Int) (e : Ending) (w' : World) : Prop := ∃ A n c, e = .returned (.tuple #[.slice A n c, .int .i64 r.2.1, .int .i64 r.2.2]) ∧ w'.ownsRow w.heap.size 3 1 (.slice A n c) n (intC r.1) ∧ Below w.heap.size w w'
theorem many_bad {bs : List Int} {k : Nat} {at_ : Int} {out : List Int} {x nx er : Int} (h : readIntS bs at_ = (x, nx, er)) (he : er ≠ 0) : manyS bs (k + 1) at_ out = ([], 0, er) := by
  show (if (readIntS bs at_).2.2 ≠ 0 then _ else _) = _
  rw [h]; exact if_pos he
theorem many_go {bs : List Int} {k : Nat} {at_ : Int} {out : List Int} {x nx : Int} (h : readIntS bs at_ = (x, nx, 0)) : manyS bs (k + 1) at_ out = manyS bs k nx (out ++ [x]) := by
  show (if (readIntS bs at_).2.2 ≠ 0 then _ else _) = _
  rw [h]; exact if_neg (by simp)
theorem many_len : ∀ {bs : List Int} {n : Nat} {at_ : Int} {out l : List Int} {e : Int}, manyS bs n at_ out = (l, e, 0) → l.length = out.length + n
  | bs, 0, at_, out, l, e, h => by injection h with h1 _; rw [← h1]; rfl
  | bs, n + 1, at_, out, l, e, h => by
    obtain ⟨r, hr⟩ : ∃ r, readIntS bs at_ = r := ⟨_, rfl⟩
    obtain ⟨x, nx, er⟩ := r
    by_cases he : er = 0
    · subst he
      rw [many_go hr] at h
      have := many_len h
      rw [this]; simp; omega
    · rw [many_bad hr he] at h
      injection h with _ h; injection h with _ h; exact absurd h he
set_option maxRecDepth 100000 in
set_option maxHeartbeats 4000000 in
theorem refMany_any (E : Option Addr) (u v : Nat) (bs : List Int) (at0 : Int) (t : Nat) (w : World) (hb : Bs w E u v bs) (hu : u ≤ 16384) (ht : t ≤ 16384) :
    Calls Try.prog 40 #[.slice E u v, .int .i64 at0, .int .i64 (t : Int)] w (ManyC w (manyS bs t at0 [])) := by
  obtain ⟨i5, hi5, hz0, hz1, hz2⟩ := info_of infoInt
  have HI := Lib.hid hi5; have HZ0 := Lib.hid hz0; have HZ1 := Lib.hid hz1; have HZ2 := Lib.hid hz2
  clear hi5 hz0 hz1 hz2
  have RB := Lib.hid hb
  obtain ⟨R, hR⟩ : ∃ R, manyS bs t at0 [] = R := ⟨_, rfl⟩
  rw [hR]
  have HR := Lib.hid hR
  clear hb hR
  go_enter Try.func40, Try.ntmps40
  go_wp2
  go_loopw [1, 9, 10] (fun av ov iv wr => ∃ (i dd : Nat) (O : Option Addr) (at_ : Int) (out : List Int), av = .int .i64 at_ ∧ ov = .slice O i dd ∧ iv = .int .i64 (i : Int) ∧ i ≤ t ∧ Hid (manyS bs (t - i) at_ out = R) ∧ Hid (wr.ownsRow w.heap.size 3 1 (.slice O i dd) i (intC out)) ∧ Hid (Below w.heap.size w wr)) (fun _ _ iv _ => t - (intOf iv).toNat)
  case atStart => exact ⟨0, 0, none, at0, [], rfl, rfl, rfl, by omega, HR.out, World.ownsRow_nil _ _ _ _, Below.refl _ _⟩
  case round =>
    obtain ⟨i, dd, O, at_, out, rfl, rfl, rfl, hi, HM, OW, HB⟩ := hrel
    by_cases hlt : i < t
    · have c1 : decide ((i : Int) < (t : Int)) = true := by simpa using hlt
      have c1n : decide (i < t) = true := by simpa using hlt
      have RI := refVarReadInt_any E u v bs at_ wr (Bs.below RB.out HB.out) hu
      obtain ⟨⟨y, nx, er⟩, hrd⟩ : ∃ r, readIntS bs at_ = r := ⟨_, rfl⟩
      rw [hrd] at RI
      have htk : t - i = (t - (i + 1)) + 1 := by omega
      replace RI := Lib.hid RI
      by_cases he : er = 0
      · subst he
        have HM2 := Lib.hid (show manyS bs (t - (i + 1)) nx (out ++ [y]) = R by rw [← many_go hrd, ← htk]; exact HM.out)
        clear HM hrd htk
        go_wp2_with fail
        refine RI.out.mono ?_
        rintro e wq ⟨rfl, rfl⟩
        obtain ⟨A4, c4, w9, hap4, hown4, hbel4⟩ := eapp_lit (P := Try.prog) (ty := 23) (w0 := wr) (base := w.heap.size) (W := wr) Try.underlying23 HI.out HZ0.out HZ1.out HZ2.out rfl (by decide) OW.out (intC_one _) (intC [y]) (intC_one _) (m := 1) rfl (by unfold maxLen; omega) (by omega) (Below.refl _ wr) HB.out.size
        rw [← intC_app] at hown4
        replace hap4 : (Builtin.append_ #[23, 23] 23 #[_, .slice (some ⟨wr.heap.size, 0, none⟩) 1 1]).run Try.prog (wr.alloc (.cells #[.int .i64 y] 3)) = _ := hap4
        have HO4 := Lib.hid hown4
        have HB4 := Lib.hid (HB.out.trans hbel4)
        clear hown4 hbel4 OW HB
        go_wp2_with (at_builtin; refine eapp_run (by rfl) rfl rfl rfl hap4 ?_)
        go_roundw
        case rel => exact ⟨i + 1, c4, A4, nx, out ++ [y], rfl, rfl, by go_num, by omega, HM2.out, HO4.out, HB4.out⟩
        case measure => simp [intOf]; omega
      · have d1 : (er != 0) = true := by simp [he]
        have HE := Lib.hid (show R = ([], 0, er) by rw [← HM.out, htk, many_bad hrd he])
        clear HM hrd htk he
        go_wp2_with fail
        refine RI.out.mono ?_
        rintro e wq ⟨rfl, rfl⟩
        go_wp2
        go_ret3
        rw [HE.out]
        exact ⟨none, 0, 0, rfl, World.ownsRow_nil _ _ _ _, HB.out⟩
    · have en : i = t := by omega
      have c1 : decide ((i : Int) < (t : Int)) = false := by simp; omega
      have c1n : decide (i < t) = false := by simp; omega
      have HE := Lib.hid (show R = (out, at_, 0) by rw [← HM.out, show t - i = 0 by omega]; rfl)
      clear en hlt hi HM
      go_wp2
      go_ret3
      rw [HE.out]
      exact ⟨_, _, _, rfl, OW.out, HB.out⟩
set_option maxRecDepth 100000 in
set_option maxHeartbeats 4000000 in
theorem refCount60_any (E : Option Addr) (u v : Nat) (bs : List Int) (at0 : Int) (w : World) (hb : Bs w E u v bs) (hu : u ≤ 16384) :
    Calls Try.prog 39 #[.slice E u v, .int .i64 at0, .int .i64 60, .int .i64 4] w (ManyC w (countS bs at0 60 4)) := by
  have RB := Lib.hid hb
  have M1 := refMany_any E u v bs at0 1 w hb hu (by omega)
  obtain ⟨R, hR⟩ : ∃ R, countS bs at0 60 4 = R := ⟨_, rfl⟩
  rw [hR]
  unfold countS at hR
  obtain ⟨⟨l, a1, er⟩, hm1⟩ : ∃ r, manyS bs 1 at0 [] = r := ⟨_, rfl⟩
  rw [hm1] at M1 hR
  replace M1 := Lib.hid M1
  simp only at hR
  clear hb
  by_cases he : er = 0
  · subst he
    rw [if_neg (by simp)] at hR
    have hl := many_len hm1
    match l, hl with
    | [y], _ =>
      have hR : (if y < 0 ∨ (60 : Int) < y then (([], 0, 4) : List Int × Int × Int) else manyS bs (y * 4).toNat a1 []) = R := hR
      clear hm1
      go_enter Try.func39, Try.ntmps39
      go_wp2_with fail
      refine M1.out.mono ?_
      rintro e w2 ⟨A, n, c, rfl, hown, hb⟩
      have hn1 : [y].length = n := own_len hown
      have en : n = 1 := hn1.symm
      subst en
      obtain ⟨lb, loff, y2, rfl, hlb, hlc, hdr⟩ := (is_own hown).look 0 (by omega)
      injection hdr with hy2 _
      subst hy2
      rw [Nat.add_zero] at hlc
      have HB := Lib.hid hb
      clear hown hn1 hb hlb
      by_cases h1 : y < 0
      · have b1 : decide (y < 0) = true := by simpa using h1
        rw [if_pos (by omega)] at hR
        have HE := Lib.hid hR.symm
        clear hR h1
        go_wp2
        go_ret3
        rw [HE.out]
        exact ⟨none, 0, 0, rfl, World.ownsRow_nil _ _ _ _, HB.out⟩
      · have b1 : decide (y < 0) = false := by simpa using h1
        by_cases h2 : (60 : Int) < y
        · have b2 : decide ((60 : Int) < y) = true := by simpa using h2
          rw [if_pos (by omega)] at hR
          have HE := Lib.hid hR.symm
          clear hR h1 h2
          go_wp2
          go_ret3
          rw [HE.out]
          exact ⟨none, 0, 0, rfl, World.ownsRow_nil _ _ _ _, HB.out⟩
        · have b2 : decide ((60 : Int) < y) = false := by simpa using h2
          rw [if_neg (by omega)] at hR
          obtain ⟨t, ht⟩ : ∃ t : Nat, (y * 4).toNat = t := ⟨_, rfl⟩
          rw [ht] at hR
          have hmul : y * 4 = (t : Int) := by omega
          have ht16 : t ≤ 16384 := by omega
          have M2 := refMany_any E u v bs a1 t w2 (Bs.below RB.out HB.out) hu ht16
          rw [hR, ← hmul] at M2
          replace M2 := Lib.hid M2
          have y0 : 0 ≤ y := by omega
          have y1 : y ≤ 60 := by omega
          clear hR h1 h2 ht ht16 hmul
          go_wp2_with fail
          refine M2.out.mono ?_
          rintro e w3 ⟨A3, n3, c3, rfl, hown3, hb3⟩
          have HO3 := Lib.hid (own_base hown3 (show w.heap.size ≤ w2.heap.size from HB.out.size))
          have HB3 := Lib.hid (HB.out.trans (hb3.mono HB.out.size))
          clear hown3 hb3
          go_wp2
          go_ret3
          exact ⟨_, _, _, rfl, HO3.out, HB3.out⟩
  · have d1 : (er != 0) = true := by simp [he]
    rw [if_pos he] at hR
    have HE := Lib.hid hR.symm
    clear hR hm1 he
    go_enter Try.func39, Try.ntmps39
    go_wp2_with fail
    refine M1.out.mono ?_
    rintro e w2 ⟨A, n, c, rfl, hown, hb⟩
    have HB := Lib.hid hb
    clear hown hb
    go_wp2
    go_ret3
    rw [HE.out]
    exact ⟨none, 0, 0, rfl, World.ownsRow_nil _ _ _ _, HB.out⟩
set_option maxRecDepth 100000 in
set_option maxHeartbeats 4000000 in
theorem refCount8_any (E : Option Addr) (u v : Nat) (bs : List Int) (at0 : Int) (w : World) (hb : Bs w E u v bs) (hu : u ≤ 16384) :
    Calls Try.prog 39 #[.slice E u v, .int .i64 at0, .int .i64 8, .int .i64 2] w (ManyC w (countS bs at0 8 2)) := by
  have RB := Lib.hid hb
  have M1 := refMany_any E u v bs at0 1 w hb hu (by omega)
  obtain ⟨R, hR⟩ : ∃ R, countS bs at0 8 2 = R := ⟨_, rfl⟩
  rw [hR]
  unfold countS at hR
  obtain ⟨⟨l, a1, er⟩, hm1⟩ : ∃ r, manyS bs 1 at0 [] = r := ⟨_, rfl⟩
  rw [hm1] at M1 hR
  replace M1 := Lib.hid M1
  simp only at hR
  clear hb
  by_cases he : er = 0
  · subst he
    rw [if_neg (by simp)] at hR
    have hl := many_len hm1
    match l, hl with
    | [y], _ =>
      have hR : (if y < 0 ∨ (8 : Int) < y then (([], 0, 4) : List Int × Int × Int) else manyS bs (y * 2).toNat a1 []) = R := hR
      clear hm1
      go_enter Try.func39, Try.ntmps39
      go_wp2_with fail
      refine M1.out.mono ?_
      rintro e w2 ⟨A, n, c, rfl, hown, hb⟩
      have hn1 : [y].length = n := own_len hown
      have en : n = 1 := hn1.symm
      subst en
      obtain ⟨lb, loff, y2, rfl, hlb, hlc, hdr⟩ := (is_own hown).look 0 (by omega)
      injection hdr with hy2 _
      subst hy2
      rw [Nat.add_zero] at hlc
      have HB := Lib.hid hb
      clear hown hn1 hb hlb
      by_cases h1 : y < 0
      · have b1 : decide (y < 0) = true := by simpa using h1
        rw [if_pos (by omega)] at hR
        have HE := Lib.hid hR.symm
        clear hR h1
        go_wp2
        go_ret3
        rw [HE.out]
        exact ⟨none, 0, 0, rfl, World.ownsRow_nil _ _ _ _, HB.out⟩
      · have b1 : decide (y < 0) = false := by simpa using h1
        by_cases h2 : (8 : Int) < y
        · have b2 : decide ((8 : Int) < y) = true := by simpa using h2
          rw [if_pos (by omega)] at hR
          have HE := Lib.hid hR.symm
          clear hR h1 h2
          go_wp2
          go_ret3
          rw [HE.out]
          exact ⟨none, 0, 0, rfl, World.ownsRow_nil _ _ _ _, HB.out⟩
        · have b2 : decide ((8 : Int) < y) = false := by simpa using h2
          rw [if_neg (by omega)] at hR
          obtain ⟨t, ht⟩ : ∃ t : Nat, (y * 2).toNat = t := ⟨_, rfl⟩
          rw [ht] at hR
          have hmul : y * 2 = (t : Int) := by omega
          have ht16 : t ≤ 16384 := by omega
          have M2 := refMany_any E u v bs a1 t w2 (Bs.below RB.out HB.out) hu ht16
          rw [hR, ← hmul] at M2
          replace M2 := Lib.hid M2
          have y0 : 0 ≤ y := by omega
          have y1 : y ≤ 8 := by omega
          clear hR h1 h2 ht ht16 hmul
          go_wp2_with fail
          refine M2.out.mono ?_
          rintro e w3 ⟨A3, n3, c3, rfl, hown3, hb3⟩
          have HO3 := Lib.hid (own_base hown3 (show w.heap.size ≤ w2.heap.size from HB.out.size))
          have HB3 := Lib.hid (HB.out.trans (hb3.mono HB.out.size))
          clear hown3 hb3
          go_wp2
          go_ret3
          exact ⟨_, _, _, rfl, HO3.out, HB3.out⟩
  · have d1 : (er != 0) = true := by simp [he]
    rw [if_pos he] at hR
    have HE := Lib.hid hR.symm
    clear hR hm1 he
    go_enter Try.func39, Try.ntmps39
    go_wp2_with fail
    refine M1.out.mono ?_
    rintro e w2 ⟨A, n, c, rfl, hown, hb⟩
    have HB := Lib.hid hb
    clear hown hb
    go_wp2
    go_ret3
    rw [HE.out]
    exact ⟨none, 0, 0, rfl, World.ownsRow_nil _ _ _ _, HB.out⟩
end Go.Proofs.Ytkoodhnfphmbnaa
