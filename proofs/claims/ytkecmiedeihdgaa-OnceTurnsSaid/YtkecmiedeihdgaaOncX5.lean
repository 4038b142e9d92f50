/- The walk of OnceTurns, one of its arms: it answers true, over any world; no condition. -/
import Derived.Test.YtkecmiedeihdgaaOncXS
import Derived.Deep.Cut
import Derived.Deep.CutRange
namespace Go.Proofs.Ytkecmiedeihdgaa
set_option linter.unusedVariables false
set_option linter.unusedSimpArgs false
open Go.RowKit
set_option maxRecDepth 100000 in
set_option maxHeartbeats 16000000 in
theorem turns18_5 : turns18_skel.2.2.2.2.1 := by
  intro nn n c ps B m d ns w NX AL N34 N35 OV b0 b0n hn1 b1 b1n hm1 k hr hw1 hw2 mn hw3 HMN zz0 w1 zz1 zz2 w2 sO sW sE sF i rn rk C F E W clk x0 x1 x2 told over row hi tf c1 i0 i1 b0_ off0 y y0 zz3 zz4 zz5 PX t htm hwy hwt hm0 hm0n hm0m HTT t5 t6 t0 t1 HLT bq HBQ zz6 zz7 zz8 wcl clk2 hcy tfb HWT wx1 sf gf wx2 wc v19 zz9 tf2 wx5 su gu et HET HFW HTO wc3 zz10 z0 z2 ghd ggv gvl tf3 wx8 wc4 v20 y1 F3 W3 m1 j1 E1 s1 HW5 HT HR HBD tf4 Vu HPD lv12 cd zz11 zz12
  have w0s : IntKind.i64.wrap (over + 1) = over + 1 := by have := HTO.out; rw [IntKind.wrap_i64]; omega
  have w1s : IntKind.i64.wrap (told + 1) = told + 1 := by have := HTO.out; rw [IntKind.wrap_i64]; omega
  have o0_ : 0 ≤ over := by have := HTO.out; omega
  have o1_ : over ≤ 1 := by have := HTO.out; omega
  have o2_ : 0 ≤ told := by have := HTO.out; omega
  have o3_ : told ≤ 1 := by have := HTO.out; omega
  rcases HPD.out with ⟨hdn, hp⟩ | ⟨_, he, hvl, hp⟩ | ⟨_, E2, ov2, ⟨he, rfl, rfl⟩ | ⟨he, rfl, rfl, hvl, hx2⟩, hp⟩
  · cases hdn
  · obtain rfl : et = false := HET.out.symm.trans he
    subst hvl
    have HP := Lib.hid hp
    clear hp he HPD
    have lv13 := row7 Vu.out
    have li14 := HT.out.atE t5.out
    have lz15 := blk_frozen HT.out.bE t
    obtain ⟨wx16, hwx16⟩ : ∃ W, wc4.setCell ⟨sE, t, none⟩ (.bool true) = W := ⟨_, rfl⟩
    replace Vu := Lib.hid (stay1 hwx16 (blk_ne Vu.out HT.out.bE (by decide)) Vu.out)
    replace HR := Lib.hid (own_oneE HR.out HT.out.bE (by decide) hwx16)
    replace HT := Lib.hid (HT.out.putEE t5.out true hwx16)
    go_wp2_with fail
    refine (N35.out _).mono ?_
    rintro e wb ⟨rfl, hb⟩
    clear lv13 li14 lz15 hwx16
    clear Vu
    replace HT := Lib.hid (HT.out.step hb)
    replace HR := Lib.hid (own_below HR.out hb)
    clear hb
    have lf18 := HT.out.frame t5.out
    have lz19 := HT.out.frz t
    obtain ⟨wx17, hwx17, hse⟩ := setFr wb sF (t * 10) (.int .i64 35) (.int .i64 0) (.int .i64 0) (.int .i64 0) (.int .i64 (-1)) (.int .i64 0) (.bool false) (.bool false) (.int .i64 0) (.bool false)
    replace HR := Lib.hid (own_cellsE HR.out HT.out.bF (by decide) hse)
    replace HT := Lib.hid (HT.out.putFE t5.out (beginF 35) hse)
    clear hse
    go_wp2
    refine ⟨?rel, ?measure⟩
    case rel => have := HLT.out; have := HBD.out; have HM2 := HP; unfold Rel18; exact ⟨_, _, _, _, _, i + 1, m1, j1, E1, (updN F3 t (beginF 35)), (updN E t true), W3, _, z0, y1, z2, (told + 1), over, s1, ⟨by kernel_rfl, rfl, rfl⟩, Lib.hid ⟨by first | rfl | go_num, rfl, by first | rfl | go_num, by first | rfl | go_num, by go_num⟩, by omega, by omega, Lib.hid (by first | exact HW5.out | exact (updN_ne (by have := t5.out; omega)).trans HW5.out), HT, HR, HM2⟩
    case measure => have := HLT.out; simp [intOf]; omega
  · obtain rfl : et = true := HET.out.symm.trans he
    have HP := Lib.hid hp
    clear hp he HPD
    have li20 := HT.out.atE t5.out
    have lz21 := blk_frozen HT.out.bE t
    obtain ⟨wx22, hwx22⟩ : ∃ W, wc4.setCell ⟨sE, t, none⟩ (.bool false) = W := ⟨_, rfl⟩
    replace HR := Lib.hid (own_oneE HR.out HT.out.bE (by decide) hwx22)
    replace HT := Lib.hid (HT.out.putEE t5.out false hwx22)
    go_wp2
    refine ⟨?rel, ?measure⟩
    case rel => have := HLT.out; have := HBD.out; have HM2 := HP; unfold Rel18; exact ⟨_, _, _, _, _, i + 1, m1, j1, E1, F3, (updN E t false), W3, _, z0, y1, z2, told, (over + 1), s1, ⟨by kernel_rfl, rfl, rfl⟩, Lib.hid ⟨by first | rfl | go_num, rfl, by first | rfl | go_num, by first | rfl | go_num, by go_num⟩, by omega, by omega, Lib.hid (by first | exact HW5.out | exact (updN_ne (by have := t5.out; omega)).trans HW5.out), HT, HR, HM2⟩
    case measure => have := HLT.out; simp [intOf]; omega
  · obtain rfl : et = false := HET.out.symm.trans he
    subst hvl hx2
    have HP := Lib.hid hp
    clear hp he HPD
    have lv23 := row7 Vu.out
    have lo24 := row11 (b := sO) HT.out.bO
    go_wp2_with fail
    refine (OV.out z0 y1 1 true (by rfl) _).mono ?_
    rintro e wv ⟨rfl, hb⟩
    clear lv23 lo24
    clear Vu
    replace HT := Lib.hid (HT.out.step hb)
    replace HR := Lib.hid (own_below HR.out hb)
    clear hb
    go_wp2
    refine ⟨?rel, ?measure⟩
    case rel => have := HLT.out; have := HBD.out; have HM2 := HP; unfold Rel18; exact ⟨_, _, _, _, _, i + 1, m1, j1, E1, F3, E2, W3, _, z0, y1, 1, told, ov2, s1, ⟨by kernel_rfl, rfl, rfl⟩, Lib.hid ⟨by first | rfl | go_num, rfl, by first | rfl | go_num, by first | rfl | go_num, by go_num⟩, by omega, by omega, Lib.hid (by first | exact HW5.out | exact (updN_ne (by have := t5.out; omega)).trans HW5.out), HT, HR, HM2⟩
    case measure => have := HLT.out; simp [intOf]; omega
end Go.Proofs.Ytkecmiedeihdgaa
