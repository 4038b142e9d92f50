/- The walk of OnceTurns, one of its arms: it answers true, over any world; no condition. -/
import Derived.Test.YtkecmiedeihdgaaOncXS
import Derived.Deep.Cut
import Derived.Deep.CutRange
namespace Go.Proofs.Ytkecmiedeihdgaa
set_option linter.unusedVariables false
set_option linter.unusedSimpArgs false
open Go.RowKit
set_option maxRecDepth 100000 in
set_option maxHeartbeats 16000000 in
theorem turns18_4 : turns18_skel.2.2.2.1 := by
  intro nn n c ps B m d ns w NX AL N34 N35 OV b0 b0n hn1 b1 b1n hm1 k hr hw1 hw2 mn hw3 HMN zz0 w1 zz1 zz2 w2 sO sW sE sF i rn rk C F E W clk x0 x1 x2 told over row hi HW5 tf HBD c1 i0 i1 b0_ off0 y y0 y1 zz3 zz4 PX t htm hwy hwt hm0 hm0n hm0m HTT t5 t6 t0 t1 HLT bq HBQ zz5 zz6 zz7 wcl clk2 hcy tfb HWT wx1 sf gf wx2 wc v19 zz8 tf2 wx5 su gu et HET HFW HTO wc3 v20 z0 z2 gop gstage gphase gold gsince gleft gawoke gstarve gneed gfront gdn ghd ggv gvl HA tf3 wx8 Vf Vu HR HT zz9 zz10 J K2 hJ hK
  clear Vf
  rcases HA.out with ⟨hgv, hp⟩ | ⟨hgv, hdn, E2, ov2, hlk, hp⟩
  · subst hgv
    have HP := Lib.hid hp
    clear hp HA
    go_wp2_with fail
    refine Met.intro ?_
    go_step
    exact ⟨_, _, x1, (updN F t (⟨gop, gstage, gphase, gold, gsince, gleft, gawoke, gstarve, gneed, gfront⟩ : MFr)), W, rn, rk, C, row, ⟨by kernel_rfl, rfl, rfl⟩, Lib.hid ⟨rfl, by have := HBD.out; omega⟩, HW5, HT, HR, Vu, Lib.hid (HP.out)⟩
  · subst hgv hdn
    have HP := Lib.hid hp
    have HLK := Lib.hid hlk
    clear hp hlk HA
    have hws : IntKind.i64.wrap (x1 + 1) = x1 + 1 := by have := HFW.out; rw [IntKind.wrap_i64]; omega
    have lv13 := row7 Vu.out
    have lo14 := row11 (b := sO) HT.out.bO
    have lz15 := blk_frozen HT.out.bO 2
    obtain ⟨wx16, hwx16⟩ : ∃ W, wx8.setCell ⟨sO, 2, none⟩ (.int .i64 (x1 + 1)) = W := ⟨_, rfl⟩
    replace Vu := Lib.hid (stay1 hwx16 (blk_ne Vu.out HT.out.bO (by decide)) Vu.out)
    replace HR := Lib.hid (own_oneE HR.out HT.out.bO (by decide) hwx16)
    replace HT := Lib.hid (HT.out.putS1E (x1 + 1) hwx16)
    rcases row with _ | ⟨x, rest⟩
    · skip
      have hr0 : rn = 0 := by have h := HR.out.1; simp [nats, intC] at h; omega
      have y0_ : decide ((0 : Int) < (rn : Int)) = false := by simp; omega
      have y1_ : decide (0 < rn) = false := by simp; omega
      clear hr0
      go_wp2_with fail
      refine Met.intro ?_
      go_step
      exact ⟨_, _, (x1 + 1), (updN F t (⟨gop, gstage, gphase, gold, gsince, gleft, gawoke, gstarve, gneed, gfront⟩ : MFr)), W, rn, rk, C, [], ⟨by kernel_rfl, rfl, rfl⟩, Lib.hid ⟨rfl, by have := HBD.out; omega⟩, HW5, HT, HR, Vu, Lib.hid (Or.inr (Or.inr ⟨rfl, E2, ov2, HLK.out, HP.out⟩))⟩
    · skip
      obtain ⟨hx6, hxw, hxn, hm3⟩ := HP.out.pop
      have x6 := Lib.hid hx6
      have HXN := Lib.hid hxn
      have HM3 := Lib.hid hm3
      have hx5 : x < 5 := by have hne5 : x ≠ 5 := fun e5 => (by rw [e5, HW5.out] at hxw; cases hxw); omega
      have x5 := Lib.hid hx5
      have X0 : (0 : Int) ≤ (x : Int) := by omega
      have X1 : (x : Int) < 5 := by omega
      clear hx6 hxw hxn hm3 hx5
      obtain ⟨⟨rb, roff, re, rhc⟩, hn1, C8, k8, hsl, C9, k9, w9, hap, hR3, hg⟩ := row_drop HR.out HT.out.siz (by have := HBD.out; omega)
      subst re
      have y0_ : decide ((0 : Int) < (rn : Int)) = true := by simp; omega
      have y1_ : decide (0 < rn) = true := by simp; omega
      have y2_ : (0 : Int) < (rn : Int) := by omega
      have y3_ : 0 < rn := by omega
      have y4_ : (1 : Int) ≤ (rn : Int) := by omega
      clear hn1
      replace HT := Lib.hid (HT.out.keptG hg)
      replace Vu := Lib.hid (hg.keep _ _ _ (by decide) Vu.out)
      replace HR := Lib.hid hR3
      clear hR3 hg
      have li17 := HT.out.atW x5.out
      have lz18 := blk_frozen HT.out.bW x
      obtain ⟨wx19, hwx19⟩ : ∃ W, w9.setCell ⟨sW, x, none⟩ (.bool false) = W := ⟨_, rfl⟩
      replace Vu := Lib.hid (stay1 hwx19 (blk_ne Vu.out HT.out.bW (by decide)) Vu.out)
      replace HR := Lib.hid (own_oneE HR.out HT.out.bW (by decide) hwx19)
      replace HT := Lib.hid (HT.out.putWE x5.out false hwx19)
      have lv20 := row7 Vu.out
      cases ghd
      · skip
        go_wp2_with (at_builtin; refine eapp_run (by rfl) rfl rfl rfl hap ?_)
        refine Met.intro ?_
        go_step
        exact ⟨_, _, (x1 + 1), (updN F t (⟨gop, gstage, gphase, gold, gsince, gleft, gawoke, gstarve, gneed, gfront⟩ : MFr)), (updN W x false), (rn - 1), k9, C9, rest, ⟨by kernel_rfl, rfl, rfl⟩, Lib.hid ⟨rfl, by have := HBD.out; omega⟩, Lib.hid ((updN_ne (by have := x5.out; omega)).trans HW5.out), HT, HR, Vu, Lib.hid (Or.inr (Or.inr ⟨rfl, E2, ov2, HLK.out, HM3.out⟩))⟩
      · skip
        have hws3 : IntKind.i64.wrap x1 = x1 := by have := HFW.out; rw [IntKind.wrap_i64]; omega
        have hws2 : IntKind.i64.wrap (x1 + 1 - 1) = x1 := by have := HFW.out; rw [IntKind.wrap_i64]; omega
        have HM4 := Lib.hid (by have h := HM3.out.take x6.out updN_self HXN.out (by have := HFW.out; omega); rw [show x1 + 1 - 1 = x1 by omega] at h; exact h)
        have lo21 := row11 (b := sO) HT.out.bO
        have lz22 := blk_frozen HT.out.bO 2
        obtain ⟨wx23, hwx23⟩ : ∃ W, wx19.setCell ⟨sO, 2, none⟩ (.int .i64 x1) = W := ⟨_, rfl⟩
        replace Vu := Lib.hid (stay1 hwx23 (blk_ne Vu.out HT.out.bO (by decide)) Vu.out)
        replace HR := Lib.hid (own_oneE HR.out HT.out.bO (by decide) hwx23)
        replace HT := Lib.hid (HT.out.putS1E x1 hwx23)
        have lf24 := HT.out.frame x5.out
        have lz25 := blk_frozen HT.out.bF (x * 10 + 8)
        obtain ⟨wx26, hwx26⟩ : ∃ W, wx23.setCell ⟨sF, x * 10 + 8, none⟩ (.int .i64 0) = W := ⟨_, rfl⟩
        replace Vu := Lib.hid (stay1 hwx26 (blk_ne Vu.out HT.out.bF (by decide)) Vu.out)
        replace HR := Lib.hid (own_oneE HR.out HT.out.bF (by decide) hwx26)
        replace HT := Lib.hid (HT.out.putNE x5.out hwx26)
        go_wp2_with (at_builtin; refine eapp_run (by rfl) rfl rfl rfl hap ?_)
        refine Met.intro ?_
        go_step
        exact ⟨_, _, x1, (updN (updN F t (⟨gop, gstage, gphase, gold, gsince, gleft, gawoke, gstarve, gneed, gfront⟩ : MFr)) x { (updN F t (⟨gop, gstage, gphase, gold, gsince, gleft, gawoke, gstarve, gneed, gfront⟩ : MFr)) x with need := 0 }), (updN W x false), (rn - 1), k9, C9, rest, ⟨by kernel_rfl, rfl, rfl⟩, Lib.hid ⟨rfl, by have := HBD.out; omega⟩, Lib.hid ((updN_ne (by have := x5.out; omega)).trans HW5.out), HT, HR, Vu, Lib.hid (Or.inr (Or.inr ⟨rfl, E2, ov2, HLK.out, HM4.out⟩))⟩
end Go.Proofs.Ytkecmiedeihdgaa
