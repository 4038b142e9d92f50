/- The walk of OnceTurns, one of its arms: it answers true, over any world; no condition. -/
import Derived.Test.YtkecmiedeihdgaaOncXS
import Derived.Deep.Cut
import Derived.Deep.CutRange
namespace Go.Proofs.Ytkecmiedeihdgaa
set_option linter.unusedVariables false
set_option linter.unusedSimpArgs false
open Go.RowKit
set_option maxRecDepth 100000 in
set_option maxHeartbeats 16000000 in
theorem turns18_2 : turns18_skel.2.1 := by
  intro nn n c ps B m d ns w NX AL N34 N35 OV b0 b0n hn1 b1 b1n hm1 k hr hw1 hw2 mn hw3 HMN zz0 w1 zz1 zz2 w2 sO sW sE sF i rn rk C F E W clk x0 x1 x2 told over row hi HW5 tf HBD c1 i0 i1 b0_ off0 y y0 y1 zz3 zz4 PX t htm hwy hwt hm0 hm0n hm0m HTT t5 t6 t0 t1 HLT bq HBQ zz5 zz6 zz7 wcl clk2 hcy tfb HWT wx1 sf gf wx2 wc v19 v20 bop bstage bphase bold bsince bleft bawoke bstarve bneed bfront HT HR Vf tf2 FF HM HFF HNF HUF zz8 zz9 HNE HBN
  have HND := Lib.hid (show 0 < (FF t).need from by rw [HFF.out]; exact of_decide_eq_true HBN.out)
  have HFW := Lib.hid HM.out.few
  clear HNE HBN
  have lo13 := row11 (b := sO) HT.out.bO
  by_cases hs : 0 < x1
  · have d3 : decide (0 < x1) = true := by simpa using hs
    have hws : IntKind.i64.wrap (x1 - 1) = x1 - 1 := by have := HFW.out; rw [IntKind.wrap_i64]; omega
    have HM2 := Lib.hid (by have h := HM.out.take t6.out HWT.out HND.out hs; rw [HFF.out] at h; rw [← HUF.out, updN_upd] at h; exact h)
    clear hs
    have lo14 := row11 (b := sO) HT.out.bO
    have lz15 := blk_frozen HT.out.bO 2
    obtain ⟨wx16, hwx16⟩ : ∃ W, wc.setCell ⟨sO, 2, none⟩ (.int .i64 (x1 - 1)) = W := ⟨_, rfl⟩
    replace Vf := Lib.hid (stay1 hwx16 (blk_ne Vf.out HT.out.bO (by decide)) Vf.out)
    replace HR := Lib.hid (own_oneE HR.out HT.out.bO (by decide) hwx16)
    replace HT := Lib.hid (HT.out.putS1E (x1 - 1) hwx16)
    have vc19 := row10 Vf.out
    have vz18 := blk_frozen Vf.out 8
    obtain ⟨wx17, hwx17⟩ : ∃ W, wx16.setCell ⟨sf, 8, none⟩ (.int .i64 0) = W := ⟨_, rfl⟩
    replace HT := Lib.hid (HT.out.oth1 Vf.out (by decide) (by decide) (by decide) gf hwx17)
    replace HR := Lib.hid (own_oneE HR.out Vf.out (by decide) hwx17)
    replace Vf := Lib.hid (show wx17.heap[sf]? = some (.cells #[.int .i64 bop, .int .i64 bstage, .int .i64 bphase, .int .i64 bold, .int .i64 bsince, .int .i64 bleft, .bool bawoke, .bool bstarve, .int .i64 0, .bool bfront] 31) from hwx17 ▸ blk_set (j := 8) Vf.out (.int .i64 0))
    have lv20 := row10 Vf.out
    have lf22 := HT.out.frame t5.out
    have lz23 := HT.out.frz t
    obtain ⟨wx21, hwx21, hse⟩ := setFr wx17 sF (t * 10) (.int .i64 bop) (.int .i64 bstage) (.int .i64 bphase) (.int .i64 bold) (.int .i64 bsince) (.int .i64 bleft) (.bool bawoke) (.bool bstarve) (.int .i64 0) (.bool bfront)
    replace Vf := Lib.hid (stayO hse (blk_ne Vf.out HT.out.bF (by decide)) Vf.out)
    replace HR := Lib.hid (own_cellsE HR.out HT.out.bF (by decide) hse)
    replace HT := Lib.hid (HT.out.putFE t5.out (⟨bop, bstage, bphase, bold, bsince, bleft, bawoke, bstarve, 0, bfront⟩ : MFr) hse)
    clear hse
    go_wp2
    refine ⟨?rel, ?measure⟩
    case rel => have := HLT.out; have := HBD.out; have HM2 := HM2; unfold Rel18; exact ⟨_, _, _, _, _, i + 1, rn, rk, C, (updN F t (⟨bop, bstage, bphase, bold, bsince, bleft, bawoke, bstarve, 0, bfront⟩ : MFr)), E, W, _, x0, (x1 - 1), x2, told, over, row, ⟨by kernel_rfl, rfl, rfl⟩, Lib.hid ⟨by first | rfl | go_num, rfl, by first | rfl | go_num, by first | rfl | go_num, by go_num⟩, by omega, by omega, Lib.hid (by first | exact HW5.out | exact (updN_ne (by have := t5.out; omega)).trans HW5.out), HT, HR, HM2⟩
    case measure => have := HLT.out; simp [intOf]; omega
  · have d3 : decide (0 < x1) = false := by simpa using hs
    clear hs
    have li24 := HT.out.atW t5.out
    have lz25 := blk_frozen HT.out.bW t
    obtain ⟨wx26, hwx26⟩ : ∃ W, wc.setCell ⟨sW, t, none⟩ (.bool true) = W := ⟨_, rfl⟩
    replace Vf := Lib.hid (stay1 hwx26 (blk_ne Vf.out HT.out.bW (by decide)) Vf.out)
    replace HR := Lib.hid (own_oneE HR.out HT.out.bW (by decide) hwx26)
    replace HT := Lib.hid (HT.out.putWE t5.out true hwx26)
    have lv27 := row10 Vf.out
    cases bfront
    · skip
      obtain ⟨C9, k9, w9, hap, hR3, hg⟩ := row_push HR.out t HT.out.siz (by have := HBD.out; omega)
      replace HT := Lib.hid (HT.out.keptG hg)
      replace Vf := Lib.hid (hg.keep _ _ _ (by decide) Vf.out)
      replace HR := Lib.hid hR3
      clear hR3 hg
      have lv28 := row10 Vf.out
      have lf30 := HT.out.frame t5.out
      have lz31 := HT.out.frz t
      obtain ⟨wx29, hwx29, hse⟩ := setFr w9 sF (t * 10) (.int .i64 bop) (.int .i64 bstage) (.int .i64 bphase) (.int .i64 bold) (.int .i64 bsince) (.int .i64 bleft) (.bool bawoke) (.bool bstarve) (.int .i64 bneed) (.bool false)
      replace Vf := Lib.hid (stayO hse (blk_ne Vf.out HT.out.bF (by decide)) Vf.out)
      replace HR := Lib.hid (own_cellsE HR.out HT.out.bF (by decide) hse)
      replace HT := Lib.hid (HT.out.putFE t5.out (⟨bop, bstage, bphase, bold, bsince, bleft, bawoke, bstarve, bneed, false⟩ : MFr) hse)
      clear hse
      have HM2 := Lib.hid (by have h := (HM.out.park t6.out HWT.out HND.out).2; rw [← HUF.out] at h; exact h)
      go_wp2_with (at_builtin; refine eapp_run (by rfl) rfl rfl rfl hap ?_)
      refine ⟨?rel, ?measure⟩
      case rel => have := HLT.out; have := HBD.out; have HM2 := HM2; unfold Rel18; exact ⟨_, _, _, _, _, i + 1, (rn + 1), k9, C9, (updN F t (⟨bop, bstage, bphase, bold, bsince, bleft, bawoke, bstarve, bneed, false⟩ : MFr)), E, (updN W t true), _, x0, x1, x2, told, over, (row ++ [t]), ⟨by kernel_rfl, rfl, rfl⟩, Lib.hid ⟨by first | rfl | go_num, rfl, by first | rfl | go_num, by first | rfl | go_num, by go_num⟩, by omega, by omega, Lib.hid (by first | exact HW5.out | exact (updN_ne (by have := t5.out; omega)).trans HW5.out), HT, HR, HM2⟩
      case measure => have := HLT.out; simp [intOf]; omega
    · skip
      obtain ⟨C9, k9, w9, hap, hR3, hg⟩ := row_front HR.out t HT.out.siz (by have := HBD.out; omega)
      replace HT := Lib.hid (HT.out.keptG hg)
      replace Vf := Lib.hid (hg.keep _ _ _ (by decide) Vf.out)
      replace HR := Lib.hid hR3
      clear hR3 hg
      have lv32 := row10 Vf.out
      have lf34 := HT.out.frame t5.out
      have lz35 := HT.out.frz t
      obtain ⟨wx33, hwx33, hse⟩ := setFr w9 sF (t * 10) (.int .i64 bop) (.int .i64 bstage) (.int .i64 bphase) (.int .i64 bold) (.int .i64 bsince) (.int .i64 bleft) (.bool bawoke) (.bool bstarve) (.int .i64 bneed) (.bool true)
      replace Vf := Lib.hid (stayO hse (blk_ne Vf.out HT.out.bF (by decide)) Vf.out)
      replace HR := Lib.hid (own_cellsE HR.out HT.out.bF (by decide) hse)
      replace HT := Lib.hid (HT.out.putFE t5.out (⟨bop, bstage, bphase, bold, bsince, bleft, bawoke, bstarve, bneed, true⟩ : MFr) hse)
      clear hse
      have HM2 := Lib.hid (by have h := (HM.out.park t6.out HWT.out HND.out).1; rw [← HUF.out] at h; exact h)
      go_wp2_with (at_builtin; refine eapp_run (by rfl) rfl rfl rfl hap ?_)
      refine ⟨?rel, ?measure⟩
      case rel => have := HLT.out; have := HBD.out; have HM2 := HM2; unfold Rel18; exact ⟨_, _, _, _, _, i + 1, (1 + rn), k9, C9, (updN F t (⟨bop, bstage, bphase, bold, bsince, bleft, bawoke, bstarve, bneed, true⟩ : MFr)), E, (updN W t true), _, x0, x1, x2, told, over, (t :: row), ⟨by kernel_rfl, rfl, rfl⟩, Lib.hid ⟨by first | rfl | go_num, rfl, by first | rfl | go_num, by first | rfl | go_num, by go_num⟩, by omega, by omega, Lib.hid (by first | exact HW5.out | exact (updN_ne (by have := t5.out; omega)).trans HW5.out), HT, HR, HM2⟩
      case measure => have := HLT.out; simp [intOf]; omega
end Go.Proofs.Ytkecmiedeihdgaa
