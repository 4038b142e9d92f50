/- The walk of RwTurns, one of its arms: it answers true, over any world; no condition. -/
import Derived.Test.YtpkegfochfkkcaaRwXS
import Derived.Deep.Cut
import Derived.Deep.CutRange
namespace Go.Proofs.Ytpkegfochfkkcaa
set_option linter.unusedVariables false
set_option linter.unusedSimpArgs false
open Go.RowKit
set_option maxRecDepth 100000 in
set_option maxHeartbeats 16000000 in
theorem turns16_2 : turns16_skel.2.1 := by
  intro nn n c ps B m d bs w NX AL N28 N29 N30 N31 b0 b0n hn1 b1 b1n hm1 k hr hw1 hw2 mn hw3 HMN zz0 w1 zz1 zz2 w2 sO sR sW sI sD sF wr i bg n1 k1 n2 k2 n3 k3 C1 C2 C3 F D I W x0 x1 x2 x3 x4 x5 r1 r2 r3 hi HW5 tf HFX HBD c1 i0 i1 b0_ off0 y hcy y0 y1 zz3 zz4 PX t htm hwy hwt hm0 hm0n hm0m HTT t5 t6 t0 t1 HLT HWT wx1 sf gf wx2 zz5 zz6 zz7 wc v18 v19 v20 v21 v22 v23 v24 bg2 D2 bop bstage bphase bold bsince bleft bawoke bstarve bneed bfront HT HR Vf HB2 tf2 FF HM HFF HNF HUF zz8 zz9 HNE HBN
  have hne := HM.out.needs t6.out (show 0 < (FF t).need from by rw [HFF.out]; exact of_decide_eq_true HBN.out)
  rw [HFF.out] at hne
  simp only at hne
  have hfew := HM.out.few
  have HFW := Lib.hid hfew
  have HBB := Lib.hid (And.intro HB2.out HBD.out)
  clear HNE HBN hfew
  obtain ⟨hI, hq | hq | hq⟩ := hne
  · have hj := hq.1
    clear hq hI
    subst hj
    have HND := Lib.hid (show (FF t).need = 2 from by rw [HFF.out])
    have lv13 := row10 Vf.out
    have lo14 := row11 (b := sO) HT.out.bO
    by_cases hs : 0 < x1
    · have d3 : decide (0 < x1) = true := by simpa using hs
      have hws : IntKind.i64.wrap (x1 - 1) = x1 - 1 := by have := HFW.out; rw [IntKind.wrap_i64]; omega
      have HM2 := Lib.hid (by have h := HM.out.take2 t6.out HWT.out HND.out hs; rw [HFF.out] at h; rw [← HUF.out, updN_upd] at h; exact h)
      clear hs
      have lo15 := row11 (b := sO) HT.out.bO
      have lz16 := blk_frozen HT.out.bO 2
      obtain ⟨wx17, hwx17⟩ : ∃ W, wc.setCell ⟨sO, 2, none⟩ (.int .i64 (x1 - 1)) = W := ⟨_, rfl⟩
      replace Vf := Lib.hid (stay1 hwx17 (blk_ne Vf.out HT.out.bO (by decide)) Vf.out)
      replace HR := Lib.hid (HR.out.oneE HT.out.bO (by decide) hwx17)
      replace HT := Lib.hid (HT.out.putS2E (x1 - 1) hwx17)
      have vc20 := row10 Vf.out
      have vz19 := blk_frozen Vf.out 8
      obtain ⟨wx18, hwx18⟩ : ∃ W, wx17.setCell ⟨sf, 8, none⟩ (.int .i64 0) = W := ⟨_, rfl⟩
      replace HT := Lib.hid (HT.out.oth1 Vf.out (by decide) (by decide) (by decide) (by decide) (by decide) gf hwx18)
      replace HR := Lib.hid (HR.out.oneE Vf.out (by decide) hwx18)
      replace Vf := Lib.hid (show wx18.heap[sf]? = some (.cells #[.int .i64 bop, .int .i64 bstage, .int .i64 bphase, .int .i64 bold, .int .i64 bsince, .int .i64 bleft, .bool bawoke, .bool bstarve, .int .i64 0, .bool bfront] 31) from hwx18 ▸ blk_set (j := 8) Vf.out (.int .i64 0))
      have lv21 := row10 Vf.out
      have lf23 := HT.out.frame t5.out
      have lz24 := HT.out.frz t
      obtain ⟨wx22, hwx22, hse⟩ := setFr wx18 sF (t * 10) (.int .i64 bop) (.int .i64 bstage) (.int .i64 bphase) (.int .i64 bold) (.int .i64 bsince) (.int .i64 bleft) (.bool bawoke) (.bool bstarve) (.int .i64 0) (.bool bfront)
      replace Vf := Lib.hid (stayO hse (blk_ne Vf.out HT.out.bF (by decide)) Vf.out)
      replace HR := Lib.hid (HR.out.cellsE HT.out.bF (by decide) hse)
      replace HT := Lib.hid (HT.out.putFE t5.out (⟨bop, bstage, bphase, bold, bsince, bleft, bawoke, bstarve, 0, bfront⟩ : MFr) hse)
      clear hse
      go_wp2
      refine ⟨?rel, ?measure⟩
      case rel => have := HLT.out; have := HBD.out; have HM2 := HM2; have := HB2.out; unfold Rel16; exact ⟨_, _, i + 1, bg2, n1, k1, n2, k2, n3, k3, C1, C2, C3, (updN F t (⟨bop, bstage, bphase, bold, bsince, bleft, bawoke, bstarve, 0, bfront⟩ : MFr)), D2, I, W, x0, (x1 - 1), x2, x3, x4, x5, r1, r2, r3, ⟨by kernel_rfl, rfl, rfl⟩, Lib.hid ⟨rfl, by go_num⟩, by omega, by omega, by omega, by omega, by omega, Lib.hid (by first | exact HW5.out | exact (updN_ne (by have := t5.out; omega)).trans HW5.out), HT, HR, HM2⟩
      case measure => have := HLT.out; simp [intOf]; omega
    · have d3 : decide (0 < x1) = false := by simpa using hs
      clear hs
      have lw25 := HT.out.wai t5.out
      have lz26 := blk_frozen HT.out.bW t
      obtain ⟨wx27, hwx27⟩ : ∃ W, wc.setCell ⟨sW, t, none⟩ (.bool true) = W := ⟨_, rfl⟩
      replace Vf := Lib.hid (stay1 hwx27 (blk_ne Vf.out HT.out.bW (by decide)) Vf.out)
      replace HR := Lib.hid (HR.out.oneE HT.out.bW (by decide) hwx27)
      replace HT := Lib.hid (HT.out.putWE t5.out true hwx27)
      have lr28 := show wx27.cell? ⟨sR, 0, none⟩ = some ((.slice C1 n1 k1)) from (blk_cell HT.out.bR 0).trans rfl
      obtain ⟨C9, k9, w9, hap, hR3, hg⟩ := HR.out.push t HT.out.siz (by have := HBD.out; omega)
      replace HT := Lib.hid (HT.out.keptG hg)
      replace Vf := Lib.hid (hg.keep _ _ _ (by decide) Vf.out)
      replace HR := Lib.hid hR3
      clear hR3 hg
      have lr29 := show w9.cell? ⟨sR, 0, none⟩ = some ((.slice C1 n1 k1)) from (blk_cell HT.out.bR 0).trans rfl
      have lz30 := blk_frozen HT.out.bR 0
      obtain ⟨wx31, hwx31⟩ : ∃ W, w9.setCell ⟨sR, 0, none⟩ (.slice C9 (n1 + 1) k9) = W := ⟨_, rfl⟩
      replace Vf := Lib.hid (stay1 hwx31 (blk_ne Vf.out HT.out.bR (by decide)) Vf.out)
      replace HR := Lib.hid (HR.out.oneE HT.out.bR (by decide) hwx31)
      replace HT := Lib.hid (HT.out.putR1E _ hwx31)
      have lv32 := row10 Vf.out
      have lf34 := HT.out.frame t5.out
      have lz35 := HT.out.frz t
      obtain ⟨wx33, hwx33, hse⟩ := setFr wx31 sF (t * 10) (.int .i64 bop) (.int .i64 bstage) (.int .i64 bphase) (.int .i64 bold) (.int .i64 bsince) (.int .i64 bleft) (.bool bawoke) (.bool bstarve) (.int .i64 2) (.bool bfront)
      replace Vf := Lib.hid (stayO hse (blk_ne Vf.out HT.out.bF (by decide)) Vf.out)
      replace HR := Lib.hid (HR.out.cellsE HT.out.bF (by decide) hse)
      replace HT := Lib.hid (HT.out.putFE t5.out (⟨bop, bstage, bphase, bold, bsince, bleft, bawoke, bstarve, 2, bfront⟩ : MFr) hse)
      clear hse
      have HM2 := Lib.hid (by have h := HM.out.park2 t6.out HWT.out HND.out; rw [← HUF.out] at h; exact h)
      go_wp2_with (at_builtin; refine eapp_run (by rfl) rfl rfl rfl hap ?_)
      refine ⟨?rel, ?measure⟩
      case rel => have := HLT.out; have := HBD.out; have HM2 := HM2; have := HB2.out; unfold Rel16; exact ⟨_, _, i + 1, bg2, (n1 + 1), k9, n2, k2, n3, k3, C9, C2, C3, (updN F t (⟨bop, bstage, bphase, bold, bsince, bleft, bawoke, bstarve, 2, bfront⟩ : MFr)), D2, I, (updN W t true), x0, x1, x2, x3, x4, x5, (r1 ++ [t]), r2, r3, ⟨by kernel_rfl, rfl, rfl⟩, Lib.hid ⟨rfl, by go_num⟩, by omega, by omega, by omega, by omega, by omega, Lib.hid (by first | exact HW5.out | exact (updN_ne (by have := t5.out; omega)).trans HW5.out), HT, HR, HM2⟩
      case measure => have := HLT.out; simp [intOf]; omega
  · have hj := hq.1
    clear hq hI
    subst hj
    have HND := Lib.hid (show (FF t).need = 3 from by rw [HFF.out])
    have lv36 := row10 Vf.out
    have lo37 := row11 (b := sO) HT.out.bO
    by_cases hs : 0 < x2
    · have d3 : decide (0 < x2) = true := by simpa using hs
      have hws : IntKind.i64.wrap (x2 - 1) = x2 - 1 := by have := HFW.out; rw [IntKind.wrap_i64]; omega
      have HM2 := Lib.hid (by have h := HM.out.take3 t6.out HWT.out HND.out hs; rw [HFF.out] at h; rw [← HUF.out, updN_upd] at h; exact h)
      clear hs
      have lo38 := row11 (b := sO) HT.out.bO
      have lz39 := blk_frozen HT.out.bO 3
      obtain ⟨wx40, hwx40⟩ : ∃ W, wc.setCell ⟨sO, 3, none⟩ (.int .i64 (x2 - 1)) = W := ⟨_, rfl⟩
      replace Vf := Lib.hid (stay1 hwx40 (blk_ne Vf.out HT.out.bO (by decide)) Vf.out)
      replace HR := Lib.hid (HR.out.oneE HT.out.bO (by decide) hwx40)
      replace HT := Lib.hid (HT.out.putS3E (x2 - 1) hwx40)
      have vc43 := row10 Vf.out
      have vz42 := blk_frozen Vf.out 8
      obtain ⟨wx41, hwx41⟩ : ∃ W, wx40.setCell ⟨sf, 8, none⟩ (.int .i64 0) = W := ⟨_, rfl⟩
      replace HT := Lib.hid (HT.out.oth1 Vf.out (by decide) (by decide) (by decide) (by decide) (by decide) gf hwx41)
      replace HR := Lib.hid (HR.out.oneE Vf.out (by decide) hwx41)
      replace Vf := Lib.hid (show wx41.heap[sf]? = some (.cells #[.int .i64 bop, .int .i64 bstage, .int .i64 bphase, .int .i64 bold, .int .i64 bsince, .int .i64 bleft, .bool bawoke, .bool bstarve, .int .i64 0, .bool bfront] 31) from hwx41 ▸ blk_set (j := 8) Vf.out (.int .i64 0))
      have lv44 := row10 Vf.out
      have lf46 := HT.out.frame t5.out
      have lz47 := HT.out.frz t
      obtain ⟨wx45, hwx45, hse⟩ := setFr wx41 sF (t * 10) (.int .i64 bop) (.int .i64 bstage) (.int .i64 bphase) (.int .i64 bold) (.int .i64 bsince) (.int .i64 bleft) (.bool bawoke) (.bool bstarve) (.int .i64 0) (.bool bfront)
      replace Vf := Lib.hid (stayO hse (blk_ne Vf.out HT.out.bF (by decide)) Vf.out)
      replace HR := Lib.hid (HR.out.cellsE HT.out.bF (by decide) hse)
      replace HT := Lib.hid (HT.out.putFE t5.out (⟨bop, bstage, bphase, bold, bsince, bleft, bawoke, bstarve, 0, bfront⟩ : MFr) hse)
      clear hse
      go_wp2
      refine ⟨?rel, ?measure⟩
      case rel => have := HLT.out; have := HBD.out; have HM2 := HM2; have := HB2.out; unfold Rel16; exact ⟨_, _, i + 1, bg2, n1, k1, n2, k2, n3, k3, C1, C2, C3, (updN F t (⟨bop, bstage, bphase, bold, bsince, bleft, bawoke, bstarve, 0, bfront⟩ : MFr)), D2, I, W, x0, x1, (x2 - 1), x3, x4, x5, r1, r2, r3, ⟨by kernel_rfl, rfl, rfl⟩, Lib.hid ⟨rfl, by go_num⟩, by omega, by omega, by omega, by omega, by omega, Lib.hid (by first | exact HW5.out | exact (updN_ne (by have := t5.out; omega)).trans HW5.out), HT, HR, HM2⟩
      case measure => have := HLT.out; simp [intOf]; omega
    · have d3 : decide (0 < x2) = false := by simpa using hs
      clear hs
      have lw48 := HT.out.wai t5.out
      have lz49 := blk_frozen HT.out.bW t
      obtain ⟨wx50, hwx50⟩ : ∃ W, wc.setCell ⟨sW, t, none⟩ (.bool true) = W := ⟨_, rfl⟩
      replace Vf := Lib.hid (stay1 hwx50 (blk_ne Vf.out HT.out.bW (by decide)) Vf.out)
      replace HR := Lib.hid (HR.out.oneE HT.out.bW (by decide) hwx50)
      replace HT := Lib.hid (HT.out.putWE t5.out true hwx50)
      have lr51 := show wx50.cell? ⟨sR, 1, none⟩ = some ((.slice C2 n2 k2)) from (blk_cell HT.out.bR 1).trans rfl
      obtain ⟨C9, k9, w9, hap, hR3, hg⟩ := HR.out.swap12.push t HT.out.siz (by have := HBD.out; omega)
      replace HT := Lib.hid (HT.out.keptG hg)
      replace Vf := Lib.hid (hg.keep _ _ _ (by decide) Vf.out)
      replace HR := Lib.hid hR3.swap12
      clear hR3 hg
      have lr52 := show w9.cell? ⟨sR, 1, none⟩ = some ((.slice C2 n2 k2)) from (blk_cell HT.out.bR 1).trans rfl
      have lz53 := blk_frozen HT.out.bR 1
      obtain ⟨wx54, hwx54⟩ : ∃ W, w9.setCell ⟨sR, 1, none⟩ (.slice C9 (n2 + 1) k9) = W := ⟨_, rfl⟩
      replace Vf := Lib.hid (stay1 hwx54 (blk_ne Vf.out HT.out.bR (by decide)) Vf.out)
      replace HR := Lib.hid (HR.out.oneE HT.out.bR (by decide) hwx54)
      replace HT := Lib.hid (HT.out.putR2E _ hwx54)
      have lv55 := row10 Vf.out
      have lf57 := HT.out.frame t5.out
      have lz58 := HT.out.frz t
      obtain ⟨wx56, hwx56, hse⟩ := setFr wx54 sF (t * 10) (.int .i64 bop) (.int .i64 bstage) (.int .i64 bphase) (.int .i64 bold) (.int .i64 bsince) (.int .i64 bleft) (.bool bawoke) (.bool bstarve) (.int .i64 3) (.bool bfront)
      replace Vf := Lib.hid (stayO hse (blk_ne Vf.out HT.out.bF (by decide)) Vf.out)
      replace HR := Lib.hid (HR.out.cellsE HT.out.bF (by decide) hse)
      replace HT := Lib.hid (HT.out.putFE t5.out (⟨bop, bstage, bphase, bold, bsince, bleft, bawoke, bstarve, 3, bfront⟩ : MFr) hse)
      clear hse
      have HM2 := Lib.hid (by have h := HM.out.park3 t6.out HWT.out HND.out; rw [← HUF.out] at h; exact h)
      go_wp2_with (at_builtin; refine eapp_run (by rfl) rfl rfl rfl hap ?_)
      refine ⟨?rel, ?measure⟩
      case rel => have := HLT.out; have := HBD.out; have HM2 := HM2; have := HB2.out; unfold Rel16; exact ⟨_, _, i + 1, bg2, n1, k1, (n2 + 1), k9, n3, k3, C1, C9, C3, (updN F t (⟨bop, bstage, bphase, bold, bsince, bleft, bawoke, bstarve, 3, bfront⟩ : MFr)), D2, I, (updN W t true), x0, x1, x2, x3, x4, x5, r1, (r2 ++ [t]), r3, ⟨by kernel_rfl, rfl, rfl⟩, Lib.hid ⟨rfl, by go_num⟩, by omega, by omega, by omega, by omega, by omega, Lib.hid (by first | exact HW5.out | exact (updN_ne (by have := t5.out; omega)).trans HW5.out), HT, HR, HM2⟩
      case measure => have := HLT.out; simp [intOf]; omega
  · have hj := hq.1
    clear hq hI
    subst hj
    have HND := Lib.hid (show (FF t).need = 4 from by rw [HFF.out])
    have lv59 := row10 Vf.out
    have lo60 := row11 (b := sO) HT.out.bO
    by_cases hs : 0 < x3
    · have d3 : decide (0 < x3) = true := by simpa using hs
      have hws : IntKind.i64.wrap (x3 - 1) = x3 - 1 := by have := HFW.out; rw [IntKind.wrap_i64]; omega
      have HM2 := Lib.hid (by have h := HM.out.take4 t6.out HWT.out HND.out hs; rw [HFF.out] at h; rw [← HUF.out, updN_upd] at h; exact h)
      clear hs
      have lo61 := row11 (b := sO) HT.out.bO
      have lz62 := blk_frozen HT.out.bO 4
      obtain ⟨wx63, hwx63⟩ : ∃ W, wc.setCell ⟨sO, 4, none⟩ (.int .i64 (x3 - 1)) = W := ⟨_, rfl⟩
      replace Vf := Lib.hid (stay1 hwx63 (blk_ne Vf.out HT.out.bO (by decide)) Vf.out)
      replace HR := Lib.hid (HR.out.oneE HT.out.bO (by decide) hwx63)
      replace HT := Lib.hid (HT.out.putS4E (x3 - 1) hwx63)
      have vc66 := row10 Vf.out
      have vz65 := blk_frozen Vf.out 8
      obtain ⟨wx64, hwx64⟩ : ∃ W, wx63.setCell ⟨sf, 8, none⟩ (.int .i64 0) = W := ⟨_, rfl⟩
      replace HT := Lib.hid (HT.out.oth1 Vf.out (by decide) (by decide) (by decide) (by decide) (by decide) gf hwx64)
      replace HR := Lib.hid (HR.out.oneE Vf.out (by decide) hwx64)
      replace Vf := Lib.hid (show wx64.heap[sf]? = some (.cells #[.int .i64 bop, .int .i64 bstage, .int .i64 bphase, .int .i64 bold, .int .i64 bsince, .int .i64 bleft, .bool bawoke, .bool bstarve, .int .i64 0, .bool bfront] 31) from hwx64 ▸ blk_set (j := 8) Vf.out (.int .i64 0))
      have lv67 := row10 Vf.out
      have lf69 := HT.out.frame t5.out
      have lz70 := HT.out.frz t
      obtain ⟨wx68, hwx68, hse⟩ := setFr wx64 sF (t * 10) (.int .i64 bop) (.int .i64 bstage) (.int .i64 bphase) (.int .i64 bold) (.int .i64 bsince) (.int .i64 bleft) (.bool bawoke) (.bool bstarve) (.int .i64 0) (.bool bfront)
      replace Vf := Lib.hid (stayO hse (blk_ne Vf.out HT.out.bF (by decide)) Vf.out)
      replace HR := Lib.hid (HR.out.cellsE HT.out.bF (by decide) hse)
      replace HT := Lib.hid (HT.out.putFE t5.out (⟨bop, bstage, bphase, bold, bsince, bleft, bawoke, bstarve, 0, bfront⟩ : MFr) hse)
      clear hse
      go_wp2
      refine ⟨?rel, ?measure⟩
      case rel => have := HLT.out; have := HBD.out; have HM2 := HM2; have := HB2.out; unfold Rel16; exact ⟨_, _, i + 1, bg2, n1, k1, n2, k2, n3, k3, C1, C2, C3, (updN F t (⟨bop, bstage, bphase, bold, bsince, bleft, bawoke, bstarve, 0, bfront⟩ : MFr)), D2, I, W, x0, x1, x2, (x3 - 1), x4, x5, r1, r2, r3, ⟨by kernel_rfl, rfl, rfl⟩, Lib.hid ⟨rfl, by go_num⟩, by omega, by omega, by omega, by omega, by omega, Lib.hid (by first | exact HW5.out | exact (updN_ne (by have := t5.out; omega)).trans HW5.out), HT, HR, HM2⟩
      case measure => have := HLT.out; simp [intOf]; omega
    · have d3 : decide (0 < x3) = false := by simpa using hs
      clear hs
      have lw71 := HT.out.wai t5.out
      have lz72 := blk_frozen HT.out.bW t
      obtain ⟨wx73, hwx73⟩ : ∃ W, wc.setCell ⟨sW, t, none⟩ (.bool true) = W := ⟨_, rfl⟩
      replace Vf := Lib.hid (stay1 hwx73 (blk_ne Vf.out HT.out.bW (by decide)) Vf.out)
      replace HR := Lib.hid (HR.out.oneE HT.out.bW (by decide) hwx73)
      replace HT := Lib.hid (HT.out.putWE t5.out true hwx73)
      have lr74 := show wx73.cell? ⟨sR, 2, none⟩ = some ((.slice C3 n3 k3)) from (blk_cell HT.out.bR 2).trans rfl
      obtain ⟨C9, k9, w9, hap, hR3, hg⟩ := HR.out.swap13.push t HT.out.siz (by have := HBD.out; omega)
      replace HT := Lib.hid (HT.out.keptG hg)
      replace Vf := Lib.hid (hg.keep _ _ _ (by decide) Vf.out)
      replace HR := Lib.hid hR3.swap13
      clear hR3 hg
      have lr75 := show w9.cell? ⟨sR, 2, none⟩ = some ((.slice C3 n3 k3)) from (blk_cell HT.out.bR 2).trans rfl
      have lz76 := blk_frozen HT.out.bR 2
      obtain ⟨wx77, hwx77⟩ : ∃ W, w9.setCell ⟨sR, 2, none⟩ (.slice C9 (n3 + 1) k9) = W := ⟨_, rfl⟩
      replace Vf := Lib.hid (stay1 hwx77 (blk_ne Vf.out HT.out.bR (by decide)) Vf.out)
      replace HR := Lib.hid (HR.out.oneE HT.out.bR (by decide) hwx77)
      replace HT := Lib.hid (HT.out.putR3E _ hwx77)
      have lv78 := row10 Vf.out
      have lf80 := HT.out.frame t5.out
      have lz81 := HT.out.frz t
      obtain ⟨wx79, hwx79, hse⟩ := setFr wx77 sF (t * 10) (.int .i64 bop) (.int .i64 bstage) (.int .i64 bphase) (.int .i64 bold) (.int .i64 bsince) (.int .i64 bleft) (.bool bawoke) (.bool bstarve) (.int .i64 4) (.bool bfront)
      replace Vf := Lib.hid (stayO hse (blk_ne Vf.out HT.out.bF (by decide)) Vf.out)
      replace HR := Lib.hid (HR.out.cellsE HT.out.bF (by decide) hse)
      replace HT := Lib.hid (HT.out.putFE t5.out (⟨bop, bstage, bphase, bold, bsince, bleft, bawoke, bstarve, 4, bfront⟩ : MFr) hse)
      clear hse
      have HM2 := Lib.hid (by have h := HM.out.park4 t6.out HWT.out HND.out; rw [← HUF.out] at h; exact h)
      go_wp2_with (at_builtin; refine eapp_run (by rfl) rfl rfl rfl hap ?_)
      refine ⟨?rel, ?measure⟩
      case rel => have := HLT.out; have := HBD.out; have HM2 := HM2; have := HB2.out; unfold Rel16; exact ⟨_, _, i + 1, bg2, n1, k1, n2, k2, (n3 + 1), k9, C1, C2, C9, (updN F t (⟨bop, bstage, bphase, bold, bsince, bleft, bawoke, bstarve, 4, bfront⟩ : MFr)), D2, I, (updN W t true), x0, x1, x2, x3, x4, x5, r1, r2, (r3 ++ [t]), ⟨by kernel_rfl, rfl, rfl⟩, Lib.hid ⟨rfl, by go_num⟩, by omega, by omega, by omega, by omega, by omega, Lib.hid (by first | exact HW5.out | exact (updN_ne (by have := t5.out; omega)).trans HW5.out), HT, HR, HM2⟩
      case measure => have := HLT.out; simp [intOf]; omega
end Go.Proofs.Ytpkegfochfkkcaa
