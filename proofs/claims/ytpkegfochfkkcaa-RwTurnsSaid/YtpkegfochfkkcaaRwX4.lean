/- The walk of RwTurns, one of its arms: it answers true, over any world; no condition. -/
import Derived.Test.YtpkegfochfkkcaaRwXS
import Derived.Deep.Cut
import Derived.Deep.CutRange
namespace Go.Proofs.Ytpkegfochfkkcaa
set_option linter.unusedVariables false
set_option linter.unusedSimpArgs false
open Go.RowKit
set_option maxRecDepth 100000 in
set_option maxHeartbeats 16000000 in
theorem turns16_4 : turns16_skel.2.2.2.1 := by
  intro nn n c ps B m d bs w NX AL N28 N29 N30 N31 b0 b0n hn1 b1 b1n hm1 k hr hw1 hw2 mn hw3 HMN zz0 w1 zz1 zz2 w2 sO sR sW sI sD sF wr i bg n1 k1 n2 k2 n3 k3 C1 C2 C3 F D I W x0 x1 x2 x3 x4 x5 r1 r2 r3 hi HW5 tf HFX HBD c1 i0 i1 b0_ off0 y hcy y0 y1 zz3 zz4 PX t htm hwy hwt hm0 hm0n hm0m HTT t5 t6 t0 t1 HLT HWT wx1 sf gf wx2 zz5 zz6 zz7 wc zz8 v19 zz9 zz10 zz11 zz12 zz13 bg2 D2 HB2 tf2 wx5 su gu wc3 v18 v20 v21 v22 v23 v24 z0 z4 z5 gop gstage gphase gold gsince gleft gawoke gstarve gneed gfront gdn ghd ggv HA tf3 wx8 Vf Vu HR HT zz14 zz15 J K2 hJ hK
  clear Vf
  have HFW := HA
  rcases HA.out with ⟨hgv, hp⟩ | ⟨hgv, hdn, hne, hp⟩ | ⟨hgv, hh, hdn, hne, hp⟩ | ⟨hgv, hh, hdn, hp⟩
  · subst hgv
    have HP := Lib.hid hp
    clear hp HFW HA
    go_wp2_with fail
    refine Met.intro ?_
    go_step
    exact ⟨_, _, _, _, _, _, x1, x2, x3, (updN F t (⟨gop, gstage, gphase, gold, gsince, gleft, gawoke, gstarve, gneed, gfront⟩ : MFr)), W, n1, k1, n2, k2, n3, k3, C1, C2, C3, r1, r2, r3, ⟨by kernel_rfl, rfl, rfl⟩, Lib.hid (by have := HBD.out; omega), HW5, HT, HR, Vu, Lib.hid (HP.out)⟩
  · subst hgv hdn
    have HP := Lib.hid hp
    have HFW2 := Lib.hid hp.few
    have HNE := Lib.hid hne
    clear hne
    clear hp HA HFW
    have hws : IntKind.i64.wrap (x1 + 1) = x1 + 1 := by have := HFW2.out; rw [IntKind.wrap_i64]; omega
    have lv13 := row7 Vu.out
    have lo14 := row11 (b := sO) HT.out.bO
    have lz15 := blk_frozen HT.out.bO 2
    obtain ⟨wx16, hwx16⟩ : ∃ W, wx8.setCell ⟨sO, 2, none⟩ (.int .i64 (x1 + 1)) = W := ⟨_, rfl⟩
    replace Vu := Lib.hid (stay1 hwx16 (blk_ne Vu.out HT.out.bO (by decide)) Vu.out)
    replace HR := Lib.hid (HR.out.oneE HT.out.bO (by decide) hwx16)
    replace HT := Lib.hid (HT.out.putS2E (x1 + 1) hwx16)
    have lr17 := show wx16.cell? ⟨sR, 0, none⟩ = some ((.slice C1 n1 k1)) from (blk_cell HT.out.bR 0).trans rfl
    rcases r1 with _ | ⟨x, rest⟩
    · skip
      have hr0 : n1 = 0 := by have h := HR.out.o1.1; simp [nats, intC] at h; omega
      have y0_ : decide ((0 : Int) < (n1 : Int)) = false := by simp; omega
      have y1_ : decide (0 < n1) = false := by simp; omega
      clear hr0
      go_wp2_with fail
      refine Met.intro ?_
      go_step
      exact ⟨_, _, _, _, _, _, (x1 + 1), x2, x3, (updN F t (⟨gop, gstage, gphase, gold, gsince, gleft, gawoke, gstarve, gneed, gfront⟩ : MFr)), W, n1, k1, n2, k2, n3, k3, C1, C2, C3, [], r2, r3, ⟨by kernel_rfl, rfl, rfl⟩, Lib.hid (by have := HBD.out; omega), HW5, HT, HR, Vu, Lib.hid (Or.inr (Or.inr (Or.inr ⟨rfl, HNE.out, HP.out⟩)))⟩
    · skip
      obtain ⟨hx6, hxw, hxn, hm3⟩ := HP.out.pop1
      have x6 := Lib.hid hx6
      have HXW := Lib.hid hxw
      have HXN := Lib.hid hxn
      have HM3 := Lib.hid hm3
      have hx5 : x < 5 := by have hne5 : x ≠ 5 := fun e5 => (by rw [e5, HW5.out] at hxw; cases hxw); omega
      have x5 := Lib.hid hx5
      have X0 : (0 : Int) ≤ (x : Int) := by omega
      have X1 : (x : Int) < 5 := by omega
      clear hx6 hxw hxn hm3 hx5
      have lb : (wx16.alloc (.cells #[] 3)).cell? ⟨sR, 0, none⟩ = some ((.slice C1 n1 k1)) := (blk_cell ((heap_alloc_old wx16 (.cells #[] 3) (blk_lt HT.out.bR)).trans HT.out.bR) 0).trans rfl
      obtain ⟨⟨rb, roff, re, rhc⟩, hn1, C8, k8, hsl, C9, k9, w9, hap, hR3, hg⟩ := HR.out.drop HT.out.siz (by have := HBD.out; omega)
      subst re
      have y0_ : decide ((0 : Int) < (n1 : Int)) = true := by simp; omega
      have y1_ : decide (0 < n1) = true := by simp; omega
      have y2_ : (0 : Int) < (n1 : Int) := by omega
      have y3_ : 0 < n1 := by omega
      have y4_ : (1 : Int) ≤ (n1 : Int) := by omega
      clear hn1
      replace HT := Lib.hid (HT.out.keptG hg)
      replace Vu := Lib.hid (hg.keep _ _ _ (by decide) Vu.out)
      replace HR := Lib.hid hR3
      clear hR3 hg
      have lr18 := show w9.cell? ⟨sR, 0, none⟩ = some ((.slice (some ⟨rb, roff, none⟩) n1 k1)) from (blk_cell HT.out.bR 0).trans rfl
      have lz19 := blk_frozen HT.out.bR 0
      obtain ⟨wx20, hwx20⟩ : ∃ W, w9.setCell ⟨sR, 0, none⟩ (.slice C9 (n1 - 1) k9) = W := ⟨_, rfl⟩
      replace Vu := Lib.hid (stay1 hwx20 (blk_ne Vu.out HT.out.bR (by decide)) Vu.out)
      replace HR := Lib.hid (HR.out.oneE HT.out.bR (by decide) hwx20)
      replace HT := Lib.hid (HT.out.putR1E _ hwx20)
      have lw21 := HT.out.wai x5.out
      have lz22 := blk_frozen HT.out.bW x
      obtain ⟨wx23, hwx23⟩ : ∃ W, wx20.setCell ⟨sW, x, none⟩ (.bool false) = W := ⟨_, rfl⟩
      replace Vu := Lib.hid (stay1 hwx23 (blk_ne Vu.out HT.out.bW (by decide)) Vu.out)
      replace HR := Lib.hid (HR.out.oneE HT.out.bW (by decide) hwx23)
      replace HT := Lib.hid (HT.out.putWE x5.out false hwx23)
      have lv24 := row7 Vu.out
      cases ghd
      · skip
        go_wp2_with (at_builtin; refine eapp_run (by rfl) rfl rfl rfl hap ?_)
        refine Met.intro ?_
        go_step
        exact ⟨_, _, _, _, _, _, (x1 + 1), x2, x3, (updN F t (⟨gop, gstage, gphase, gold, gsince, gleft, gawoke, gstarve, gneed, gfront⟩ : MFr)), (updN W x false), (n1 - 1), k9, n2, k2, n3, k3, C9, C2, C3, rest, r2, r3, ⟨by kernel_rfl, rfl, rfl⟩, Lib.hid (by have := HBD.out; omega), Lib.hid ((updN_ne (by have := x5.out; omega)).trans HW5.out), HT, HR, Vu, Lib.hid (Or.inr (Or.inr (Or.inr ⟨rfl, HNE.out, HM3.out⟩)))⟩
      · skip
        have hws3 : IntKind.i64.wrap x1 = x1 := by have := HFX.out; rw [IntKind.wrap_i64]; omega
        have hws2 : IntKind.i64.wrap (x1 + 1 - 1) = x1 := by have := HFW2.out; rw [IntKind.wrap_i64]; omega
        have HM4 := Lib.hid (by have h := HM3.out.take2 x6.out updN_self HXN.out (by have := HFW2.out; have := HFX.out; omega); rw [show x1 + 1 - 1 = x1 by omega] at h; exact h)
        have lo25 := row11 (b := sO) HT.out.bO
        have lz26 := blk_frozen HT.out.bO 2
        obtain ⟨wx27, hwx27⟩ : ∃ W, wx23.setCell ⟨sO, 2, none⟩ (.int .i64 x1) = W := ⟨_, rfl⟩
        replace Vu := Lib.hid (stay1 hwx27 (blk_ne Vu.out HT.out.bO (by decide)) Vu.out)
        replace HR := Lib.hid (HR.out.oneE HT.out.bO (by decide) hwx27)
        replace HT := Lib.hid (HT.out.putS2E x1 hwx27)
        have lf28 := HT.out.frame x5.out
        have lz29 := blk_frozen HT.out.bF (x * 10 + 8)
        obtain ⟨wx30, hwx30⟩ : ∃ W, wx27.setCell ⟨sF, x * 10 + 8, none⟩ (.int .i64 0) = W := ⟨_, rfl⟩
        replace Vu := Lib.hid (stay1 hwx30 (blk_ne Vu.out HT.out.bF (by decide)) Vu.out)
        replace HR := Lib.hid (HR.out.oneE HT.out.bF (by decide) hwx30)
        replace HT := Lib.hid (HT.out.putNE x5.out hwx30)
        go_wp2_with (at_builtin; refine eapp_run (by rfl) rfl rfl rfl hap ?_)
        refine Met.intro ?_
        go_step
        exact ⟨_, _, _, _, _, _, x1, x2, x3, (updN (updN F t (⟨gop, gstage, gphase, gold, gsince, gleft, gawoke, gstarve, gneed, gfront⟩ : MFr)) x { (updN F t (⟨gop, gstage, gphase, gold, gsince, gleft, gawoke, gstarve, gneed, gfront⟩ : MFr)) x with need := 0 }), (updN W x false), (n1 - 1), k9, n2, k2, n3, k3, C9, C2, C3, rest, r2, r3, ⟨by kernel_rfl, rfl, rfl⟩, Lib.hid (by have := HBD.out; omega), Lib.hid ((updN_ne (by have := x5.out; omega)).trans HW5.out), HT, HR, Vu, Lib.hid (Or.inr (Or.inr (Or.inr ⟨rfl, HNE.out, HM4.out⟩)))⟩
  · subst hgv hh hdn
    have HP := Lib.hid hp
    have HFW2 := Lib.hid hp.few
    have HNE := Lib.hid hne
    clear hne
    clear hp HA HFW
    have hws : IntKind.i64.wrap (x2 + 1) = x2 + 1 := by have := HFW2.out; rw [IntKind.wrap_i64]; omega
    have lv31 := row7 Vu.out
    have lo32 := row11 (b := sO) HT.out.bO
    have lz33 := blk_frozen HT.out.bO 3
    obtain ⟨wx34, hwx34⟩ : ∃ W, wx8.setCell ⟨sO, 3, none⟩ (.int .i64 (x2 + 1)) = W := ⟨_, rfl⟩
    replace Vu := Lib.hid (stay1 hwx34 (blk_ne Vu.out HT.out.bO (by decide)) Vu.out)
    replace HR := Lib.hid (HR.out.oneE HT.out.bO (by decide) hwx34)
    replace HT := Lib.hid (HT.out.putS3E (x2 + 1) hwx34)
    have lr35 := show wx34.cell? ⟨sR, 1, none⟩ = some ((.slice C2 n2 k2)) from (blk_cell HT.out.bR 1).trans rfl
    rcases r2 with _ | ⟨x, rest⟩
    · skip
      have hr0 : n2 = 0 := by have h := HR.out.o2.1; simp [nats, intC] at h; omega
      have y0_ : decide ((0 : Int) < (n2 : Int)) = false := by simp; omega
      have y1_ : decide (0 < n2) = false := by simp; omega
      clear hr0
      go_wp2_with fail
      refine Met.intro ?_
      go_step
      exact ⟨_, _, _, _, _, _, x1, (x2 + 1), x3, (updN F t (⟨gop, gstage, gphase, gold, gsince, gleft, gawoke, gstarve, gneed, gfront⟩ : MFr)), W, n1, k1, n2, k2, n3, k3, C1, C2, C3, r1, [], r3, ⟨by kernel_rfl, rfl, rfl⟩, Lib.hid (by have := HBD.out; omega), HW5, HT, HR, Vu, Lib.hid (Or.inr (Or.inr (Or.inr ⟨rfl, HNE.out, HP.out⟩)))⟩
    · skip
      obtain ⟨hx6, hxw, hxn, hm3⟩ := HP.out.pop2
      have x6 := Lib.hid hx6
      have HXW := Lib.hid hxw
      have HXN := Lib.hid hxn
      have HM3 := Lib.hid hm3
      have hx5 : x < 5 := by have hne5 : x ≠ 5 := fun e5 => (by rw [e5, HW5.out] at hxw; cases hxw); omega
      have x5 := Lib.hid hx5
      have X0 : (0 : Int) ≤ (x : Int) := by omega
      have X1 : (x : Int) < 5 := by omega
      clear hx6 hxw hxn hm3 hx5
      have lb : (wx34.alloc (.cells #[] 3)).cell? ⟨sR, 1, none⟩ = some ((.slice C2 n2 k2)) := (blk_cell ((heap_alloc_old wx34 (.cells #[] 3) (blk_lt HT.out.bR)).trans HT.out.bR) 1).trans rfl
      obtain ⟨⟨rb, roff, re, rhc⟩, hn1, C8, k8, hsl, C9, k9, w9, hap, hR3, hg⟩ := HR.out.swap12.drop HT.out.siz (by have := HBD.out; omega)
      subst re
      have y0_ : decide ((0 : Int) < (n2 : Int)) = true := by simp; omega
      have y1_ : decide (0 < n2) = true := by simp; omega
      have y2_ : (0 : Int) < (n2 : Int) := by omega
      have y3_ : 0 < n2 := by omega
      have y4_ : (1 : Int) ≤ (n2 : Int) := by omega
      clear hn1
      replace HT := Lib.hid (HT.out.keptG hg)
      replace Vu := Lib.hid (hg.keep _ _ _ (by decide) Vu.out)
      replace HR := Lib.hid hR3.swap12
      clear hR3 hg
      have lr36 := show w9.cell? ⟨sR, 1, none⟩ = some ((.slice (some ⟨rb, roff, none⟩) n2 k2)) from (blk_cell HT.out.bR 1).trans rfl
      have lz37 := blk_frozen HT.out.bR 1
      obtain ⟨wx38, hwx38⟩ : ∃ W, w9.setCell ⟨sR, 1, none⟩ (.slice C9 (n2 - 1) k9) = W := ⟨_, rfl⟩
      replace Vu := Lib.hid (stay1 hwx38 (blk_ne Vu.out HT.out.bR (by decide)) Vu.out)
      replace HR := Lib.hid (HR.out.oneE HT.out.bR (by decide) hwx38)
      replace HT := Lib.hid (HT.out.putR2E _ hwx38)
      have lw39 := HT.out.wai x5.out
      have lz40 := blk_frozen HT.out.bW x
      obtain ⟨wx41, hwx41⟩ : ∃ W, wx38.setCell ⟨sW, x, none⟩ (.bool false) = W := ⟨_, rfl⟩
      replace Vu := Lib.hid (stay1 hwx41 (blk_ne Vu.out HT.out.bW (by decide)) Vu.out)
      replace HR := Lib.hid (HR.out.oneE HT.out.bW (by decide) hwx41)
      replace HT := Lib.hid (HT.out.putWE x5.out false hwx41)
      have lv42 := row7 Vu.out
      go_wp2_with (at_builtin; refine eapp_run (by rfl) rfl rfl rfl hap ?_)
      refine Met.intro ?_
      go_step
      exact ⟨_, _, _, _, _, _, x1, (x2 + 1), x3, (updN F t (⟨gop, gstage, gphase, gold, gsince, gleft, gawoke, gstarve, gneed, gfront⟩ : MFr)), (updN W x false), n1, k1, (n2 - 1), k9, n3, k3, C1, C9, C3, r1, rest, r3, ⟨by kernel_rfl, rfl, rfl⟩, Lib.hid (by have := HBD.out; omega), Lib.hid ((updN_ne (by have := x5.out; omega)).trans HW5.out), HT, HR, Vu, Lib.hid (Or.inr (Or.inr (Or.inr ⟨rfl, HNE.out, HM3.out⟩)))⟩
  · subst hgv hh hdn
    have HP := Lib.hid hp
    have HFW2 := Lib.hid hp.few
    clear hp HA HFW
    have hws : IntKind.i64.wrap (x3 + 1) = x3 + 1 := by have := HFW2.out; rw [IntKind.wrap_i64]; omega
    have lv43 := row7 Vu.out
    have lo44 := row11 (b := sO) HT.out.bO
    have lz45 := blk_frozen HT.out.bO 4
    obtain ⟨wx46, hwx46⟩ : ∃ W, wx8.setCell ⟨sO, 4, none⟩ (.int .i64 (x3 + 1)) = W := ⟨_, rfl⟩
    replace Vu := Lib.hid (stay1 hwx46 (blk_ne Vu.out HT.out.bO (by decide)) Vu.out)
    replace HR := Lib.hid (HR.out.oneE HT.out.bO (by decide) hwx46)
    replace HT := Lib.hid (HT.out.putS4E (x3 + 1) hwx46)
    have lr47 := show wx46.cell? ⟨sR, 2, none⟩ = some ((.slice C3 n3 k3)) from (blk_cell HT.out.bR 2).trans rfl
    rcases r3 with _ | ⟨x, rest⟩
    · skip
      have hr0 : n3 = 0 := by have h := HR.out.o3.1; simp [nats, intC] at h; omega
      have y0_ : decide ((0 : Int) < (n3 : Int)) = false := by simp; omega
      have y1_ : decide (0 < n3) = false := by simp; omega
      clear hr0
      go_wp2_with fail
      refine Met.intro ?_
      go_step
      exact ⟨_, _, _, _, _, _, x1, x2, (x3 + 1), (updN F t (⟨gop, gstage, gphase, gold, gsince, gleft, gawoke, gstarve, gneed, gfront⟩ : MFr)), W, n1, k1, n2, k2, n3, k3, C1, C2, C3, r1, r2, [], ⟨by kernel_rfl, rfl, rfl⟩, Lib.hid (by have := HBD.out; omega), HW5, HT, HR, Vu, Lib.hid (Or.inl ⟨rfl, HP.out⟩)⟩
    · skip
      obtain ⟨hx6, hxw, hxn, hm3⟩ := HP.out.pop3
      have x6 := Lib.hid hx6
      have HXW := Lib.hid hxw
      have HXN := Lib.hid hxn
      have HM3 := Lib.hid hm3
      have hx5 : x < 5 := by have hne5 : x ≠ 5 := fun e5 => (by rw [e5, HW5.out] at hxw; cases hxw); omega
      have x5 := Lib.hid hx5
      have X0 : (0 : Int) ≤ (x : Int) := by omega
      have X1 : (x : Int) < 5 := by omega
      clear hx6 hxw hxn hm3 hx5
      have lb : (wx46.alloc (.cells #[] 3)).cell? ⟨sR, 2, none⟩ = some ((.slice C3 n3 k3)) := (blk_cell ((heap_alloc_old wx46 (.cells #[] 3) (blk_lt HT.out.bR)).trans HT.out.bR) 2).trans rfl
      obtain ⟨⟨rb, roff, re, rhc⟩, hn1, C8, k8, hsl, C9, k9, w9, hap, hR3, hg⟩ := HR.out.swap13.drop HT.out.siz (by have := HBD.out; omega)
      subst re
      have y0_ : decide ((0 : Int) < (n3 : Int)) = true := by simp; omega
      have y1_ : decide (0 < n3) = true := by simp; omega
      have y2_ : (0 : Int) < (n3 : Int) := by omega
      have y3_ : 0 < n3 := by omega
      have y4_ : (1 : Int) ≤ (n3 : Int) := by omega
      clear hn1
      replace HT := Lib.hid (HT.out.keptG hg)
      replace Vu := Lib.hid (hg.keep _ _ _ (by decide) Vu.out)
      replace HR := Lib.hid hR3.swap13
      clear hR3 hg
      have lr48 := show w9.cell? ⟨sR, 2, none⟩ = some ((.slice (some ⟨rb, roff, none⟩) n3 k3)) from (blk_cell HT.out.bR 2).trans rfl
      have lz49 := blk_frozen HT.out.bR 2
      obtain ⟨wx50, hwx50⟩ : ∃ W, w9.setCell ⟨sR, 2, none⟩ (.slice C9 (n3 - 1) k9) = W := ⟨_, rfl⟩
      replace Vu := Lib.hid (stay1 hwx50 (blk_ne Vu.out HT.out.bR (by decide)) Vu.out)
      replace HR := Lib.hid (HR.out.oneE HT.out.bR (by decide) hwx50)
      replace HT := Lib.hid (HT.out.putR3E _ hwx50)
      have lw51 := HT.out.wai x5.out
      have lz52 := blk_frozen HT.out.bW x
      obtain ⟨wx53, hwx53⟩ : ∃ W, wx50.setCell ⟨sW, x, none⟩ (.bool false) = W := ⟨_, rfl⟩
      replace Vu := Lib.hid (stay1 hwx53 (blk_ne Vu.out HT.out.bW (by decide)) Vu.out)
      replace HR := Lib.hid (HR.out.oneE HT.out.bW (by decide) hwx53)
      replace HT := Lib.hid (HT.out.putWE x5.out false hwx53)
      have lv54 := row7 Vu.out
      go_wp2_with (at_builtin; refine eapp_run (by rfl) rfl rfl rfl hap ?_)
      refine Met.intro ?_
      go_step
      exact ⟨_, _, _, _, _, _, x1, x2, (x3 + 1), (updN F t (⟨gop, gstage, gphase, gold, gsince, gleft, gawoke, gstarve, gneed, gfront⟩ : MFr)), (updN W x false), n1, k1, n2, k2, (n3 - 1), k9, C1, C2, C9, r1, r2, rest, ⟨by kernel_rfl, rfl, rfl⟩, Lib.hid (by have := HBD.out; omega), Lib.hid ((updN_ne (by have := x5.out; omega)).trans HW5.out), HT, HR, Vu, Lib.hid (Or.inl ⟨rfl, HM3.out⟩)⟩
end Go.Proofs.Ytpkegfochfkkcaa
