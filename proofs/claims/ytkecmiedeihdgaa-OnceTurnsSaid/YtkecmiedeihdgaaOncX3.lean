/- The walk of OnceTurns, one of its arms: it answers true, over any world; no condition. -/
import Derived.Test.YtkecmiedeihdgaaOncXS
import Derived.Deep.Cut
import Derived.Deep.CutRange
namespace Go.Proofs.Ytkecmiedeihdgaa
set_option linter.unusedVariables false
set_option linter.unusedSimpArgs false
open Go.RowKit
set_option maxRecDepth 100000 in
set_option maxHeartbeats 16000000 in
theorem turns18_3 : turns18_skel.2.2.1 := by
  intro nn n c ps B m d ns w NX AL N34 N35 OV b0 b0n hn1 b1 b1n hm1 k hr hw1 hw2 mn hw3 HMN zz0 w1 zz1 zz2 w2 sO sW sE sF i rn rk C F E W clk x0 x1 x2 told over row hi HW5 tf HBD c1 i0 i1 b0_ off0 y y0 y1 zz3 zz4 PX t htm hwy hwt hm0 hm0n hm0m HTT t5 t6 t0 t1 HLT bq HBQ zz5 zz6 zz7 wcl clk2 hcy tfb HWT wx1 sf gf wx2 wc v19 v20 bop bstage bphase bold bsince bleft bawoke bstarve bneed bfront tf2 FF HM HFF HNF HUF HN0 wx5 HT HR Vf su gu Vu et HET zz8 zz9 J K2 hJ hK
  cases et
  · have he : E t = false := HET.out
    obtain ⟨⟨⟨z0, z2⟩, ⟨gop, gstage, gphase, gold, gsince, gleft, gawoke, gstarve, gneed, gfront⟩, ⟨gdn, ggv, ghd, gft⟩, gvl⟩, hr⟩ : ∃ r, onceW x0 x2 (⟨bop, bstage, bphase, bold, bsince, bleft, bawoke, bstarve, bneed, bfront⟩ : MFr) clk2 20 = r := ⟨_, rfl⟩
    have hu := HM.out.once t6.out HWT.out he HNF.out (by rw [HFF.out]; exact HN0.out) clk2 20
    rw [HFF.out, hr, ← HUF.out] at hu
    obtain ⟨hft0, hans⟩ := ans_once he hu
    subst hft0
    have LC := Lib.hid (show ∀ V : World, Calls Try.prog 7 #[.agg #[.int .i64 4, .int .i64 x0, .int .i64 x1, .int .i64 x2, .int .i64 0, .int .i64 0, .int .i64 0, .int .u32 0, .int .u32 0, .slice none 0 0, .slice none 0 0], .agg #[.int .i64 bop, .int .i64 bstage, .int .i64 bphase, .int .i64 bold, .int .i64 bsince, .int .i64 bleft, .bool bawoke, .bool bstarve, .int .i64 bneed, .bool bfront], .int .i64 clk2, .int .i64 20] V (fun e w' => e = .returned (.tuple #[.agg #[.int .i64 4, .int .i64 z0, .int .i64 x1, .int .i64 z2, .int .i64 0, .int .i64 0, .int .i64 0, .int .u32 0, .int .u32 0, .slice none 0 0, .slice none 0 0], .agg #[.int .i64 gop, .int .i64 gstage, .int .i64 gphase, .int .i64 gold, .int .i64 gsince, .int .i64 gleft, .bool gawoke, .bool gstarve, .int .i64 gneed, .bool gfront], .agg #[.bool gdn, .bool false, .bool ghd, .int .i64 ggv, .int .i64 0, .int .u64 gvl, .slice none 0 0]]) ∧ Below V.heap.size V w') from fun V => by have h := onOnce_nil 4 x0 x1 x2 0 0 0 0 0 (⟨bop, bstage, bphase, bold, bsince, bleft, bawoke, bstarve, bneed, bfront⟩ : MFr) clk2 20 HM.out.rng V; rw [hr] at h; exact h)
    have HAN := Lib.hid hans
    clear hr hu hans he
    have lo13 := row11 (b := sO) HT.out.bO
    have lv14 := row10 Vf.out
    go_wp2_with fail
    refine (LC.out _).mono ?_
    rintro e wq ⟨rfl, hb⟩
    clear lo13 lv14
    replace HT := Lib.hid (HT.out.step hb)
    replace HR := Lib.hid (own_below HR.out hb)
    replace Vf := Lib.hid (blk_below Vf.out hb (blk_lt Vf.out))
    replace Vu := Lib.hid (blk_below Vu.out hb (blk_lt Vu.out))
    clear hb
    obtain ⟨mwx15, wx15, hwx15, hse, VN⟩ := set11 HT.out.bO (.int .i64 4) (.int .i64 z0) (.int .i64 x1) (.int .i64 z2) (.int .i64 0) (.int .i64 0) (.int .i64 0) (.int .u32 0) (.int .u32 0) (.slice none 0 0) (.slice none 0 0)
    clear VN
    replace Vf := Lib.hid (stayO hse (blk_ne Vf.out HT.out.bO (by decide)) Vf.out)
    replace Vu := Lib.hid (stayO hse (blk_ne Vu.out HT.out.bO (by decide)) Vu.out)
    replace HR := Lib.hid (own_cellsE HR.out HT.out.bO (by decide) hse)
    replace HT := Lib.hid (HT.out.putOE z0 x1 z2 hse)
    clear hse
    obtain ⟨mwx16, wx16, hwx16, hse, VN⟩ := set10 Vf.out (.int .i64 gop) (.int .i64 gstage) (.int .i64 gphase) (.int .i64 gold) (.int .i64 gsince) (.int .i64 gleft) (.bool gawoke) (.bool gstarve) (.int .i64 gneed) (.bool gfront)
    replace Vu := Lib.hid (stayO hse (blk_ne Vu.out Vf.out (by decide)) Vu.out)
    replace HT := Lib.hid (HT.out.othE Vf.out (by decide) (by decide) (by decide) gf hse)
    replace HR := Lib.hid (own_cellsE HR.out Vf.out (by decide) hse)
    replace Vf := VN
    clear VN hse
    obtain ⟨mwx17, wx17, hwx17, hse, VN⟩ := set7 Vu.out (.bool gdn) (.bool false) (.bool ghd) (.int .i64 ggv) (.int .i64 0) (.int .u64 gvl) (.slice none 0 0)
    replace Vf := Lib.hid (stayO hse (blk_ne Vf.out Vu.out (by decide)) Vf.out)
    replace HT := Lib.hid (HT.out.othE Vu.out (by decide) (by decide) (by decide) gu hse)
    replace HR := Lib.hid (own_cellsE HR.out Vu.out (by decide) hse)
    replace Vu := VN
    clear VN hse
    go_wp2_with fail
    refine Met.intro ?_
    go_step
    exact ⟨_, z0, z2, gop, gstage, gphase, gold, gsince, gleft, gawoke, gstarve, gneed, gfront, gdn, ghd, ggv, gvl, ⟨by kernel_rfl, rfl, rfl⟩, HT, HR, Vf, Vu, HAN⟩
  · have he : E t = true := HET.out
    obtain ⟨⟨⟨z0, z2⟩, ⟨gop, gstage, gphase, gold, gsince, gleft, gawoke, gstarve, gneed, gfront⟩, ⟨gdn, ggv, ghd, gft⟩, gvl⟩, hr⟩ : ∃ r, endW x0 x2 (⟨bop, bstage, bphase, bold, bsince, bleft, bawoke, bstarve, bneed, bfront⟩ : MFr) = r := ⟨_, rfl⟩
    have hu := HM.out.ends t6.out HWT.out he
    rw [HFF.out, hr, ← HUF.out] at hu
    obtain ⟨hft0, hans⟩ := ans_end he hu
    subst hft0
    have LC := Lib.hid (show ∀ V : World, Calls Try.prog 9 #[.agg #[.int .i64 4, .int .i64 x0, .int .i64 x1, .int .i64 x2, .int .i64 0, .int .i64 0, .int .i64 0, .int .u32 0, .int .u32 0, .slice none 0 0, .slice none 0 0], .agg #[.int .i64 bop, .int .i64 bstage, .int .i64 bphase, .int .i64 bold, .int .i64 bsince, .int .i64 bleft, .bool bawoke, .bool bstarve, .int .i64 bneed, .bool bfront]] V (fun e w' => e = .returned (.tuple #[.agg #[.int .i64 4, .int .i64 z0, .int .i64 x1, .int .i64 z2, .int .i64 0, .int .i64 0, .int .i64 0, .int .u32 0, .int .u32 0, .slice none 0 0, .slice none 0 0], .agg #[.int .i64 gop, .int .i64 gstage, .int .i64 gphase, .int .i64 gold, .int .i64 gsince, .int .i64 gleft, .bool gawoke, .bool gstarve, .int .i64 gneed, .bool gfront], .agg #[.bool gdn, .bool false, .bool ghd, .int .i64 ggv, .int .i64 0, .int .u64 gvl, .slice none 0 0]]) ∧ Below V.heap.size V w') from fun V => by have h := onEnd_nil 4 x0 x1 x2 0 0 0 0 0 (⟨bop, bstage, bphase, bold, bsince, bleft, bawoke, bstarve, bneed, bfront⟩ : MFr) HM.out.rng V; rw [hr] at h; exact h)
    have HAN := Lib.hid hans
    clear hr hu hans he
    have lo18 := row11 (b := sO) HT.out.bO
    have lv19 := row10 Vf.out
    go_wp2_with fail
    refine (LC.out _).mono ?_
    rintro e wq ⟨rfl, hb⟩
    clear lo18 lv19
    replace HT := Lib.hid (HT.out.step hb)
    replace HR := Lib.hid (own_below HR.out hb)
    replace Vf := Lib.hid (blk_below Vf.out hb (blk_lt Vf.out))
    replace Vu := Lib.hid (blk_below Vu.out hb (blk_lt Vu.out))
    clear hb
    obtain ⟨mwx20, wx20, hwx20, hse, VN⟩ := set11 HT.out.bO (.int .i64 4) (.int .i64 z0) (.int .i64 x1) (.int .i64 z2) (.int .i64 0) (.int .i64 0) (.int .i64 0) (.int .u32 0) (.int .u32 0) (.slice none 0 0) (.slice none 0 0)
    clear VN
    replace Vf := Lib.hid (stayO hse (blk_ne Vf.out HT.out.bO (by decide)) Vf.out)
    replace Vu := Lib.hid (stayO hse (blk_ne Vu.out HT.out.bO (by decide)) Vu.out)
    replace HR := Lib.hid (own_cellsE HR.out HT.out.bO (by decide) hse)
    replace HT := Lib.hid (HT.out.putOE z0 x1 z2 hse)
    clear hse
    obtain ⟨mwx21, wx21, hwx21, hse, VN⟩ := set10 Vf.out (.int .i64 gop) (.int .i64 gstage) (.int .i64 gphase) (.int .i64 gold) (.int .i64 gsince) (.int .i64 gleft) (.bool gawoke) (.bool gstarve) (.int .i64 gneed) (.bool gfront)
    replace Vu := Lib.hid (stayO hse (blk_ne Vu.out Vf.out (by decide)) Vu.out)
    replace HT := Lib.hid (HT.out.othE Vf.out (by decide) (by decide) (by decide) gf hse)
    replace HR := Lib.hid (own_cellsE HR.out Vf.out (by decide) hse)
    replace Vf := VN
    clear VN hse
    obtain ⟨mwx22, wx22, hwx22, hse, VN⟩ := set7 Vu.out (.bool gdn) (.bool false) (.bool ghd) (.int .i64 ggv) (.int .i64 0) (.int .u64 gvl) (.slice none 0 0)
    replace Vf := Lib.hid (stayO hse (blk_ne Vf.out Vu.out (by decide)) Vf.out)
    replace HT := Lib.hid (HT.out.othE Vu.out (by decide) (by decide) (by decide) gu hse)
    replace HR := Lib.hid (own_cellsE HR.out Vu.out (by decide) hse)
    replace Vu := VN
    clear VN hse
    go_wp2_with fail
    refine Met.intro ?_
    go_step
    exact ⟨_, z0, z2, gop, gstage, gphase, gold, gsince, gleft, gawoke, gstarve, gneed, gfront, gdn, ghd, ggv, gvl, ⟨by kernel_rfl, rfl, rfl⟩, HT, HR, Vf, Vu, HAN⟩
end Go.Proofs.Ytkecmiedeihdgaa
