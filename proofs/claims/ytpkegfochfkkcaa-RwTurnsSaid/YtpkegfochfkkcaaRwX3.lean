/- The walk of RwTurns, one of its arms: it answers true, over any world; no condition. -/
import Derived.Test.YtpkegfochfkkcaaRwXS
import Derived.Deep.Cut
import Derived.Deep.CutRange
namespace Go.Proofs.Ytpkegfochfkkcaa
set_option linter.unusedVariables false
set_option linter.unusedSimpArgs false
open Go.RowKit
set_option maxRecDepth 100000 in
set_option maxHeartbeats 16000000 in
theorem turns16_3 : turns16_skel.2.2.1 := by
  intro nn n c ps B m d bs w NX AL N28 N29 N30 N31 b0 b0n hn1 b1 b1n hm1 k hr hw1 hw2 mn hw3 HMN zz0 w1 zz1 zz2 w2 sO sR sW sI sD sF wr i bg n1 k1 n2 k2 n3 k3 C1 C2 C3 F D I W x0 x1 x2 x3 x4 x5 r1 r2 r3 hi HW5 tf HFX HBD c1 i0 i1 b0_ off0 y hcy y0 y1 zz3 zz4 PX t htm hwy hwt hm0 hm0n hm0m HTT t5 t6 t0 t1 HLT HWT wx1 sf gf wx2 zz5 zz6 zz7 wc v18 v19 v20 v21 v22 v23 v24 bg2 D2 bop bstage bphase bold bsince bleft bawoke bstarve bneed bfront HB2 tf2 FF HM HFF HNF HUF HN0 wx5 HT HR Vf su gu Vu dt HDT zz8 zz9 J K2 hJ hK
  rcases HM.out.does t6.out HNF.out with ⟨hI, hD⟩ | ⟨hI, hD⟩ | ⟨hI, hD⟩ | ⟨hI, hD⟩
  · obtain rfl : 28 = dt := hD.symm.trans HDT.out
    obtain ⟨⟨⟨z0, z4, z5⟩, ⟨gop, gstage, gphase, gold, gsince, gleft, gawoke, gstarve, gneed, gfront⟩, ⟨gdn, ggv, ghd, gft⟩⟩, hr⟩ : ∃ r, rlockW x0 x4 x5 (⟨bop, bstage, bphase, bold, bsince, bleft, bawoke, bstarve, bneed, bfront⟩ : MFr) = r := ⟨_, rfl⟩
    have hu := HM.out.rlock t6.out HWT.out hI hD (by rw [HFF.out]; exact HN0.out)
    rw [HFF.out, hr, ← HUF.out] at hu
    obtain ⟨hft0, hans⟩ := ans_lock (Or.inl ⟨rfl, rfl⟩) hD hI hu
    subst hft0
    have LC := Lib.hid (show ∀ V : World, Calls Try.prog 9 #[.agg #[.int .i64 2, .int .i64 x0, .int .i64 x1, .int .i64 x2, .int .i64 x3, .int .i64 x4, .int .i64 x5, .int .u32 0, .int .u32 0, .slice none 0 0, .slice none 0 0], .agg #[.int .i64 bop, .int .i64 bstage, .int .i64 bphase, .int .i64 bold, .int .i64 bsince, .int .i64 bleft, .bool bawoke, .bool bstarve, .int .i64 bneed, .bool bfront]] V (fun e w' => e = .returned (.tuple #[.agg #[.int .i64 2, .int .i64 z0, .int .i64 x1, .int .i64 x2, .int .i64 x3, .int .i64 z4, .int .i64 z5, .int .u32 0, .int .u32 0, .slice none 0 0, .slice none 0 0], .agg #[.int .i64 gop, .int .i64 gstage, .int .i64 gphase, .int .i64 gold, .int .i64 gsince, .int .i64 gleft, .bool gawoke, .bool gstarve, .int .i64 gneed, .bool gfront], .agg #[.bool gdn, .bool false, .bool ghd, .int .i64 ggv, .int .i64 0, .int .u64 0, .slice none 0 0]]) ∧ Below V.heap.size V w') from fun V => by have h := rwRLock_nil 2 x0 x1 x2 x3 x4 x5 0 0 (⟨bop, bstage, bphase, bold, bsince, bleft, bawoke, bstarve, bneed, bfront⟩ : MFr) HM.out.rng V; rw [hr] at h; exact h)
    have HAN := Lib.hid hans
    clear hr hu hans hI hD
    have lo13 := row11 (b := sO) HT.out.bO
    have lv14 := row10 Vf.out
    go_wp2_with fail
    refine (LC.out _).mono ?_
    rintro e wq ⟨rfl, hb⟩
    clear lo13 lv14
    replace HT := Lib.hid (HT.out.step hb)
    replace HR := Lib.hid (HR.out.step hb)
    replace Vf := Lib.hid (blk_below Vf.out hb (blk_lt Vf.out))
    replace Vu := Lib.hid (blk_below Vu.out hb (blk_lt Vu.out))
    clear hb
    obtain ⟨mwx15, wx15, hwx15, hse, VN⟩ := set11 HT.out.bO (.int .i64 2) (.int .i64 z0) (.int .i64 x1) (.int .i64 x2) (.int .i64 x3) (.int .i64 z4) (.int .i64 z5) (.int .u32 0) (.int .u32 0) (.slice none 0 0) (.slice none 0 0)
    clear VN
    replace Vf := Lib.hid (stayO hse (blk_ne Vf.out HT.out.bO (by decide)) Vf.out)
    replace Vu := Lib.hid (stayO hse (blk_ne Vu.out HT.out.bO (by decide)) Vu.out)
    replace HR := Lib.hid (HR.out.cellsE HT.out.bO (by decide) hse)
    replace HT := Lib.hid (HT.out.putOE z0 x1 x2 x3 z4 z5 hse)
    clear hse
    obtain ⟨mwx16, wx16, hwx16, hse, VN⟩ := set10 Vf.out (.int .i64 gop) (.int .i64 gstage) (.int .i64 gphase) (.int .i64 gold) (.int .i64 gsince) (.int .i64 gleft) (.bool gawoke) (.bool gstarve) (.int .i64 gneed) (.bool gfront)
    replace Vu := Lib.hid (stayO hse (blk_ne Vu.out Vf.out (by decide)) Vu.out)
    replace HT := Lib.hid (HT.out.othE Vf.out (by decide) (by decide) (by decide) (by decide) (by decide) gf hse)
    replace HR := Lib.hid (HR.out.cellsE Vf.out (by decide) hse)
    replace Vf := VN
    clear VN hse
    obtain ⟨mwx17, wx17, hwx17, hse, VN⟩ := set7 Vu.out (.bool gdn) (.bool false) (.bool ghd) (.int .i64 ggv) (.int .i64 0) (.int .u64 0) (.slice none 0 0)
    replace Vf := Lib.hid (stayO hse (blk_ne Vf.out Vu.out (by decide)) Vf.out)
    replace HT := Lib.hid (HT.out.othE Vu.out (by decide) (by decide) (by decide) (by decide) (by decide) gu hse)
    replace HR := Lib.hid (HR.out.cellsE Vu.out (by decide) hse)
    replace Vu := VN
    clear VN hse
    go_wp2_with fail
    refine Met.intro ?_
    go_step
    exact ⟨_, _, _, _, _, _, z0, z4, z5, gop, gstage, gphase, gold, gsince, gleft, gawoke, gstarve, gneed, gfront, gdn, ghd, ggv, ⟨by kernel_rfl, rfl, rfl⟩, HT, HR, Vf, Vu, HAN⟩
  · obtain rfl : 29 = dt := hD.symm.trans HDT.out
    obtain ⟨⟨⟨z0, z4, z5⟩, ⟨gop, gstage, gphase, gold, gsince, gleft, gawoke, gstarve, gneed, gfront⟩, ⟨gdn, ggv, ghd, gft⟩⟩, hr⟩ : ∃ r, runlockW x0 x4 x5 (⟨bop, bstage, bphase, bold, bsince, bleft, bawoke, bstarve, bneed, bfront⟩ : MFr) = r := ⟨_, rfl⟩
    have hu := HM.out.runlock t6.out HWT.out hI hD
    rw [HFF.out, hr, ← HUF.out] at hu
    obtain ⟨hft0, hans⟩ := ans_runlock hD hI hu
    subst hft0
    have LC := Lib.hid (show ∀ V : World, Calls Try.prog 11 #[.agg #[.int .i64 2, .int .i64 x0, .int .i64 x1, .int .i64 x2, .int .i64 x3, .int .i64 x4, .int .i64 x5, .int .u32 0, .int .u32 0, .slice none 0 0, .slice none 0 0], .agg #[.int .i64 bop, .int .i64 bstage, .int .i64 bphase, .int .i64 bold, .int .i64 bsince, .int .i64 bleft, .bool bawoke, .bool bstarve, .int .i64 bneed, .bool bfront]] V (fun e w' => e = .returned (.tuple #[.agg #[.int .i64 2, .int .i64 z0, .int .i64 x1, .int .i64 x2, .int .i64 x3, .int .i64 z4, .int .i64 z5, .int .u32 0, .int .u32 0, .slice none 0 0, .slice none 0 0], .agg #[.int .i64 gop, .int .i64 gstage, .int .i64 gphase, .int .i64 gold, .int .i64 gsince, .int .i64 gleft, .bool gawoke, .bool gstarve, .int .i64 gneed, .bool gfront], .agg #[.bool gdn, .bool false, .bool ghd, .int .i64 ggv, .int .i64 0, .int .u64 0, .slice none 0 0]]) ∧ Below V.heap.size V w') from fun V => by have h := rwRUnlock_nil 2 x0 x1 x2 x3 x4 x5 0 0 (⟨bop, bstage, bphase, bold, bsince, bleft, bawoke, bstarve, bneed, bfront⟩ : MFr) HM.out.rng V; rw [hr] at h; exact h)
    have HAN := Lib.hid hans
    clear hr hu hans hI hD
    have lo18 := row11 (b := sO) HT.out.bO
    have lv19 := row10 Vf.out
    go_wp2_with fail
    refine (LC.out _).mono ?_
    rintro e wq ⟨rfl, hb⟩
    clear lo18 lv19
    replace HT := Lib.hid (HT.out.step hb)
    replace HR := Lib.hid (HR.out.step hb)
    replace Vf := Lib.hid (blk_below Vf.out hb (blk_lt Vf.out))
    replace Vu := Lib.hid (blk_below Vu.out hb (blk_lt Vu.out))
    clear hb
    obtain ⟨mwx20, wx20, hwx20, hse, VN⟩ := set11 HT.out.bO (.int .i64 2) (.int .i64 z0) (.int .i64 x1) (.int .i64 x2) (.int .i64 x3) (.int .i64 z4) (.int .i64 z5) (.int .u32 0) (.int .u32 0) (.slice none 0 0) (.slice none 0 0)
    clear VN
    replace Vf := Lib.hid (stayO hse (blk_ne Vf.out HT.out.bO (by decide)) Vf.out)
    replace Vu := Lib.hid (stayO hse (blk_ne Vu.out HT.out.bO (by decide)) Vu.out)
    replace HR := Lib.hid (HR.out.cellsE HT.out.bO (by decide) hse)
    replace HT := Lib.hid (HT.out.putOE z0 x1 x2 x3 z4 z5 hse)
    clear hse
    obtain ⟨mwx21, wx21, hwx21, hse, VN⟩ := set10 Vf.out (.int .i64 gop) (.int .i64 gstage) (.int .i64 gphase) (.int .i64 gold) (.int .i64 gsince) (.int .i64 gleft) (.bool gawoke) (.bool gstarve) (.int .i64 gneed) (.bool gfront)
    replace Vu := Lib.hid (stayO hse (blk_ne Vu.out Vf.out (by decide)) Vu.out)
    replace HT := Lib.hid (HT.out.othE Vf.out (by decide) (by decide) (by decide) (by decide) (by decide) gf hse)
    replace HR := Lib.hid (HR.out.cellsE Vf.out (by decide) hse)
    replace Vf := VN
    clear VN hse
    obtain ⟨mwx22, wx22, hwx22, hse, VN⟩ := set7 Vu.out (.bool gdn) (.bool false) (.bool ghd) (.int .i64 ggv) (.int .i64 0) (.int .u64 0) (.slice none 0 0)
    replace Vf := Lib.hid (stayO hse (blk_ne Vf.out Vu.out (by decide)) Vf.out)
    replace HT := Lib.hid (HT.out.othE Vu.out (by decide) (by decide) (by decide) (by decide) (by decide) gu hse)
    replace HR := Lib.hid (HR.out.cellsE Vu.out (by decide) hse)
    replace Vu := VN
    clear VN hse
    go_wp2_with fail
    refine Met.intro ?_
    go_step
    exact ⟨_, _, _, _, _, _, z0, z4, z5, gop, gstage, gphase, gold, gsince, gleft, gawoke, gstarve, gneed, gfront, gdn, ghd, ggv, ⟨by kernel_rfl, rfl, rfl⟩, HT, HR, Vf, Vu, HAN⟩
  · obtain rfl : 30 = dt := hD.symm.trans HDT.out
    obtain ⟨⟨⟨z0, z4, z5⟩, ⟨gop, gstage, gphase, gold, gsince, gleft, gawoke, gstarve, gneed, gfront⟩, ⟨gdn, ggv, ghd, gft⟩⟩, hr⟩ : ∃ r, wlockW x0 x4 x5 (⟨bop, bstage, bphase, bold, bsince, bleft, bawoke, bstarve, bneed, bfront⟩ : MFr) (i : Int) 20 = r := ⟨_, rfl⟩
    have hu := HM.out.wlock t6.out HWT.out hI hD (by rw [HFF.out]; exact HN0.out) (i : Int) 20
    rw [HFF.out, hr, ← HUF.out] at hu
    obtain ⟨hft0, hans⟩ := ans_lock (Or.inr ⟨rfl, rfl⟩) hD hI hu
    subst hft0
    have LC := Lib.hid (show ∀ V : World, Calls Try.prog 16 #[.agg #[.int .i64 2, .int .i64 x0, .int .i64 x1, .int .i64 x2, .int .i64 x3, .int .i64 x4, .int .i64 x5, .int .u32 0, .int .u32 0, .slice none 0 0, .slice none 0 0], .agg #[.int .i64 bop, .int .i64 bstage, .int .i64 bphase, .int .i64 bold, .int .i64 bsince, .int .i64 bleft, .bool bawoke, .bool bstarve, .int .i64 bneed, .bool bfront], .int .i64 (i : Int), .int .i64 20] V (fun e w' => e = .returned (.tuple #[.agg #[.int .i64 2, .int .i64 z0, .int .i64 x1, .int .i64 x2, .int .i64 x3, .int .i64 z4, .int .i64 z5, .int .u32 0, .int .u32 0, .slice none 0 0, .slice none 0 0], .agg #[.int .i64 gop, .int .i64 gstage, .int .i64 gphase, .int .i64 gold, .int .i64 gsince, .int .i64 gleft, .bool gawoke, .bool gstarve, .int .i64 gneed, .bool gfront], .agg #[.bool gdn, .bool false, .bool ghd, .int .i64 ggv, .int .i64 0, .int .u64 0, .slice none 0 0]]) ∧ Below V.heap.size V w') from fun V => by have h := rwWLock_nil 2 x0 x1 x2 x3 x4 x5 0 0 (⟨bop, bstage, bphase, bold, bsince, bleft, bawoke, bstarve, bneed, bfront⟩ : MFr) (i : Int) 20 HM.out.rng V; rw [hr] at h; exact h)
    have HAN := Lib.hid hans
    clear hr hu hans hI hD
    have lo23 := row11 (b := sO) HT.out.bO
    have lv24 := row10 Vf.out
    go_wp2_with fail
    refine (LC.out _).mono ?_
    rintro e wq ⟨rfl, hb⟩
    clear lo23 lv24
    replace HT := Lib.hid (HT.out.step hb)
    replace HR := Lib.hid (HR.out.step hb)
    replace Vf := Lib.hid (blk_below Vf.out hb (blk_lt Vf.out))
    replace Vu := Lib.hid (blk_below Vu.out hb (blk_lt Vu.out))
    clear hb
    obtain ⟨mwx25, wx25, hwx25, hse, VN⟩ := set11 HT.out.bO (.int .i64 2) (.int .i64 z0) (.int .i64 x1) (.int .i64 x2) (.int .i64 x3) (.int .i64 z4) (.int .i64 z5) (.int .u32 0) (.int .u32 0) (.slice none 0 0) (.slice none 0 0)
    clear VN
    replace Vf := Lib.hid (stayO hse (blk_ne Vf.out HT.out.bO (by decide)) Vf.out)
    replace Vu := Lib.hid (stayO hse (blk_ne Vu.out HT.out.bO (by decide)) Vu.out)
    replace HR := Lib.hid (HR.out.cellsE HT.out.bO (by decide) hse)
    replace HT := Lib.hid (HT.out.putOE z0 x1 x2 x3 z4 z5 hse)
    clear hse
    obtain ⟨mwx26, wx26, hwx26, hse, VN⟩ := set10 Vf.out (.int .i64 gop) (.int .i64 gstage) (.int .i64 gphase) (.int .i64 gold) (.int .i64 gsince) (.int .i64 gleft) (.bool gawoke) (.bool gstarve) (.int .i64 gneed) (.bool gfront)
    replace Vu := Lib.hid (stayO hse (blk_ne Vu.out Vf.out (by decide)) Vu.out)
    replace HT := Lib.hid (HT.out.othE Vf.out (by decide) (by decide) (by decide) (by decide) (by decide) gf hse)
    replace HR := Lib.hid (HR.out.cellsE Vf.out (by decide) hse)
    replace Vf := VN
    clear VN hse
    obtain ⟨mwx27, wx27, hwx27, hse, VN⟩ := set7 Vu.out (.bool gdn) (.bool false) (.bool ghd) (.int .i64 ggv) (.int .i64 0) (.int .u64 0) (.slice none 0 0)
    replace Vf := Lib.hid (stayO hse (blk_ne Vf.out Vu.out (by decide)) Vf.out)
    replace HT := Lib.hid (HT.out.othE Vu.out (by decide) (by decide) (by decide) (by decide) (by decide) gu hse)
    replace HR := Lib.hid (HR.out.cellsE Vu.out (by decide) hse)
    replace Vu := VN
    clear VN hse
    go_wp2_with fail
    refine Met.intro ?_
    go_step
    exact ⟨_, _, _, _, _, _, z0, z4, z5, gop, gstage, gphase, gold, gsince, gleft, gawoke, gstarve, gneed, gfront, gdn, ghd, ggv, ⟨by kernel_rfl, rfl, rfl⟩, HT, HR, Vf, Vu, HAN⟩
  · obtain rfl : 31 = dt := hD.symm.trans HDT.out
    obtain ⟨⟨⟨z0, z4, z5⟩, ⟨gop, gstage, gphase, gold, gsince, gleft, gawoke, gstarve, gneed, gfront⟩, ⟨gdn, ggv, ghd, gft⟩⟩, hr⟩ : ∃ r, wunlockW x0 x4 x5 (⟨bop, bstage, bphase, bold, bsince, bleft, bawoke, bstarve, bneed, bfront⟩ : MFr) = r := ⟨_, rfl⟩
    have hu := HM.out.wunlock t6.out HWT.out hI hD
    rw [HFF.out, hr, ← HUF.out] at hu
    obtain ⟨hft0, hans⟩ := ans_wunlock hD hI hu
    subst hft0
    have LC := Lib.hid (show ∀ V : World, Calls Try.prog 18 #[.agg #[.int .i64 2, .int .i64 x0, .int .i64 x1, .int .i64 x2, .int .i64 x3, .int .i64 x4, .int .i64 x5, .int .u32 0, .int .u32 0, .slice none 0 0, .slice none 0 0], .agg #[.int .i64 bop, .int .i64 bstage, .int .i64 bphase, .int .i64 bold, .int .i64 bsince, .int .i64 bleft, .bool bawoke, .bool bstarve, .int .i64 bneed, .bool bfront]] V (fun e w' => e = .returned (.tuple #[.agg #[.int .i64 2, .int .i64 z0, .int .i64 x1, .int .i64 x2, .int .i64 x3, .int .i64 z4, .int .i64 z5, .int .u32 0, .int .u32 0, .slice none 0 0, .slice none 0 0], .agg #[.int .i64 gop, .int .i64 gstage, .int .i64 gphase, .int .i64 gold, .int .i64 gsince, .int .i64 gleft, .bool gawoke, .bool gstarve, .int .i64 gneed, .bool gfront], .agg #[.bool gdn, .bool false, .bool ghd, .int .i64 ggv, .int .i64 0, .int .u64 0, .slice none 0 0]]) ∧ Below V.heap.size V w') from fun V => by have h := rwWUnlock_nil 2 x0 x1 x2 x3 x4 x5 0 0 (⟨bop, bstage, bphase, bold, bsince, bleft, bawoke, bstarve, bneed, bfront⟩ : MFr) HM.out.rng V; rw [hr] at h; exact h)
    have HAN := Lib.hid hans
    clear hr hu hans hI hD
    have lo28 := row11 (b := sO) HT.out.bO
    have lv29 := row10 Vf.out
    go_wp2_with fail
    refine (LC.out _).mono ?_
    rintro e wq ⟨rfl, hb⟩
    clear lo28 lv29
    replace HT := Lib.hid (HT.out.step hb)
    replace HR := Lib.hid (HR.out.step hb)
    replace Vf := Lib.hid (blk_below Vf.out hb (blk_lt Vf.out))
    replace Vu := Lib.hid (blk_below Vu.out hb (blk_lt Vu.out))
    clear hb
    obtain ⟨mwx30, wx30, hwx30, hse, VN⟩ := set11 HT.out.bO (.int .i64 2) (.int .i64 z0) (.int .i64 x1) (.int .i64 x2) (.int .i64 x3) (.int .i64 z4) (.int .i64 z5) (.int .u32 0) (.int .u32 0) (.slice none 0 0) (.slice none 0 0)
    clear VN
    replace Vf := Lib.hid (stayO hse (blk_ne Vf.out HT.out.bO (by decide)) Vf.out)
    replace Vu := Lib.hid (stayO hse (blk_ne Vu.out HT.out.bO (by decide)) Vu.out)
    replace HR := Lib.hid (HR.out.cellsE HT.out.bO (by decide) hse)
    replace HT := Lib.hid (HT.out.putOE z0 x1 x2 x3 z4 z5 hse)
    clear hse
    obtain ⟨mwx31, wx31, hwx31, hse, VN⟩ := set10 Vf.out (.int .i64 gop) (.int .i64 gstage) (.int .i64 gphase) (.int .i64 gold) (.int .i64 gsince) (.int .i64 gleft) (.bool gawoke) (.bool gstarve) (.int .i64 gneed) (.bool gfront)
    replace Vu := Lib.hid (stayO hse (blk_ne Vu.out Vf.out (by decide)) Vu.out)
    replace HT := Lib.hid (HT.out.othE Vf.out (by decide) (by decide) (by decide) (by decide) (by decide) gf hse)
    replace HR := Lib.hid (HR.out.cellsE Vf.out (by decide) hse)
    replace Vf := VN
    clear VN hse
    obtain ⟨mwx32, wx32, hwx32, hse, VN⟩ := set7 Vu.out (.bool gdn) (.bool false) (.bool ghd) (.int .i64 ggv) (.int .i64 0) (.int .u64 0) (.slice none 0 0)
    replace Vf := Lib.hid (stayO hse (blk_ne Vf.out Vu.out (by decide)) Vf.out)
    replace HT := Lib.hid (HT.out.othE Vu.out (by decide) (by decide) (by decide) (by decide) (by decide) gu hse)
    replace HR := Lib.hid (HR.out.cellsE Vu.out (by decide) hse)
    replace Vu := VN
    clear VN hse
    go_wp2_with fail
    refine Met.intro ?_
    go_step
    exact ⟨_, _, _, _, _, _, z0, z4, z5, gop, gstage, gphase, gold, gsince, gleft, gawoke, gstarve, gneed, gfront, gdn, ghd, ggv, ⟨by kernel_rfl, rfl, rfl⟩, HT, HR, Vf, Vu, HAN⟩
end Go.Proofs.Ytpkegfochfkkcaa
