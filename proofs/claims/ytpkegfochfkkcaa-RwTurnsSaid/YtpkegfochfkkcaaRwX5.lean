/- The walk of RwTurns, one of its arms: it answers true, over any world; no condition. -/
import Derived.Test.YtpkegfochfkkcaaRwXS
import Derived.Deep.Cut
import Derived.Deep.CutRange
namespace Go.Proofs.Ytpkegfochfkkcaa
set_option linter.unusedVariables false
set_option linter.unusedSimpArgs false
open Go.RowKit
set_option maxRecDepth 100000 in
set_option maxHeartbeats 16000000 in
theorem turns16_5 : turns16_skel.2.2.2.2.1 := by
  intro nn n c ps B m d bs w NX AL N28 N29 N30 N31 b0 b0n hn1 b1 b1n hm1 k hr hw1 hw2 mn hw3 HMN zz0 w1 zz1 zz2 w2 sO sR sW sI sD sF wr i bg n1 k1 n2 k2 n3 k3 C1 C2 C3 F D I W x0 x1 x2 x3 x4 x5 r1 r2 r3 hi tf HFX c1 i0 i1 b0_ off0 y hcy y0 zz3 zz4 zz5 PX t htm hwy hwt hm0 hm0n hm0m HTT t5 t6 t0 t1 HLT HWT wx1 sf gf wx2 zz6 zz7 zz8 wc zz9 v19 zz10 zz11 zz12 zz13 zz14 bg2 D2 HB2 tf2 wx5 su gu wc3 zz15 zz16 zz17 zz18 zz19 zz20 z0 z4 z5 ghd ggv tf3 wx8 wc4 v18 v20 v21 v22 v23 v24 y1 y2 y3 F3 W3 m1 j1 m2 j2 m3 j3 E1 E2 E3 s1 s2 s3 HW5 HT HR HBD tf4 Vu HPD dt HDT zz21 zz22 J K2 hJ hK
  rcases HPD.out with ⟨hdn, hp⟩ | ⟨_, hD, hp⟩ | ⟨_, hD, hp⟩ | ⟨_, hne, hp⟩
  · cases hdn
  · obtain rfl : 28 = dt := hD.symm.trans HDT.out
    have HP := Lib.hid hp
    clear hp hD
    have ld13 := HT.out.doe t5.out
    have lz14 := blk_frozen HT.out.bD t
    obtain ⟨wx15, hwx15⟩ : ∃ W, wc4.setCell ⟨sD, t, none⟩ (.int .i64 29) = W := ⟨_, rfl⟩
    replace HR := Lib.hid (HR.out.oneE HT.out.bD (by decide) hwx15)
    replace HT := Lib.hid (HT.out.putDE t5.out 29 hwx15)
    have li16 := HT.out.ins t5.out
    have lz17 := blk_frozen HT.out.bI t
    obtain ⟨wx18, hwx18⟩ : ∃ W, wx15.setCell ⟨sI, t, none⟩ (.bool true) = W := ⟨_, rfl⟩
    replace HR := Lib.hid (HR.out.oneE HT.out.bI (by decide) hwx18)
    replace HT := Lib.hid (HT.out.putIE t5.out true hwx18)
    go_wp2_with fail
    refine (N29.out _).mono ?_
    rintro e wb ⟨rfl, hb⟩
    clear ld13 lz14 hwx15 li16 lz17 hwx18
    replace HT := Lib.hid (HT.out.step hb)
    replace HR := Lib.hid (HR.out.step hb)
    clear hb
    have lf20 := HT.out.frame t5.out
    have lz21 := HT.out.frz t
    obtain ⟨wx19, hwx19, hse⟩ := setFr wb sF (t * 10) (.int .i64 29) (.int .i64 0) (.int .i64 0) (.int .i64 0) (.int .i64 (-1)) (.int .i64 0) (.bool false) (.bool false) (.int .i64 0) (.bool false)
    replace HR := Lib.hid (HR.out.cellsE HT.out.bF (by decide) hse)
    replace HT := Lib.hid (HT.out.putFE t5.out (beginF 29) hse)
    clear hse
    go_wp2_with fail
    refine Met.intro ?_
    go_step
    exact ⟨_, _, _, _, _, _, (updN F3 t (beginF 29)), (updN D2 t 29), (updN I t true), ⟨by kernel_rfl, rfl, rfl⟩, HT, HR, HP⟩
  · obtain rfl : 30 = dt := hD.symm.trans HDT.out
    have HP := Lib.hid hp
    clear hp hD
    have ld22 := HT.out.doe t5.out
    have lz23 := blk_frozen HT.out.bD t
    obtain ⟨wx24, hwx24⟩ : ∃ W, wc4.setCell ⟨sD, t, none⟩ (.int .i64 31) = W := ⟨_, rfl⟩
    replace HR := Lib.hid (HR.out.oneE HT.out.bD (by decide) hwx24)
    replace HT := Lib.hid (HT.out.putDE t5.out 31 hwx24)
    have li25 := HT.out.ins t5.out
    have lz26 := blk_frozen HT.out.bI t
    obtain ⟨wx27, hwx27⟩ : ∃ W, wx24.setCell ⟨sI, t, none⟩ (.bool true) = W := ⟨_, rfl⟩
    replace HR := Lib.hid (HR.out.oneE HT.out.bI (by decide) hwx27)
    replace HT := Lib.hid (HT.out.putIE t5.out true hwx27)
    go_wp2_with fail
    refine (N31.out _).mono ?_
    rintro e wb ⟨rfl, hb⟩
    clear ld22 lz23 hwx24 li25 lz26 hwx27
    replace HT := Lib.hid (HT.out.step hb)
    replace HR := Lib.hid (HR.out.step hb)
    clear hb
    have lf29 := HT.out.frame t5.out
    have lz30 := HT.out.frz t
    obtain ⟨wx28, hwx28, hse⟩ := setFr wb sF (t * 10) (.int .i64 31) (.int .i64 0) (.int .i64 0) (.int .i64 0) (.int .i64 (-1)) (.int .i64 0) (.bool false) (.bool false) (.int .i64 0) (.bool false)
    replace HR := Lib.hid (HR.out.cellsE HT.out.bF (by decide) hse)
    replace HT := Lib.hid (HT.out.putFE t5.out (beginF 31) hse)
    clear hse
    go_wp2_with fail
    refine Met.intro ?_
    go_step
    exact ⟨_, _, _, _, _, _, (updN F3 t (beginF 31)), (updN D2 t 31), (updN I t true), ⟨by kernel_rfl, rfl, rfl⟩, HT, HR, HP⟩
  · have n28 : (dt == 28) = false := by have := HDT.out; simp; omega
    have n30 : (dt == 30) = false := by have := HDT.out; simp; omega
    have HP := Lib.hid hp
    clear hp hne
    have li31 := HT.out.ins t5.out
    have lz32 := blk_frozen HT.out.bI t
    obtain ⟨wx33, hwx33⟩ : ∃ W, wc4.setCell ⟨sI, t, none⟩ (.bool false) = W := ⟨_, rfl⟩
    replace HR := Lib.hid (HR.out.oneE HT.out.bI (by decide) hwx33)
    replace HT := Lib.hid (HT.out.putIE t5.out false hwx33)
    go_wp2_with fail
    refine Met.intro ?_
    go_step
    exact ⟨_, _, _, _, _, _, F3, D2, (updN I t false), ⟨by kernel_rfl, rfl, rfl⟩, HT, HR, HP⟩
end Go.Proofs.Ytpkegfochfkkcaa
