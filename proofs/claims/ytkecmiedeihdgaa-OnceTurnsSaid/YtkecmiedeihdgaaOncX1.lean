/- The walk of OnceTurns, one of its arms: it answers true, over any world; no condition. -/
import Derived.Test.YtkecmiedeihdgaaOncXS
import Derived.Deep.Cut
import Derived.Deep.CutRange
namespace Go.Proofs.Ytkecmiedeihdgaa
set_option linter.unusedVariables false
set_option linter.unusedSimpArgs false
open Go.RowKit
set_option maxRecDepth 100000 in
set_option maxHeartbeats 16000000 in
theorem turns18_1 : turns18_skel.1 := by
  intro nn n c ps B m d ns w NX AL N34 N35 OV b0 b0n hn1 b1 b1n hm1 k hr hw1 hw2 mn hw3 HMN zz0 w1 zz1 zz2 w2 sO sW sE sF i rn rk C F E W clk x0 x1 x2 told over row hi HW5 HM tf HBD c1 i0 i1 b0_ off0 y y0 y1 zz3 zz4 PX t htm hwy hwt hm0 hm0n hm0m HTT t5 t6 t0 t1 HLT bq HBQ zz5 zz6 zz7 wcl clk2 hcy tfb HWT op stage phase old since left awoke starve need front HFT wx1 sf gf wx2 HT HR Vf bz HBZ zz8 zz9 J K2 hJ hK
  cases bz
  · skip
    go_wp2_with fail
    refine Met.intro ?_
    go_step
    exact ⟨_, _, op, stage, phase, old, since, left, awoke, starve, need, front, ⟨by kernel_rfl, rfl, rfl⟩, HT, HR, Vf, Lib.hid ⟨by rw [← HFT.out, updN_id rfl]; exact HM.out, fun h => (by cases (HBZ.out.2 h))⟩⟩
  · have HF0 := Lib.hid (HFT.out.trans (HBZ.out.1 rfl))
    go_wp2_with fail
    refine (N34.out _).mono ?_
    rintro e wb ⟨rfl, hb⟩
    replace HT := Lib.hid (HT.out.step hb)
    replace HR := Lib.hid (own_below HR.out hb)
    replace Vf := Lib.hid (blk_below Vf.out hb (blk_lt Vf.out))
    clear hb
    obtain ⟨mwx13, wx13, hwx13, hse, VN⟩ := set10 Vf.out (.int .i64 34) (.int .i64 0) (.int .i64 0) (.int .i64 0) (.int .i64 (-1)) (.int .i64 0) (.bool false) (.bool false) (.int .i64 0) (.bool false)
    replace HT := Lib.hid (HT.out.othE Vf.out (by decide) (by decide) (by decide) gf hse)
    replace HR := Lib.hid (own_cellsE HR.out Vf.out (by decide) hse)
    replace Vf := VN
    clear VN hse
    go_wp2_with fail
    refine Met.intro ?_
    go_step
    exact ⟨_, _, 34, 0, 0, 0, (-1), 0, false, false, 0, false, ⟨by kernel_rfl, rfl, rfl⟩, HT, HR, Vf, Lib.hid ⟨(HM.out.begin t6.out HF0.out).2, fun h => (by cases h)⟩⟩
end Go.Proofs.Ytkecmiedeihdgaa
