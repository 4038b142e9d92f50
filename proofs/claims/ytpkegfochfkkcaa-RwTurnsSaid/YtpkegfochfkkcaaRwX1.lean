/- The walk of RwTurns, one of its arms: it answers true, over any world; no condition. -/
import Derived.Test.YtpkegfochfkkcaaRwXS
import Derived.Deep.Cut
import Derived.Deep.CutRange
namespace Go.Proofs.Ytpkegfochfkkcaa
set_option linter.unusedVariables false
set_option linter.unusedSimpArgs false
open Go.RowKit
set_option maxRecDepth 100000 in
set_option maxHeartbeats 16000000 in
theorem turns16_1 : turns16_skel.1 := by
  intro nn n c ps B m d bs w NX AL N28 N29 N30 N31 b0 b0n hn1 b1 b1n hm1 k hr hw1 hw2 mn hw3 HMN zz0 w1 zz1 zz2 w2 sO sR sW sI sD sF wr i bg n1 k1 n2 k2 n3 k3 C1 C2 C3 F D I W x0 x1 x2 x3 x4 x5 r1 r2 r3 hi HW5 HM tf HFX HBD c1 i0 i1 b0_ off0 y hcy y0 y1 zz3 zz4 PX t htm hwy hwt hm0 hm0n hm0m HTT t5 t6 t0 t1 HLT HWT op stage phase old since left awoke starve need front HFT wx1 sf gf wx2 HT HR Vf bz HBZ zz5 zz6 zz7 zz8 zz9 J K2 hJ hK
  have hbg := HBD.out.1
  have HBG := Lib.hid hbg
  clear hbg
  cases bz
  · skip
    go_wp2_with fail
    refine Met.intro ?_
    go_step
    exact ⟨_, _, _, _, _, _, _, _, bg, D, op, stage, phase, old, since, left, awoke, starve, need, front, ⟨by kernel_rfl, rfl, rfl⟩, Lib.hid ⟨rfl, by have := HBG.out; omega⟩, HT, HR, Vf, Lib.hid ⟨by rw [← HFT.out, updN_self_id]; exact HM.out, fun h => (by cases (HBZ.out.2 h))⟩⟩
  · have HF0 := Lib.hid (HFT.out.trans (HBZ.out.1 rfl))
    have HI0 := Lib.hid (HM.out.idle t6.out HF0.out).1
    have bg0 : (0 : Int) ≤ (bg : Int) := by omega
    have bg1 : (bg : Int) < 300 := by have := HBG.out; omega
    have ld13 := HT.out.doe t5.out
    have lz14 := blk_frozen HT.out.bD t
    obtain ⟨wx15, hwx15⟩ : ∃ W, wx2.setCell ⟨sD, t, none⟩ (.int .i64 28) = W := ⟨_, rfl⟩
    replace Vf := Lib.hid (stay1 hwx15 (blk_ne Vf.out HT.out.bD (by decide)) Vf.out)
    replace HR := Lib.hid (HR.out.oneE HT.out.bD (by decide) hwx15)
    replace HT := Lib.hid (HT.out.putDE t5.out 28 hwx15)
    by_cases hq : bg < m
    · have q1 : decide ((bg : Int) < (m : Int)) = true := by simpa using hq
      have q2 : decide (bg < m) = true := by simpa using hq
      have q3 : (0 : Int) ≤ (bg : Int) := by omega
      have q4 : (bg : Int) < (m : Int) := by omega
      obtain ⟨b1_, off1, v, e1, hcx⟩ := bo_look (Es.below NX.out HT.out.bel) bg hq
      subst e1
      clear hq
      cases v
      · skip
        have cdt := HT.out.doe t5.out
        rw [updN_self] at cdt
        go_wp2_with fail
        refine (N28.out _).mono ?_
        rintro e wb ⟨rfl, hb⟩
        clear ld13 lz14 hwx15 cdt
        replace HT := Lib.hid (HT.out.step hb)
        replace HR := Lib.hid (HR.out.step hb)
        replace Vf := Lib.hid (blk_below Vf.out hb (blk_lt Vf.out))
        clear hb
        obtain ⟨mwx16, wx16, hwx16, hse, VN⟩ := set10 Vf.out (.int .i64 28) (.int .i64 0) (.int .i64 0) (.int .i64 0) (.int .i64 (-1)) (.int .i64 0) (.bool false) (.bool false) (.int .i64 0) (.bool false)
        replace HT := Lib.hid (HT.out.othE Vf.out (by decide) (by decide) (by decide) (by decide) (by decide) gf hse)
        replace HR := Lib.hid (HR.out.cellsE Vf.out (by decide) hse)
        replace Vf := VN
        clear VN hse
        go_wp2_with fail
        refine Met.intro ?_
        go_step
        exact ⟨_, _, _, _, _, _, _, _, bg + 1, updN D t 28, 28, 0, 0, 0, (-1), 0, false, false, 0, false, ⟨by kernel_rfl, rfl, rfl⟩, Lib.hid ⟨by have := HBG.out; go_num, by have := HBG.out; omega⟩, HT, HR, Vf, Lib.hid ⟨by have h := HM.out.begin28 t6.out HWT.out HF0.out; rw [updN_id HI0.out] at h; exact h, fun h => (by cases h)⟩⟩
      · skip
        have ld17 := HT.out.doe t5.out
        have lz18 := blk_frozen HT.out.bD t
        obtain ⟨wx19, hwx19⟩ : ∃ W, wx15.setCell ⟨sD, t, none⟩ (.int .i64 30) = W := ⟨_, rfl⟩
        replace Vf := Lib.hid (stay1 hwx19 (blk_ne Vf.out HT.out.bD (by decide)) Vf.out)
        replace HR := Lib.hid (HR.out.oneE HT.out.bD (by decide) hwx19)
        replace HT := Lib.hid (HT.out.putDE t5.out 30 hwx19)
        have cdt := HT.out.doe t5.out
        rw [updN_self] at cdt
        go_wp2_with fail
        refine (N30.out _).mono ?_
        rintro e wb ⟨rfl, hb⟩
        clear ld13 lz14 hwx15 ld17 lz18 hwx19 cdt
        replace HT := Lib.hid (HT.out.step hb)
        replace HR := Lib.hid (HR.out.step hb)
        replace Vf := Lib.hid (blk_below Vf.out hb (blk_lt Vf.out))
        clear hb
        obtain ⟨mwx20, wx20, hwx20, hse, VN⟩ := set10 Vf.out (.int .i64 30) (.int .i64 0) (.int .i64 0) (.int .i64 0) (.int .i64 (-1)) (.int .i64 0) (.bool false) (.bool false) (.int .i64 0) (.bool false)
        replace HT := Lib.hid (HT.out.othE Vf.out (by decide) (by decide) (by decide) (by decide) (by decide) gf hse)
        replace HR := Lib.hid (HR.out.cellsE Vf.out (by decide) hse)
        replace Vf := VN
        clear VN hse
        have HT9 := HT.out
        rw [updN_upd] at HT9
        replace HT := Lib.hid HT9
        clear HT9
        go_wp2_with fail
        refine Met.intro ?_
        go_step
        exact ⟨_, _, _, _, _, _, _, _, bg + 1, updN D t 30, 30, 0, 0, 0, (-1), 0, false, false, 0, false, ⟨by kernel_rfl, rfl, rfl⟩, Lib.hid ⟨by have := HBG.out; go_num, by have := HBG.out; omega⟩, HT, HR, Vf, Lib.hid ⟨by have h := HM.out.begin30 t6.out HWT.out HF0.out; rw [updN_id HI0.out] at h; exact h, fun h => (by cases h)⟩⟩
    · have q1 : decide ((bg : Int) < (m : Int)) = false := by simp; omega
      have q2 : decide (bg < m) = false := by simp; omega
      clear hq
      have cdt := HT.out.doe t5.out
      rw [updN_self] at cdt
      go_wp2_with fail
      refine (N28.out _).mono ?_
      rintro e wb ⟨rfl, hb⟩
      clear ld13 lz14 hwx15 cdt
      replace HT := Lib.hid (HT.out.step hb)
      replace HR := Lib.hid (HR.out.step hb)
      replace Vf := Lib.hid (blk_below Vf.out hb (blk_lt Vf.out))
      clear hb
      obtain ⟨mwx21, wx21, hwx21, hse, VN⟩ := set10 Vf.out (.int .i64 28) (.int .i64 0) (.int .i64 0) (.int .i64 0) (.int .i64 (-1)) (.int .i64 0) (.bool false) (.bool false) (.int .i64 0) (.bool false)
      replace HT := Lib.hid (HT.out.othE Vf.out (by decide) (by decide) (by decide) (by decide) (by decide) gf hse)
      replace HR := Lib.hid (HR.out.cellsE Vf.out (by decide) hse)
      replace Vf := VN
      clear VN hse
      go_wp2_with fail
      refine Met.intro ?_
      go_step
      exact ⟨_, _, _, _, _, _, _, _, bg + 1, updN D t 28, 28, 0, 0, 0, (-1), 0, false, false, 0, false, ⟨by kernel_rfl, rfl, rfl⟩, Lib.hid ⟨by have := HBG.out; go_num, by have := HBG.out; omega⟩, HT, HR, Vf, Lib.hid ⟨by have h := HM.out.begin28 t6.out HWT.out HF0.out; rw [updN_id HI0.out] at h; exact h, fun h => (by cases h)⟩⟩
end Go.Proofs.Ytpkegfochfkkcaa
