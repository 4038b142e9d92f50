/- The walk of MutexTurns: it answers true, over any world; no condition. -/
import Derived.Test.YtagaijghfikdoaaMutXS
import Derived.Deep.Cut
import Derived.Deep.CutRange
namespace Go.Proofs.Ytagaijghfikdoaa
set_option linter.unusedVariables false
set_option linter.unusedSimpArgs false
open Go.RowKit
set_option maxRecDepth 100000 in
set_option maxHeartbeats 16000000 in
theorem turns15_f : turns15_skel.2.1 := by
  intro nn n c ps B m d ns w NX AL N1 N2 b0 b0n hn1 b1 b1n hm1 k hr hw1 hw2 mn hw3 HMN r0 w1 r1 r2 w2 sO sW sI sF u6 u15 u16 u17 u18 u19 u20 r3 r4 r5 r6 r7 r8 r9 r10 r11 r12 r13 r14 r15 r16 r17 r18 r19 r20 r21 r22 r23 r24 r25 r26 r27 r28 r29 r30 r31 r32 r33 r34 r35 r36 r37 r38 r39 r40 r41 r42 r43 r44 r45 r46 r47 r48 r49 r50 r51 r52 r53 r54 r55 r56 r57 r58 r59 r60 r61 r62 r63 r64 r65 r66 r67 r68 r69 r70 r71 r72 r73 r74 r75 r76 r77 r78 r79 r80 r81 r82 r83 r84 r85 r86 r87 r88 r89 r90 r91 r92 r93 r94 r95 r96 r97 r98 r99 r100 r101 r102 r103 r104 r105 r106 r107 r108 r109 r110 r111 r112 r113 r114 r115 r116 r117 r118 r119 r120 r121 r122 r123 r124 r125 r126 r127 r128 r129 r130 r131 r132 r133 r134 r135 r136 r137 r138 r139 r140 r141 r142 r143 r144 r145 r146 r147 r148 r149 r150 r151 r152 r153 r154 r155 r156 r157 r158 r159 r160 r161 r162 r163 r164 r165 r166 r167 r168 i rn rc C clk F I W a s row hi hrn c1 i0 i1 b0_ off0 y y0 y1 r169 r170 PX t htm hwy hwt hm0 hm0n hm0m HTT t6 t0 t1 HLT bq HBQ r171 r172 r173 r174 clk2 hcy HWT r352 r353 wc u36 u37 u38 u39 u40 u41 u42 u43 u44 u45 u46 u47 u48 u49 u50 u51 u52 u53 u54 u55 u56 u57 u58 u59 u60 u61 u62 u63 u64 u65 u66 u67 u68 u69 u70 u71 u72 u73 u74 u75 u76 u77 u78 u79 u80 u81 u82 u83 u84 u85 u86 u87 u88 u89 u90 u91 u92 u93 u94 u95 u96 u97 u98 u99 u100 u101 u102 u103 u104 u105 u106 u107 u108 u109 u110 u111 u112 u113 u114 u115 u116 u117 u118 u119 u120 u121 u122 u123 u124 u125 u126 u127 u128 u129 u130 u131 u132 u133 u134 u135 u136 u137 u138 u139 u140 u141 u142 u143 u144 u145 u146 u147 u148 u149 u150 u151 u152 u153 u154 u155 u156 u157 u158 u159 u160 u161 u162 u163 u164 u165 u166 u167 u168 u169 u170 u171 u172 u173 u174 u175 u176 u177 u178 u179 u180 u181 u182 u183 u184 u185 u186 u187 u188 u189 u190 u191 u192 u193 u194 u195 u196 u197 u198 u199 u200 u201 F2 HT HR HM op stage phase old since left awoke starve need front HFT aq0 aq1 aq2 aq3 aq4 aq5 aq6 aq7 aq8 aq9 d2 HN0 WA wn wk hwk hbi
  · skip
    obtain ⟨⟨z, ⟨gop, gstage, gphase, gold, gsince, gleft, gawoke, gstarve, gneed, gfront⟩, ⟨gdn, ggv, ghd, gft⟩⟩, hr⟩ : ∃ r, lockM a (⟨op, stage, phase, old, since, left, awoke, starve, need, front⟩ : MFr) clk2 20 = r := ⟨_, rfl⟩
    have hu := HM.out.lock t6.out HWT.out hbi HN0.out clk2 20
    unfold LockTo at hu
    rw [HFT.out, hr] at hu
    simp only at hu
    have LC := Lib.hid (show ∀ V : World, Calls Try.prog 10 #[.agg #[.int .i64 1, .int .i64 a, .int .i64 s, .int .i64 0, .int .i64 0, .int .i64 0, .int .i64 0, .int .u32 0, .int .u32 0, .slice none 0 0, .slice none 0 0], .agg #[.int .i64 op, .int .i64 stage, .int .i64 phase, .int .i64 old, .int .i64 since, .int .i64 left, .bool awoke, .bool starve, .int .i64 need, .bool front], .int .i64 clk2, .int .i64 20] V (fun e w' => e = .returned (.tuple #[.agg #[.int .i64 1, .int .i64 z, .int .i64 s, .int .i64 0, .int .i64 0, .int .i64 0, .int .i64 0, .int .u32 0, .int .u32 0, .slice none 0 0, .slice none 0 0], .agg #[.int .i64 gop, .int .i64 gstage, .int .i64 gphase, .int .i64 gold, .int .i64 gsince, .int .i64 gleft, .bool gawoke, .bool gstarve, .int .i64 gneed, .bool gfront], .agg #[.bool gdn, .bool false, .bool ghd, .int .i64 ggv, .int .i64 gft, .int .u64 0, .slice WA wn wk]]) ∧ Below V.heap.size V w') from fun V => by have h := muLock_nil 1 a s 0 0 0 0 0 0 (⟨op, stage, phase, old, since, left, awoke, starve, need, front⟩ : MFr) clk2 20  V; rw [hr] at h; rw [hwk]; exact h)
    have HBI := Lib.hid hbi
    have HU := Lib.hid hu
    clear hr hu hwk hbi
    obtain ⟨wx1, hwx1⟩ : ∃ W, (wc.alloc (.cells #[.bool false, .bool false, .bool false, .int .i64 0, .int .i64 0, .int .u64 0, .slice none 0 0] 39)) = W := ⟨_, rfl⟩
    have hb : Below wc.heap.size wc wx1 := hwx1 ▸ (Below.refl _ _).alloc (Nat.le_refl _) _
    have hv0 : wx1.heap[wc.heap.size]? = some (.cells #[.bool false, .bool false, .bool false, .int .i64 0, .int .i64 0, .int .u64 0, .slice none 0 0] 39) := hwx1 ▸ heap_alloc_new _ _
    have gu : w.heap.size ≤ wc.heap.size := HT.out.siz
    replace HT := Lib.hid (HT.out.step hb)
    replace HR := Lib.hid (own_below HR.out hb)
    have Vu := Lib.hid hv0
    obtain ⟨su, hsu⟩ : ∃ x, wc.heap.size = x := ⟨_, rfl⟩
    rw [hsu] at Vu gu
    clear hb hv0
    have ci := HT.out.ins t6.out
    rw [HBI.out] at ci
    obtain ⟨bq0, bq1, bq2, bq3, bq4, bq5, bq6, bq7, bq8, bq9⟩ := HT.out.frame t6.out
    rw [HFT.out] at bq0 bq1 bq2 bq3 bq4 bq5 bq6 bq7 bq8 bq9
    obtain ⟨wx2, hwx2⟩ : ∃ W, (wx1.alloc (.cells #[.int .i64 0, .int .i64 0, .int .i64 0, .int .i64 0, .int .i64 0, .int .i64 0, .bool false, .bool false, .int .i64 0, .bool false] 31)) = W := ⟨_, rfl⟩
    have hb : Below wx1.heap.size wx1 wx2 := hwx2 ▸ (Below.refl _ _).alloc (Nat.le_refl _) _
    have hv0 : wx2.heap[wx1.heap.size]? = some (.cells #[.int .i64 0, .int .i64 0, .int .i64 0, .int .i64 0, .int .i64 0, .int .i64 0, .bool false, .bool false, .int .i64 0, .bool false] 31) := hwx2 ▸ heap_alloc_new _ _
    have gf : w.heap.size ≤ wx1.heap.size := HT.out.siz
    replace HT := Lib.hid (HT.out.step hb)
    replace HR := Lib.hid (own_below HR.out hb)
    replace Vu := Lib.hid (blk_below Vu.out hb (blk_lt Vu.out))
    have Vf := Lib.hid hv0
    obtain ⟨sf, hsf⟩ : ∃ x, wx1.heap.size = x := ⟨_, rfl⟩
    rw [hsf] at Vf gf
    clear hb hv0
    obtain ⟨cfc0, cfc1, cfc2, cfc3, cfc4, cfc5, cfc6, cfc7, cfc8, cfc9⟩ := row10 Vf.out
    obtain ⟨cfz0, cfz1, cfz2, cfz3, cfz4, cfz5, cfz6, cfz7, cfz8, cfz9⟩ := frz10 Vf.out
    obtain ⟨wx3, hwx3⟩ : ∃ W, ((((((((((wx2.setCell ⟨sf, 0, none⟩ (.int .i64 op)).setCell ⟨sf, 1, none⟩ (.int .i64 stage)).setCell ⟨sf, 2, none⟩ (.int .i64 phase)).setCell ⟨sf, 3, none⟩ (.int .i64 old)).setCell ⟨sf, 4, none⟩ (.int .i64 since)).setCell ⟨sf, 5, none⟩ (.int .i64 left)).setCell ⟨sf, 6, none⟩ (.bool awoke)).setCell ⟨sf, 7, none⟩ (.bool starve)).setCell ⟨sf, 8, none⟩ (.int .i64 need)).setCell ⟨sf, 9, none⟩ (.bool front)) = W := ⟨_, rfl⟩
    have hse : wx2.setCells sf 0 [.int .i64 op, .int .i64 stage, .int .i64 phase, .int .i64 old, .int .i64 since, .int .i64 left, .bool awoke, .bool starve, .int .i64 need, .bool front] = wx3 := hwx3
    replace Vu := Lib.hid (hse ▸ keepS Vu.out (blk_ne Vu.out Vf.out (by decide)) 0 [.int .i64 op, .int .i64 stage, .int .i64 phase, .int .i64 old, .int .i64 since, .int .i64 left, .bool awoke, .bool starve, .int .i64 need, .bool front])
    replace HT := Lib.hid (hse ▸ HT.out.othS Vf.out (by decide) (by decide) (by decide) gf 0 [.int .i64 op, .int .i64 stage, .int .i64 phase, .int .i64 old, .int .i64 since, .int .i64 left, .bool awoke, .bool starve, .int .i64 need, .bool front])
    replace HR := Lib.hid (hse ▸ own_setCells (by decide) [.int .i64 op, .int .i64 stage, .int .i64 phase, .int .i64 old, .int .i64 since, .int .i64 left, .bool awoke, .bool starve, .int .i64 need, .bool front] 0 HR.out Vf.out)
    replace Vf := Lib.hid (show wx3.heap[sf]? = some (.cells #[.int .i64 op, .int .i64 stage, .int .i64 phase, .int .i64 old, .int .i64 since, .int .i64 left, .bool awoke, .bool starve, .int .i64 need, .bool front] 31) from hse ▸ heap_setCells [.int .i64 op, .int .i64 stage, .int .i64 phase, .int .i64 old, .int .i64 since, .int .i64 left, .bool awoke, .bool starve, .int .i64 need, .bool front] wx2 [] [.int .i64 0, .int .i64 0, .int .i64 0, .int .i64 0, .int .i64 0, .int .i64 0, .bool false, .bool false, .int .i64 0, .bool false] rfl Vf.out)
    clear hse
    obtain ⟨do0, do1, do2, do3, do4, do5, do6, do7, do8, do9, do10⟩ := row11 (b := sO) HT.out.bO
    obtain ⟨dfc0, dfc1, dfc2, dfc3, dfc4, dfc5, dfc6, dfc7, dfc8, dfc9⟩ := row10 Vf.out
    go_wp2_with fail
    refine (LC.out _).mono ?_
    rintro e wq ⟨rfl, hb⟩
    clear aq0 aq1 aq2 aq3 aq4 aq5 aq6 aq7 aq8 aq9 d2 hwx1 hsu ci bq0 bq1 bq2 bq3 bq4 bq5 bq6 bq7 bq8 bq9 hwx2 hsf cfc0 cfc1 cfc2 cfc3 cfc4 cfc5 cfc6 cfc7 cfc8 cfc9 cfz0 cfz1 cfz2 cfz3 cfz4 cfz5 cfz6 cfz7 cfz8 cfz9 hwx3 do0 do1 do2 do3 do4 do5 do6 do7 do8 do9 do10 dfc0 dfc1 dfc2 dfc3 dfc4 dfc5 dfc6 dfc7 dfc8 dfc9
    replace HT := Lib.hid (HT.out.step hb)
    replace HR := Lib.hid (own_below HR.out hb)
    replace Vu := Lib.hid (blk_below Vu.out hb (blk_lt Vu.out))
    replace Vf := Lib.hid (blk_below Vf.out hb (blk_lt Vf.out))
    clear hb
    obtain ⟨eo0, eo1, eo2, eo3, eo4, eo5, eo6, eo7, eo8, eo9, eo10⟩ := row11 (b := sO) HT.out.bO
    obtain ⟨ey0, ey1, ey2, ey3, ey4, ey5, ey6, ey7, ey8, ey9, ey10⟩ := frz11 (b := sO) HT.out.bO
    obtain ⟨wx4, hwx4⟩ : ∃ W, (((((((((((wq.setCell ⟨sO, 0, none⟩ (.int .i64 1)).setCell ⟨sO, 1, none⟩ (.int .i64 z)).setCell ⟨sO, 2, none⟩ (.int .i64 s)).setCell ⟨sO, 3, none⟩ (.int .i64 0)).setCell ⟨sO, 4, none⟩ (.int .i64 0)).setCell ⟨sO, 5, none⟩ (.int .i64 0)).setCell ⟨sO, 6, none⟩ (.int .i64 0)).setCell ⟨sO, 7, none⟩ (.int .u32 0)).setCell ⟨sO, 8, none⟩ (.int .u32 0)).setCell ⟨sO, 9, none⟩ (.slice none 0 0)).setCell ⟨sO, 10, none⟩ (.slice none 0 0)) = W := ⟨_, rfl⟩
    have hse : wq.setCells sO 0 (muC z s) = wx4 := hwx4
    replace Vu := Lib.hid (hse ▸ keepS Vu.out (blk_ne Vu.out HT.out.bO (by decide)) 0 (muC z s))
    replace Vf := Lib.hid (hse ▸ keepS Vf.out (blk_ne Vf.out HT.out.bO (by decide)) 0 (muC z s))
    replace HR := Lib.hid (hse ▸ own_setCells (by decide) (muC z s) 0 HR.out HT.out.bO)
    replace HT := Lib.hid (hse ▸ HT.out.putO z s)
    clear hse
    obtain ⟨ffc0, ffc1, ffc2, ffc3, ffc4, ffc5, ffc6, ffc7, ffc8, ffc9⟩ := row10 Vf.out
    obtain ⟨ffz0, ffz1, ffz2, ffz3, ffz4, ffz5, ffz6, ffz7, ffz8, ffz9⟩ := frz10 Vf.out
    obtain ⟨wx5, hwx5⟩ : ∃ W, ((((((((((wx4.setCell ⟨sf, 0, none⟩ (.int .i64 gop)).setCell ⟨sf, 1, none⟩ (.int .i64 gstage)).setCell ⟨sf, 2, none⟩ (.int .i64 gphase)).setCell ⟨sf, 3, none⟩ (.int .i64 gold)).setCell ⟨sf, 4, none⟩ (.int .i64 gsince)).setCell ⟨sf, 5, none⟩ (.int .i64 gleft)).setCell ⟨sf, 6, none⟩ (.bool gawoke)).setCell ⟨sf, 7, none⟩ (.bool gstarve)).setCell ⟨sf, 8, none⟩ (.int .i64 gneed)).setCell ⟨sf, 9, none⟩ (.bool gfront)) = W := ⟨_, rfl⟩
    have hse : wx4.setCells sf 0 [.int .i64 gop, .int .i64 gstage, .int .i64 gphase, .int .i64 gold, .int .i64 gsince, .int .i64 gleft, .bool gawoke, .bool gstarve, .int .i64 gneed, .bool gfront] = wx5 := hwx5
    replace Vu := Lib.hid (hse ▸ keepS Vu.out (blk_ne Vu.out Vf.out (by decide)) 0 [.int .i64 gop, .int .i64 gstage, .int .i64 gphase, .int .i64 gold, .int .i64 gsince, .int .i64 gleft, .bool gawoke, .bool gstarve, .int .i64 gneed, .bool gfront])
    replace HT := Lib.hid (hse ▸ HT.out.othS Vf.out (by decide) (by decide) (by decide) gf 0 [.int .i64 gop, .int .i64 gstage, .int .i64 gphase, .int .i64 gold, .int .i64 gsince, .int .i64 gleft, .bool gawoke, .bool gstarve, .int .i64 gneed, .bool gfront])
    replace HR := Lib.hid (hse ▸ own_setCells (by decide) [.int .i64 gop, .int .i64 gstage, .int .i64 gphase, .int .i64 gold, .int .i64 gsince, .int .i64 gleft, .bool gawoke, .bool gstarve, .int .i64 gneed, .bool gfront] 0 HR.out Vf.out)
    replace Vf := Lib.hid (show wx5.heap[sf]? = some (.cells #[.int .i64 gop, .int .i64 gstage, .int .i64 gphase, .int .i64 gold, .int .i64 gsince, .int .i64 gleft, .bool gawoke, .bool gstarve, .int .i64 gneed, .bool gfront] 31) from hse ▸ heap_setCells [.int .i64 gop, .int .i64 gstage, .int .i64 gphase, .int .i64 gold, .int .i64 gsince, .int .i64 gleft, .bool gawoke, .bool gstarve, .int .i64 gneed, .bool gfront] wx4 [] [.int .i64 op, .int .i64 stage, .int .i64 phase, .int .i64 old, .int .i64 since, .int .i64 left, .bool awoke, .bool starve, .int .i64 need, .bool front] rfl Vf.out)
    clear hse
    obtain ⟨guc0, guc1, guc2, guc3, guc4, guc5, guc6⟩ := row7 Vu.out
    obtain ⟨guz0, guz1, guz2, guz3, guz4, guz5, guz6⟩ := frz7 Vu.out
    obtain ⟨wx6, hwx6⟩ : ∃ W, (((((((wx5.setCell ⟨su, 0, none⟩ (.bool gdn)).setCell ⟨su, 1, none⟩ (.bool false)).setCell ⟨su, 2, none⟩ (.bool ghd)).setCell ⟨su, 3, none⟩ (.int .i64 ggv)).setCell ⟨su, 4, none⟩ (.int .i64 gft)).setCell ⟨su, 5, none⟩ (.int .u64 0)).setCell ⟨su, 6, none⟩ (.slice WA wn wk)) = W := ⟨_, rfl⟩
    have hse : wx5.setCells su 0 [.bool gdn, .bool false, .bool ghd, .int .i64 ggv, .int .i64 gft, .int .u64 0, .slice WA wn wk] = wx6 := hwx6
    replace Vf := Lib.hid (hse ▸ keepS Vf.out (blk_ne Vf.out Vu.out (by decide)) 0 [.bool gdn, .bool false, .bool ghd, .int .i64 ggv, .int .i64 gft, .int .u64 0, .slice WA wn wk])
    replace HT := Lib.hid (hse ▸ HT.out.othS Vu.out (by decide) (by decide) (by decide) gu 0 [.bool gdn, .bool false, .bool ghd, .int .i64 ggv, .int .i64 gft, .int .u64 0, .slice WA wn wk])
    replace HR := Lib.hid (hse ▸ own_setCells (by decide) [.bool gdn, .bool false, .bool ghd, .int .i64 ggv, .int .i64 gft, .int .u64 0, .slice WA wn wk] 0 HR.out Vu.out)
    replace Vu := Lib.hid (show wx6.heap[su]? = some (.cells #[.bool gdn, .bool false, .bool ghd, .int .i64 ggv, .int .i64 gft, .int .u64 0, .slice WA wn wk] 39) from hse ▸ heap_setCells [.bool gdn, .bool false, .bool ghd, .int .i64 ggv, .int .i64 gft, .int .u64 0, .slice WA wn wk] wx5 [] [.bool false, .bool false, .bool false, .int .i64 0, .int .i64 0, .int .u64 0, .slice none 0 0] rfl Vu.out)
    clear hse
    obtain ⟨hfc0, hfc1, hfc2, hfc3, hfc4, hfc5, hfc6, hfc7, hfc8, hfc9⟩ := row10 Vf.out
    obtain ⟨iq0, iq1, iq2, iq3, iq4, iq5, iq6, iq7, iq8, iq9⟩ := HT.out.frame t6.out
    obtain ⟨iz0, iz1, iz2, iz3, iz4, iz5, iz6, iz7, iz8, iz9⟩ := HT.out.frz t
    obtain ⟨wx7, hwx7⟩ : ∃ W, ((((((((((wx6.setCell ⟨sF, t * 10, none⟩ (.int .i64 gop)).setCell ⟨sF, t * 10 + 1, none⟩ (.int .i64 gstage)).setCell ⟨sF, t * 10 + 2, none⟩ (.int .i64 gphase)).setCell ⟨sF, t * 10 + 3, none⟩ (.int .i64 gold)).setCell ⟨sF, t * 10 + 4, none⟩ (.int .i64 gsince)).setCell ⟨sF, t * 10 + 5, none⟩ (.int .i64 gleft)).setCell ⟨sF, t * 10 + 6, none⟩ (.bool gawoke)).setCell ⟨sF, t * 10 + 7, none⟩ (.bool gstarve)).setCell ⟨sF, t * 10 + 8, none⟩ (.int .i64 gneed)).setCell ⟨sF, t * 10 + 9, none⟩ (.bool gfront)) = W := ⟨_, rfl⟩
    have hse : wx6.setCells sF (t * 10) (frC (⟨gop, gstage, gphase, gold, gsince, gleft, gawoke, gstarve, gneed, gfront⟩ : MFr)) = wx7 := hwx7
    replace Vu := Lib.hid (hse ▸ keepS Vu.out (blk_ne Vu.out HT.out.bF (by decide)) (t * 10) (frC (⟨gop, gstage, gphase, gold, gsince, gleft, gawoke, gstarve, gneed, gfront⟩ : MFr)))
    replace Vf := Lib.hid (hse ▸ keepS Vf.out (blk_ne Vf.out HT.out.bF (by decide)) (t * 10) (frC (⟨gop, gstage, gphase, gold, gsince, gleft, gawoke, gstarve, gneed, gfront⟩ : MFr)))
    replace HR := Lib.hid (hse ▸ own_setCells (by decide) (frC (⟨gop, gstage, gphase, gold, gsince, gleft, gawoke, gstarve, gneed, gfront⟩ : MFr)) (t * 10) HR.out HT.out.bF)
    replace HT := Lib.hid (hse ▸ HT.out.putF t6.out (⟨gop, gstage, gphase, gold, gsince, gleft, gawoke, gstarve, gneed, gfront⟩ : MFr))
    clear hse
    go_upto_region 47 with fail
    clear eo0 eo1 eo2 eo3 eo4 eo5 eo6 eo7 eo8 eo9 eo10 ey0 ey1 ey2 ey3 ey4 ey5 ey6 ey7 ey8 ey9 ey10 hwx4 ffc0 ffc1 ffc2 ffc3 ffc4 ffc5 ffc6 ffc7 ffc8 ffc9 ffz0 ffz1 ffz2 ffz3 ffz4 ffz5 ffz6 ffz7 ffz8 ffz9 hwx5 guc0 guc1 guc2 guc3 guc4 guc5 guc6 guz0 guz1 guz2 guz3 guz4 guz5 guz6 hwx6 hfc0 hfc1 hfc2 hfc3 hfc4 hfc5 hfc6 hfc7 hfc8 hfc9 iq0 iq1 iq2 iq3 iq4 iq5 iq6 iq7 iq8 iq9 iz0 iz1 iz2 iz3 iz4 iz5 iz6 iz7 iz8 iz9 hwx7
    obtain ⟨juc0, juc1, juc2, juc3, juc4, juc5, juc6⟩ := row7 Vu.out
    rcases HU.out with ⟨hd, hM, hno⟩ | ⟨hd, hM⟩
    · injection hd with d1 d2_ d3 d4
      subst d1 d2_ d3 d4
      have HM2 := Lib.hid hM
      have HNO := Lib.hid hno
      clear hM hno
      have kci := HT.out.ins t6.out
      have kcz := blk_frozen HT.out.bI t
      obtain ⟨wx8, hwx8⟩ : ∃ W, (wx7.setCell ⟨sI, t, none⟩ (.bool true)) = W := ⟨_, rfl⟩
      replace Vu := Lib.hid (hwx8 ▸ keep1 Vu.out (blk_ne Vu.out HT.out.bI (by decide)) (t) (.bool true))
      replace Vf := Lib.hid (hwx8 ▸ keep1 Vf.out (blk_ne Vf.out HT.out.bI (by decide)) (t) (.bool true))
      replace HR := Lib.hid (hwx8 ▸ own_set (o := t) (u := .bool true) HR.out HT.out.bI (by decide))
      replace HT := Lib.hid (hwx8 ▸ HT.out.putI t6.out true)
      go_wp2_with fail
      refine (N2.out _).mono ?_
      rintro e wb ⟨rfl, hb⟩
      clear juc0 juc1 juc2 juc3 juc4 juc5 juc6 kci kcz hwx8
      replace HT := Lib.hid (HT.out.step hb)
      replace HR := Lib.hid (own_below HR.out hb)
      replace Vu := Lib.hid (blk_below Vu.out hb (blk_lt Vu.out))
      replace Vf := Lib.hid (blk_below Vf.out hb (blk_lt Vf.out))
      clear hb
      obtain ⟨lq0, lq1, lq2, lq3, lq4, lq5, lq6, lq7, lq8, lq9⟩ := HT.out.frame t6.out
      obtain ⟨lz0, lz1, lz2, lz3, lz4, lz5, lz6, lz7, lz8, lz9⟩ := HT.out.frz t
      obtain ⟨wx9, hwx9⟩ : ∃ W, ((((((((((wb.setCell ⟨sF, t * 10, none⟩ (.int .i64 27)).setCell ⟨sF, t * 10 + 1, none⟩ (.int .i64 0)).setCell ⟨sF, t * 10 + 2, none⟩ (.int .i64 0)).setCell ⟨sF, t * 10 + 3, none⟩ (.int .i64 0)).setCell ⟨sF, t * 10 + 4, none⟩ (.int .i64 (-1))).setCell ⟨sF, t * 10 + 5, none⟩ (.int .i64 0)).setCell ⟨sF, t * 10 + 6, none⟩ (.bool false)).setCell ⟨sF, t * 10 + 7, none⟩ (.bool false)).setCell ⟨sF, t * 10 + 8, none⟩ (.int .i64 0)).setCell ⟨sF, t * 10 + 9, none⟩ (.bool false)) = W := ⟨_, rfl⟩
      have hse : wb.setCells sF (t * 10) (frC (beginF 27)) = wx9 := hwx9
      replace Vu := Lib.hid (hse ▸ keepS Vu.out (blk_ne Vu.out HT.out.bF (by decide)) (t * 10) (frC (beginF 27)))
      replace Vf := Lib.hid (hse ▸ keepS Vf.out (blk_ne Vf.out HT.out.bF (by decide)) (t * 10) (frC (beginF 27)))
      replace HR := Lib.hid (hse ▸ own_setCells (by decide) (frC (beginF 27)) (t * 10) HR.out HT.out.bF)
      replace HT := Lib.hid (hse ▸ HT.out.putF t6.out (beginF 27))
      clear hse
      replace HT : Hid (TS w wx9 sF sI sW sO (updN F2 t (beginF 27)) (updN I t true) W z s) := Lib.hid (by have h := HT.out; rwa [updN_upd] at h)
      go_wp2
      go_loopw [20] (fun kv wr2 => ∃ k2 : Nat, kv = .int .i64 (k2 : Int) ∧ k2 ≤ mn ∧ wr2 = wx9) (fun kv _ => mn - (intOf kv).toNat)
      case atStart => exact ⟨0, rfl, by omega, rfl⟩
      case round =>
        clear lq0 lq1 lq2 lq3 lq4 lq5 lq6 lq7 lq8 lq9 lz0 lz1 lz2 lz3 lz4 lz5 lz6 lz7 lz8 lz9 hwx9
        obtain ⟨k2, rfl, hk2, hwe⟩ := hrel
        subst hwe
        by_cases hlk : k2 < mn
        rotate_left
        · have en : k2 = mn := by omega
          subst en
          have y1_ : decide ((k2 : Int) < (k2 : Int)) = false := by simp
          have y2_ : decide (k2 < k2) = false := by simp
          go_wp2
          go_roundw
          case rel => have := HLT.out; exact ⟨i + 1, rn, rc, C, clk2, (updN F2 t (beginF 27)), (updN I t true), W, z, s, row, rfl, rfl, by go_num, by omega, by omega, HT.out, HR.out, HM2.out⟩
          case measure => have := HLT.out; simp [intOf]; omega
        have y1_ : decide ((k2 : Int) < (mn : Int)) = true := by simpa using hlk
        have y2_ : decide (k2 < mn) = true := by simpa using hlk
        have k0 : (0 : Int) ≤ (k2 : Int) := by omega
        have k1 : (k2 : Int) < 6 := by have := HMN.out; omega
        have k26 := Lib.hid (show k2 < 6 from by have := HMN.out; omega)
        have HLK := Lib.hid hlk
        clear hlk hk2
        by_cases hkt : k2 = t
        · have hkn : ((k2 : Int) != (t : Int)) = false := by simp [hkt]
          have hkm : (k2 != t) = false := by simp [hkt]
          clear hkt
          go_wp2
          go_roundw
          case rel => have := HLK.out; exact ⟨k2 + 1, by go_num, by omega, by first | rfl | trivial⟩
          case measure => have := HLK.out; simp [intOf]; omega
        have hkn : ((k2 : Int) != (t : Int)) = true := by simp; omega
        have hkm : (k2 != t) = true := by simp [hkt]
        have ci := HT.out.ins k26.out
        rw [updN_ne hkt] at ci
        have cf := (HT.out.frame k26.out).2.2.1
        rw [updN_ne hkt] at cf
        cases hbk : I k2
        · rw [hbk] at ci
          clear hkt hbk
          go_wp2
          go_roundw
          case rel => have := HLK.out; exact ⟨k2 + 1, by go_num, by omega, by first | rfl | trivial⟩
          case measure => have := HLK.out; simp [intOf]; omega
        · rw [hbk] at ci
          have hph : ((F2 k2).phase == 0) = false := by have := HNO.out k2 k26.out hbk; simpa using this
          generalize (F2 k2).phase = ph2 at *
          clear hkt hbk
          go_wp2
          go_roundw
          case rel => have := HLK.out; exact ⟨k2 + 1, by go_num, by omega, by first | rfl | trivial⟩
          case measure => have := HLK.out; simp [intOf]; omega
    · injection hd with d1 d2_ d3 d4
      subst d1 d2_ d3 d4
      have HM2 := Lib.hid (show MInv z s (updN F2 t (⟨gop, gstage, gphase, gold, gsince, gleft, gawoke, gstarve, gneed, gfront⟩ : MFr)) I W row from by have h := hM; rwa [updN_id HBI.out] at h)
      clear hM
      go_wp2
      go_roundw
      case rel => have := HLT.out; exact ⟨i + 1, rn, rc, C, clk2, (updN F2 t (⟨gop, gstage, gphase, gold, gsince, gleft, gawoke, gstarve, gneed, gfront⟩ : MFr)), I, W, z, s, row, rfl, rfl, by go_num, by omega, by omega, HT.out, HR.out, HM2.out⟩
      case measure => have := HLT.out; simp [intOf]; omega
end Go.Proofs.Ytagaijghfikdoaa
