/- The walk of RwTurns, but for its arms: it answers true, over any world; no condition. -/
import Derived.Test.YtpkegfochfkkcaaRwS
import Derived.Test.YtpkegfochfkkcaaRwP
import Derived.Deep.Cut
import Derived.Deep.CutRange
namespace Go.Proofs.Ytpkegfochfkkcaa
set_option linter.unusedVariables false
set_option linter.unusedSimpArgs false
open Go.RowKit
set_option maxRecDepth 100000 in
set_option maxHeartbeats 16000000 in
def turns16_skel : PSigma fun G1 : Prop => PSigma fun G2 : Prop => PSigma fun G3 : Prop => PSigma fun G4 : Prop => PSigma fun G5 : Prop => PSigma fun G6 : Prop => (G1 → G2 → G3 → G4 → G5 → G6 → ∀ (nn : Int) (A : Option Addr) (n c : Nat) (ps : List Int) (B : Option Addr) (m d : Nat) (bs : List Bool) (w : World) (f0 : 0 ≤ nn) (f1 : nn < 256) (hx : Bs w A n c ps) (hy : Es w B m d 1 (bs.map Value.bool)),
    Calls Try.prog 6 #[.int .u8 nn, .slice A n c, .slice B m d] w fun e w' => e = .returned (.bool true) ∧ Below w.heap.size w w') := by
  refine ⟨?G1, ?G2, ?G3, ?G4, ?G5, ?G6, fun h1 h2 h3 h4 h5 h6 => ?main⟩
  case main =>
    replace h1 := Lib.hid h1
    replace h2 := Lib.hid h2
    replace h3 := Lib.hid h3
    replace h4 := Lib.hid h4
    replace h5 := Lib.hid h5
    replace h6 := Lib.hid h6
    intro nn A n c ps B m d bs w f0 f1 hx hy
    have PX := Lib.hid hx; have NX := Lib.hid hy
    clear hx hy
    have HB := Lib.hid (And.intro (Below.refl w.heap.size w) (Nat.le_refl w.heap.size))
    have AL := Lib.hid alive16
    have N28 := Lib.hid (show ∀ W : World, Calls Try.prog 20 #[.int .i64 28] W (fun e w' => e = .returned (.agg #[.int .i64 28, .int .i64 0, .int .i64 0, .int .i64 0, .int .i64 (-1), .int .i64 0, .bool false, .bool false, .int .i64 0, .bool false]) ∧ Below W.heap.size W w') from fun W => refBegin15_any 28 W)
    have N29 := Lib.hid (show ∀ W : World, Calls Try.prog 20 #[.int .i64 29] W (fun e w' => e = .returned (.agg #[.int .i64 29, .int .i64 0, .int .i64 0, .int .i64 0, .int .i64 (-1), .int .i64 0, .bool false, .bool false, .int .i64 0, .bool false]) ∧ Below W.heap.size W w') from fun W => refBegin15_any 29 W)
    have N30 := Lib.hid (show ∀ W : World, Calls Try.prog 20 #[.int .i64 30] W (fun e w' => e = .returned (.agg #[.int .i64 30, .int .i64 0, .int .i64 0, .int .i64 0, .int .i64 (-1), .int .i64 0, .bool false, .bool false, .int .i64 0, .bool false]) ∧ Below W.heap.size W w') from fun W => refBegin15_any 30 W)
    have N31 := Lib.hid (show ∀ W : World, Calls Try.prog 20 #[.int .i64 31] W (fun e w' => e = .returned (.agg #[.int .i64 31, .int .i64 0, .int .i64 0, .int .i64 0, .int .i64 (-1), .int .i64 0, .bool false, .bool false, .int .i64 0, .bool false]) ∧ Below W.heap.size W w') from fun W => refBegin15_any 31 W)
    by_cases hn : (300 : Int) < (n : Int)
    · have b0 : decide ((300 : Int) < (n : Int)) = true := decide_eq_true hn
      have b0n : decide (300 < n) = true := by simp; omega
      clear hn
      go_enter Try.func6, Try.ntmps6
      go_wp2_with fail
      refine (AL.out _).mono ?_
      rintro e w1 ⟨rfl, hb⟩
      replace HB := Lib.hid (And.intro (HB.out.1.trans (hb.mono HB.out.2)) (Nat.le_trans HB.out.2 hb.size))
      clear hb
      go_wp2
      go_ret
      exact ⟨rfl, HB.out.1⟩
    have b0 : decide ((300 : Int) < (n : Int)) = false := decide_eq_false hn
    have b0n : decide (300 < n) = false := by simp; omega
    have hn1 : n ≤ 300 := by omega
    clear hn
    by_cases hm : (300 : Int) < (m : Int)
    · have b1 : decide ((300 : Int) < (m : Int)) = true := decide_eq_true hm
      have b1n : decide (300 < m) = true := by simp; omega
      clear hm
      go_enter Try.func6, Try.ntmps6
      go_wp2_with fail
      refine (AL.out _).mono ?_
      rintro e w1 ⟨rfl, hb⟩
      replace HB := Lib.hid (And.intro (HB.out.1.trans (hb.mono HB.out.2)) (Nat.le_trans HB.out.2 hb.size))
      clear hb
      go_wp2
      go_ret
      exact ⟨rfl, HB.out.1⟩
    have b1 : decide ((300 : Int) < (m : Int)) = false := decide_eq_false hm
    have b1n : decide (300 < m) = false := by simp; omega
    have hm1 : m ≤ 300 := by omega
    clear hm
    obtain ⟨k, hk⟩ : ∃ k : Nat, nn % 5 = (k : Int) := ⟨(nn % 5).toNat, by omega⟩
    have k5 : k < 5 := by omega
    have hr : nn.tmod 5 = (k : Int) := by rw [Int.tmod_eq_emod_of_nonneg f0]; exact hk
    have hw1 : IntKind.i64.wrap nn = nn := by rw [IntKind.wrap_i64]; omega
    have hw2 : IntKind.i64.wrap (k : Int) = (k : Int) := by rw [IntKind.wrap_i64]; omega
    obtain ⟨mn, hmn⟩ : ∃ x : Nat, k + 1 = x := ⟨_, rfl⟩
    have hw3 : IntKind.i64.wrap (1 + (k : Int)) = (mn : Int) := by rw [IntKind.wrap_i64]; omega
    have HMN := Lib.hid (show 0 < mn ∧ mn ≤ 5 by omega)
    clear hmn hk k5 f0 f1
    go_enter Try.func6, Try.ntmps6
    go_wp2_with fail
    refine (AL.out _).mono ?_
    rintro e w1 ⟨rfl, hb⟩
    replace HB := Lib.hid (And.intro (HB.out.1.trans (hb.mono HB.out.2)) (Nat.le_trans HB.out.2 hb.size))
    clear hb
    go_wp2
    obtain ⟨w2, hw4⟩ : ∃ W, ((((((w1.alloc (.cells (List.toArray (.int .i64 0 :: .int .i64 0 :: .int .i64 0 :: .int .i64 0 :: .int .i64 0 :: .int .i64 0 :: .bool false :: .bool false :: .int .i64 0 :: .bool false :: .int .i64 0 :: .int .i64 0 :: .int .i64 0 :: .int .i64 0 :: .int .i64 0 :: .int .i64 0 :: .bool false :: .bool false :: .int .i64 0 :: .bool false :: .int .i64 0 :: .int .i64 0 :: .int .i64 0 :: .int .i64 0 :: .int .i64 0 :: .int .i64 0 :: .bool false :: .bool false :: .int .i64 0 :: .bool false :: .int .i64 0 :: .int .i64 0 :: .int .i64 0 :: .int .i64 0 :: .int .i64 0 :: .int .i64 0 :: .bool false :: .bool false :: .int .i64 0 :: .bool false :: .int .i64 0 :: .int .i64 0 :: .int .i64 0 :: .int .i64 0 :: .int .i64 0 :: .int .i64 0 :: .bool false :: .bool false :: .int .i64 0 :: .bool false :: [])) 53)).alloc (.cells #[.int .i64 0, .int .i64 0, .int .i64 0, .int .i64 0, .int .i64 0] 54)).alloc (.cells #[.bool false, .bool false, .bool false, .bool false, .bool false] 55)).alloc (.cells #[.bool false, .bool false, .bool false, .bool false, .bool false] 55)).alloc (.cells #[.slice none 0 0, .slice none 0 0, .slice none 0 0] 56)).alloc (.cells #[.int .i64 2, .int .i64 0, .int .i64 0, .int .i64 0, .int .i64 0, .int .i64 0, .int .i64 0, .int .u32 0, .int .u32 0, .slice none 0 0, .slice none 0 0] 29)) = W := ⟨_, rfl⟩
    have HT0 := Lib.hid (hw4 ▸ TR.first HB.out.1 HB.out.2)
    rw [hw4]
    clear hw4 HB
    generalize w1.heap.size + 1 + 1 + 1 + 1 + 1 = sO at *
    generalize w1.heap.size + 1 + 1 + 1 + 1 = sR at *
    generalize w1.heap.size + 1 + 1 + 1 = sW at *
    generalize w1.heap.size + 1 + 1 = sI at *
    generalize w1.heap.size + 1 = sD at *
    generalize w1.heap.size = sF at *
    refine wp_loop (fun a' wr => Rel16 w n sF sD sI sW sR sO (fun v14 v15 => [.int .u8 nn, .slice A n c, .slice B m d, undef, undef, undef, .bool false, .int .i64 (mn : Int), .pointer (some ⟨sF, 0, none⟩), .pointer (some ⟨sD, 0, none⟩), .pointer (some ⟨sI, 0, none⟩), .pointer (some ⟨sW, 0, none⟩), .pointer (some ⟨sR, 0, none⟩), .pointer (some ⟨sO, 0, none⟩), v14, v15]) a' wr) (fun a' _ => n - (intOf (a'.tmps.getD 15 undef)).toNat) ?atStart ?round
    case atStart => unfold Rel16; exact ⟨_, _, 0, 0, 0, 0, 0, 0, 0, 0, none, none, none, fun _ => noF, fun _ => 0, fun _ => false, fun _ => false, 0, 0, 0, 0, 0, 0, [], [], [], ⟨by kernel_rfl, rfl, rfl⟩, Lib.hid ⟨rfl, rfl⟩, by omega, by omega, by omega, by omega, by omega, Lib.hid rfl, HT0, Lib.hid (R3.start _ _), Lib.hid RInv.start⟩
    case round =>
      clear HT0
      rintro a1 wr ⟨v14, v15, i, bg, n1, k1, n2, k2, n3, k3, C1, C2, C3, F, D, I, W, x0, x1, x2, x3, x4, x5, r1, r2, r3, hfr, hv, hi, hbg, hn_1, hn_2, hn_3, HW5, HT, HR, HM⟩
      obtain ⟨rfl, rfl⟩ := hv.out
      clear hv
      obtain ⟨tf, rfl⟩ := frame16 hfr
      clear hfr
      have HFX := Lib.hid HM.out.few
      have HBD := Lib.hid (And.intro hbg (And.intro hn_1 (And.intro hn_2 hn_3)))
      clear hbg hn_1 hn_2 hn_3
      by_cases hlt : i < n
      rotate_left
      · have en : i = n := by omega
        subst en
        have c1 : decide ((i : Int) < (i : Int)) = false := by simp
        have c1n : decide (i < i) = false := by simp
        have qo := row11 (b := sO) HT.out.bO
        have z1 : decide ((0 : Int) ≤ x1) = true := by simp; exact HM.out.few.1
        have z2 : decide ((0 : Int) ≤ x2) = true := by simp; exact HM.out.few.2.2.1
        have z3 : decide ((0 : Int) ≤ x3) = true := by simp; exact HM.out.few.2.2.2.2.1
        go_wp2
        go_ret
        exact ⟨rfl, HT.out.bel⟩
      have c1 : decide ((i : Int) < (n : Int)) = true := by simpa using hlt
      have i0 : (0 : Int) ≤ (i : Int) := by omega
      have i1 : (i : Int) < (n : Int) := by omega
      obtain ⟨b0_, off0, y, e0, hby, hcy, y0, y1, _, _⟩ := (Bs.below PX.out HT.out.bel).look i (by omega)
      subst e0
      obtain ⟨t, htt⟩ : ∃ t : Nat, y % (mn : Int) = (t : Int) := ⟨(y % (mn : Int)).toNat, by have := HMN.out; have := Int.emod_nonneg y (show (mn : Int) ≠ 0 by omega); omega⟩
      have ht5 : t < 5 := by have := HMN.out; have := Int.emod_lt_of_pos y (show (0 : Int) < (mn : Int) by omega); omega
      have htm : y.tmod (mn : Int) = (t : Int) := by rw [Int.tmod_eq_emod_of_nonneg y0]; exact htt
      have hwy : IntKind.i64.wrap y = y := by rw [IntKind.wrap_i64]; omega
      have hwt : IntKind.i64.wrap (t : Int) = (t : Int) := by rw [IntKind.wrap_i64]; omega
      have hm0 : ((mn : Int) == 0) = false := by have := HMN.out; simp; omega
      have hm0n : ¬ (mn : Int) = 0 := by have := HMN.out; omega
      have hm0m : ¬ mn = 0 := by have := HMN.out; omega
      have HTT := Lib.hid htt
      have t5 := Lib.hid ht5
      have t6 := Lib.hid (Nat.lt_succ_of_lt ht5)
      clear htt hby
      have t0 : (0 : Int) ≤ (t : Int) := by omega
      have t1 : (t : Int) < 5 := by omega
      have HLT := Lib.hid hlt
      clear hlt ht5
      have cw := HT.out.wai t5.out
      cases hWt : W t
      rotate_left
      · rw [hWt] at cw
        go_wp2
        refine ⟨?rel, ?measure⟩
        case rel => have := HLT.out; have := HBD.out; have HM2 := HM; unfold Rel16; exact ⟨_, _, i + 1, bg, n1, k1, n2, k2, n3, k3, C1, C2, C3, F, D, I, W, x0, x1, x2, x3, x4, x5, r1, r2, r3, ⟨by kernel_rfl, rfl, rfl⟩, Lib.hid ⟨rfl, by go_num⟩, by omega, by omega, by omega, by omega, by omega, Lib.hid (by first | exact HW5.out | exact (updN_ne (by have := t5.out; omega)).trans HW5.out), HT, HR, HM2⟩
        case measure => have := HLT.out; simp [intOf]; omega
      rw [hWt] at cw
      have HWT := Lib.hid hWt
      obtain ⟨⟨op, stage, phase, old, since, left, awoke, starve, need, front⟩, hft⟩ : ∃ f, F t = f := ⟨_, rfl⟩
      have aq := HT.out.frame t5.out
      rw [hft] at aq
      simp only at aq
      have HFT := Lib.hid hft
      clear hft hWt
      obtain ⟨wx1, hwx1⟩ : ∃ W, (wr.alloc (.cells #[.int .i64 0, .int .i64 0, .int .i64 0, .int .i64 0, .int .i64 0, .int .i64 0, .bool false, .bool false, .int .i64 0, .bool false] 31)) = W := ⟨_, rfl⟩
      have hb : Below wr.heap.size wr wx1 := hwx1 ▸ (Below.refl _ _).alloc (Nat.le_refl _) _
      have hv0 : wx1.heap[wr.heap.size]? = some (.cells #[.int .i64 0, .int .i64 0, .int .i64 0, .int .i64 0, .int .i64 0, .int .i64 0, .bool false, .bool false, .int .i64 0, .bool false] 31) := hwx1 ▸ heap_alloc_new _ _
      have gf : w.heap.size ≤ wr.heap.size := HT.out.siz
      replace HT := Lib.hid (HT.out.step hb)
      replace HR := Lib.hid (HR.out.step hb)
      have Vf := Lib.hid hv0
      obtain ⟨sf, hsf⟩ : ∃ x, wr.heap.size = x := ⟨_, rfl⟩
      rw [hsf] at Vf gf
      clear hb hv0
      obtain ⟨mwx2, wx2, hwx2, hse, VN⟩ := set10 Vf.out (.int .i64 op) (.int .i64 stage) (.int .i64 phase) (.int .i64 old) (.int .i64 since) (.int .i64 left) (.bool awoke) (.bool starve) (.int .i64 need) (.bool front)
      replace HT := Lib.hid (HT.out.othE Vf.out (by decide) (by decide) (by decide) (by decide) (by decide) gf hse)
      replace HR := Lib.hid (HR.out.cellsE Vf.out (by decide) hse)
      replace Vf := VN
      clear VN hse
      obtain ⟨bz, hbz, hrun⟩ := fr_is0 op stage phase old since left awoke starve need front
      have HBZ := Lib.hid hbz
      clear hbz
      have lv3 := row10 Vf.out
      go_upto_if 61 with fail
      clear hwx1 hsf aq mwx2 hwx2 lv3
      clear hrun cw
      refine wp_cut (fun a' wx => ∃ (v14 v18 v19 v20 v21 v22 v23 v24 : Value) (bg2 : Nat) (D2 : Nat → Int) (bop bstage bphase bold bsince bleft : Int) (bawoke bstarve : Bool) (bneed : Int) (bfront : Bool), Fra a' 25 [.int .u8 nn, .slice (some ⟨b0_, off0, none⟩) n c, .slice B m d, undef, undef, undef, .bool false, .int .i64 (mn : Int), .pointer (some ⟨sF, 0, none⟩), .pointer (some ⟨sD, 0, none⟩), .pointer (some ⟨sI, 0, none⟩), .pointer (some ⟨sW, 0, none⟩), .pointer (some ⟨sR, 0, none⟩), .pointer (some ⟨sO, 0, none⟩), v14, .int .i64 (i : Int), .int .i64 (t : Int), .pointer (some ⟨sf, 0, none⟩), v18, v19, v20, v21, v22, v23, v24] ∧ Hid (v14 = .int .i64 (bg2 : Int) ∧ bg2 ≤ i + 1) ∧ Hid (TR w wx sF sD sI sW sR sO F D2 I W (.slice C1 n1 k1) (.slice C2 n2 k2) (.slice C3 n3 k3) x0 x1 x2 x3 x4 x5) ∧ Hid (R3 wx w.heap.size (.slice C1 n1 k1) (.slice C2 n2 k2) (.slice C3 n3 k3) n1 n2 n3 (nats r1) (nats r2) (nats r3)) ∧ Hid (wx.heap[sf]? = some (.cells #[.int .i64 bop, .int .i64 bstage, .int .i64 bphase, .int .i64 bold, .int .i64 bsince, .int .i64 bleft, .bool bawoke, .bool bstarve, .int .i64 bneed, .bool bfront] 31)) ∧ Hid (RInv x0 x1 x2 x3 x4 x5 (updN F t (⟨bop, bstage, bphase, bold, bsince, bleft, bawoke, bstarve, bneed, bfront⟩ : MFr)) D2 I W r1 r2 r3 ∧ (⟨bop, bstage, bphase, bold, bsince, bleft, bawoke, bstarve, bneed, bfront⟩ : MFr) ≠ noF)) ?rest ?first
      rotate_left
      case first =>
        intro J K2 hJ hK
        · rename_i zz0 zz1 zz2 zz3 zz4 zz5 zz6 zz7 zz8 zz9
          revert nn n c ps B m d bs w NX AL N28 N29 N30 N31 b0 b0n hn1 b1 b1n hm1 k hr hw1 hw2 mn hw3 HMN zz0 w1 zz1 zz2 w2 sO sR sW sI sD sF wr i bg n1 k1 n2 k2 n3 k3 C1 C2 C3 F D I W x0 x1 x2 x3 x4 x5 r1 r2 r3 hi HW5 HM tf HFX HBD c1 i0 i1 b0_ off0 y hcy y0 y1 zz3 zz4 PX t htm hwy hwt hm0 hm0n hm0m HTT t5 t6 t0 t1 HLT HWT op stage phase old since left awoke starve need front HFT wx1 sf gf wx2 HT HR Vf bz HBZ zz5 zz6 zz7 zz8 zz9 J K2 hJ hK
          exact h1.out
      case rest =>
        clear HT HR HM Vf HFT HBZ
        rintro a2 wc ⟨v14, v18, v19, v20, v21, v22, v23, v24, bg2, D2, bop, bstage, bphase, bold, bsince, bleft, bawoke, bstarve, bneed, bfront, hfr, hv, HT, HR, Vf, hm⟩
        obtain ⟨rfl, hb2⟩ := hv.out
        have HB2 := Lib.hid hb2
        clear hv hb2 bz op stage phase old since left awoke starve need front
        obtain ⟨tf2, rfl⟩ := frame25 hfr
        clear hfr
        obtain ⟨FF, hFF⟩ : ∃ G, updN F t (⟨bop, bstage, bphase, bold, bsince, bleft, bawoke, bstarve, bneed, bfront⟩ : MFr) = G := ⟨_, rfl⟩
        have HM := Lib.hid (hFF ▸ hm.out.1)
        have HFF := Lib.hid (show FF t = (⟨bop, bstage, bphase, bold, bsince, bleft, bawoke, bstarve, bneed, bfront⟩ : MFr) from by rw [← hFF, updN_self])
        have HNF := Lib.hid (show FF t ≠ noF from by rw [← hFF, updN_self]; exact hm.out.2)
        have HUF := Lib.hid hFF
        clear hm hFF
        have hneed : 0 ≤ bneed := by have h := HM.out.need0 t6.out; rw [HFF.out] at h; exact h
        have lv4 := row10 Vf.out
        obtain ⟨bn, hbn⟩ : ∃ b, decide (0 < bneed) = b := ⟨_, rfl⟩
        go_upto_if 84 with fail
        clear lv4
        have HBN := Lib.hid hbn
        have HNE := Lib.hid hneed
        clear hbn hneed
        cases bn
        rotate_left
        · rename_i zz0 zz1 zz2 zz3 zz4 zz5 zz6 zz7 zz8 zz9
          revert nn n c ps B m d bs w NX AL N28 N29 N30 N31 b0 b0n hn1 b1 b1n hm1 k hr hw1 hw2 mn hw3 HMN zz0 w1 zz1 zz2 w2 sO sR sW sI sD sF wr i bg n1 k1 n2 k2 n3 k3 C1 C2 C3 F D I W x0 x1 x2 x3 x4 x5 r1 r2 r3 hi HW5 tf HFX HBD c1 i0 i1 b0_ off0 y hcy y0 y1 zz3 zz4 PX t htm hwy hwt hm0 hm0n hm0m HTT t5 t6 t0 t1 HLT HWT wx1 sf gf wx2 zz5 zz6 zz7 wc v18 v19 v20 v21 v22 v23 v24 bg2 D2 bop bstage bphase bold bsince bleft bawoke bstarve bneed bfront HT HR Vf HB2 tf2 FF HM HFF HNF HUF zz8 zz9 HNE HBN
          exact h2.out
        have HN0 := Lib.hid (show bneed = 0 by have := HNE.out; have := of_decide_eq_false HBN.out; omega)
        clear HNE HBN
        obtain ⟨wx5, hwx5⟩ : ∃ W, (wc.alloc (.cells #[.bool false, .bool false, .bool false, .int .i64 0, .int .i64 0, .int .u64 0, .slice none 0 0] 38)) = W := ⟨_, rfl⟩
        have hb : Below wc.heap.size wc wx5 := hwx5 ▸ (Below.refl _ _).alloc (Nat.le_refl _) _
        have hv0 : wx5.heap[wc.heap.size]? = some (.cells #[.bool false, .bool false, .bool false, .int .i64 0, .int .i64 0, .int .u64 0, .slice none 0 0] 38) := hwx5 ▸ heap_alloc_new _ _
        have gu : w.heap.size ≤ wc.heap.size := HT.out.siz
        replace HT := Lib.hid (HT.out.step hb)
        replace HR := Lib.hid (HR.out.step hb)
        replace Vf := Lib.hid (blk_below Vf.out hb (blk_lt Vf.out))
        have Vu := Lib.hid hv0
        obtain ⟨su, hsu⟩ : ∃ x, wc.heap.size = x := ⟨_, rfl⟩
        rw [hsu] at Vu gu
        clear hb hv0
        have lv6 := row10 Vf.out
        have cd := HT.out.doe t5.out
        obtain ⟨dt, hdt⟩ : ∃ x, D2 t = x := ⟨_, rfl⟩
        rw [hdt] at cd
        have HDT := Lib.hid hdt
        clear hdt
        go_upto_if 126 with fail
        refine wp_cutB (fun a' wx => ∃ (v18 v20 v21 v22 v23 v24 : Value) (z0 z4 z5 : Int) (gop gstage gphase gold gsince gleft : Int) (gawoke gstarve : Bool) (gneed : Int) (gfront : Bool) (gdn ghd : Bool) (ggv : Int), Fra a' 25 [.int .u8 nn, .slice (some ⟨b0_, off0, none⟩) n c, .slice B m d, undef, undef, undef, .bool false, .int .i64 (mn : Int), .pointer (some ⟨sF, 0, none⟩), .pointer (some ⟨sD, 0, none⟩), .pointer (some ⟨sI, 0, none⟩), .pointer (some ⟨sW, 0, none⟩), .pointer (some ⟨sR, 0, none⟩), .pointer (some ⟨sO, 0, none⟩), .int .i64 (bg2 : Int), .int .i64 (i : Int), .int .i64 (t : Int), .pointer (some ⟨sf, 0, none⟩), v18, .pointer (some ⟨su, 0, none⟩), v20, v21, v22, v23, v24] ∧ Hid (TR w wx sF sD sI sW sR sO F D2 I W (.slice C1 n1 k1) (.slice C2 n2 k2) (.slice C3 n3 k3) z0 x1 x2 x3 z4 z5) ∧ Hid (R3 wx w.heap.size (.slice C1 n1 k1) (.slice C2 n2 k2) (.slice C3 n3 k3) n1 n2 n3 (nats r1) (nats r2) (nats r3)) ∧ Hid (wx.heap[sf]? = some (.cells #[.int .i64 gop, .int .i64 gstage, .int .i64 gphase, .int .i64 gold, .int .i64 gsince, .int .i64 gleft, .bool gawoke, .bool gstarve, .int .i64 gneed, .bool gfront] 31)) ∧ Hid (wx.heap[su]? = some (.cells #[.bool gdn, .bool false, .bool ghd, .int .i64 ggv, .int .i64 0, .int .u64 0, .slice none 0 0] 38)) ∧ Hid (RAns gdn ghd ggv z0 x1 x2 x3 z4 z5 (updN F t (⟨gop, gstage, gphase, gold, gsince, gleft, gawoke, gstarve, gneed, gfront⟩ : MFr)) D2 I W r1 r2 r3 t)) ?rest ?first
        rotate_left
        case first =>
          intro J K2 hJ hK
          clear hwx5 hsu lv6 cd
          · rename_i zz0 zz1 zz2 zz3 zz4 zz5 zz6 zz7 zz8 zz9
            revert nn n c ps B m d bs w NX AL N28 N29 N30 N31 b0 b0n hn1 b1 b1n hm1 k hr hw1 hw2 mn hw3 HMN zz0 w1 zz1 zz2 w2 sO sR sW sI sD sF wr i bg n1 k1 n2 k2 n3 k3 C1 C2 C3 F D I W x0 x1 x2 x3 x4 x5 r1 r2 r3 hi HW5 tf HFX HBD c1 i0 i1 b0_ off0 y hcy y0 y1 zz3 zz4 PX t htm hwy hwt hm0 hm0n hm0m HTT t5 t6 t0 t1 HLT HWT wx1 sf gf wx2 zz5 zz6 zz7 wc v18 v19 v20 v21 v22 v23 v24 bg2 D2 bop bstage bphase bold bsince bleft bawoke bstarve bneed bfront HB2 tf2 FF HM HFF HNF HUF HN0 wx5 HT HR Vf su gu Vu dt HDT zz8 zz9 J K2 hJ hK
            exact h3.out
        case rest =>
          clear hwx5 hsu lv6 cd
          clear HT HR HM Vf Vu HFF HNF HUF HN0 HDT
          rintro a3 wc3 ⟨v18, v20, v21, v22, v23, v24, z0, z4, z5, gop, gstage, gphase, gold, gsince, gleft, gawoke, gstarve, gneed, gfront, gdn, ghd, ggv, hfr, HT, HR, Vf, Vu, HA⟩
          clear dt bop bstage bphase bold bsince bleft bawoke bstarve bneed bfront FF
          obtain ⟨tf3, rfl⟩ := frame25 hfr
          clear hfr
          have lv7 := row10 Vf.out
          have lf9 := HT.out.frame t5.out
          have lz10 := HT.out.frz t
          obtain ⟨wx8, hwx8, hse⟩ := setFr wc3 sF (t * 10) (.int .i64 gop) (.int .i64 gstage) (.int .i64 gphase) (.int .i64 gold) (.int .i64 gsince) (.int .i64 gleft) (.bool gawoke) (.bool gstarve) (.int .i64 gneed) (.bool gfront)
          replace Vf := Lib.hid (stayO hse (blk_ne Vf.out HT.out.bF (by decide)) Vf.out)
          replace Vu := Lib.hid (stayO hse (blk_ne Vu.out HT.out.bF (by decide)) Vu.out)
          replace HR := Lib.hid (HR.out.cellsE HT.out.bF (by decide) hse)
          replace HT := Lib.hid (HT.out.putFE t5.out (⟨gop, gstage, gphase, gold, gsince, gleft, gawoke, gstarve, gneed, gfront⟩ : MFr) hse)
          clear hse
          have lv11 := row7 Vu.out
          go_upto_if 162 with fail
          refine wp_cut (fun a' wx => ∃ (v18 v20 v21 v22 v23 v24 : Value) (y1 y2 y3 : Int) (F3 : Nat → MFr) (W3 : Nat → Bool) (m1 j1 m2 j2 m3 j3 : Nat) (E1 E2 E3 : Option Addr) (s1 s2 s3 : List Nat), Fra a' 25 [.int .u8 nn, .slice (some ⟨b0_, off0, none⟩) n c, .slice B m d, undef, undef, undef, .bool false, .int .i64 (mn : Int), .pointer (some ⟨sF, 0, none⟩), .pointer (some ⟨sD, 0, none⟩), .pointer (some ⟨sI, 0, none⟩), .pointer (some ⟨sW, 0, none⟩), .pointer (some ⟨sR, 0, none⟩), .pointer (some ⟨sO, 0, none⟩), .int .i64 (bg2 : Int), .int .i64 (i : Int), .int .i64 (t : Int), .pointer (some ⟨sf, 0, none⟩), v18, .pointer (some ⟨su, 0, none⟩), v20, v21, v22, v23, v24] ∧ Hid (m1 ≤ i + 1 ∧ m2 ≤ i + 1 ∧ m3 ≤ i + 1) ∧ Hid (W3 5 = false) ∧ Hid (TR w wx sF sD sI sW sR sO F3 D2 I W3 (.slice E1 m1 j1) (.slice E2 m2 j2) (.slice E3 m3 j3) z0 y1 y2 y3 z4 z5) ∧ Hid (R3 wx w.heap.size (.slice E1 m1 j1) (.slice E2 m2 j2) (.slice E3 m3 j3) m1 m2 m3 (nats s1) (nats s2) (nats s3)) ∧ Hid (wx.heap[su]? = some (.cells #[.bool gdn, .bool false, .bool ghd, .int .i64 ggv, .int .i64 0, .int .u64 0, .slice none 0 0] 38)) ∧ Hid (Pend gdn z0 y1 y2 y3 z4 z5 F3 D2 I W3 s1 s2 s3 t)) ?rest ?first
          rotate_left
          case first =>
            intro J K2 hJ hK
            clear lv7 lf9 lz10 hwx8 lv11
            · rename_i zz0 zz1 zz2 zz3 zz4 zz5 zz6 zz7 zz8 zz9 zz10 zz11 zz12 zz13 zz14 zz15
              revert nn n c ps B m d bs w NX AL N28 N29 N30 N31 b0 b0n hn1 b1 b1n hm1 k hr hw1 hw2 mn hw3 HMN zz0 w1 zz1 zz2 w2 sO sR sW sI sD sF wr i bg n1 k1 n2 k2 n3 k3 C1 C2 C3 F D I W x0 x1 x2 x3 x4 x5 r1 r2 r3 hi HW5 tf HFX HBD c1 i0 i1 b0_ off0 y hcy y0 y1 zz3 zz4 PX t htm hwy hwt hm0 hm0n hm0m HTT t5 t6 t0 t1 HLT HWT wx1 sf gf wx2 zz5 zz6 zz7 wc zz8 v19 zz9 zz10 zz11 zz12 zz13 bg2 D2 HB2 tf2 wx5 su gu wc3 v18 v20 v21 v22 v23 v24 z0 z4 z5 gop gstage gphase gold gsince gleft gawoke gstarve gneed gfront gdn ghd ggv HA tf3 wx8 Vf Vu HR HT zz14 zz15 J K2 hJ hK
              exact h4.out
          case rest =>
            clear lv7 lf9 lz10 hwx8 lv11
            clear HT HR HA Vf Vu HW5
            rintro a4 wc4 ⟨v18, v20, v21, v22, v23, v24, y1, y2, y3, F3, W3, m1, j1, m2, j2, m3, j3, E1, E2, E3, s1, s2, s3, hfr, hb, HW5, HT, HR, Vu, HPD⟩
            replace HBD := Lib.hid (And.intro HBD.out.1 hb.out)
            clear hb gop gstage gphase gold gsince gleft gawoke gstarve gneed gfront
            obtain ⟨tf4, rfl⟩ := frame25 hfr
            clear hfr
            have lv12 := row7 Vu.out
            cases gdn
            · have HM2 := Lib.hid (show RInv z0 y1 y2 y3 z4 z5 F3 D2 I W3 s1 s2 s3 from by rcases HPD.out with h | h | h | h; exact h.2; cases h.1; cases h.1; cases h.1)
              go_wp2
              refine ⟨?rel, ?measure⟩
              case rel => have := HLT.out; have := HBD.out; have HM2 := HM2; have := HB2.out; unfold Rel16; exact ⟨_, _, i + 1, bg2, m1, j1, m2, j2, m3, j3, E1, E2, E3, F3, D2, I, W3, z0, y1, y2, y3, z4, z5, s1, s2, s3, ⟨by kernel_rfl, rfl, rfl⟩, Lib.hid ⟨rfl, by go_num⟩, by omega, by omega, by omega, by omega, by omega, Lib.hid (by first | exact HW5.out | exact (updN_ne (by have := t5.out; omega)).trans HW5.out), HT, HR, HM2⟩
              case measure => have := HLT.out; simp [intOf]; omega
            have cd := HT.out.doe t5.out
            obtain ⟨dt, hdt⟩ : ∃ x, D2 t = x := ⟨_, rfl⟩
            rw [hdt] at cd
            have HDT := Lib.hid hdt
            clear hdt
            go_upto_if 217 with fail
            refine wp_cutB (fun a' wx => ∃ (v18 v20 v21 v22 v23 v24 : Value) (F4 : Nat → MFr) (D4 : Nat → Int) (I4 : Nat → Bool), Fra a' 25 [.int .u8 nn, .slice (some ⟨b0_, off0, none⟩) n c, .slice B m d, undef, undef, undef, .bool false, .int .i64 (mn : Int), .pointer (some ⟨sF, 0, none⟩), .pointer (some ⟨sD, 0, none⟩), .pointer (some ⟨sI, 0, none⟩), .pointer (some ⟨sW, 0, none⟩), .pointer (some ⟨sR, 0, none⟩), .pointer (some ⟨sO, 0, none⟩), .int .i64 (bg2 : Int), .int .i64 (i : Int), .int .i64 (t : Int), .pointer (some ⟨sf, 0, none⟩), v18, .pointer (some ⟨su, 0, none⟩), v20, v21, v22, v23, v24] ∧ Hid (TR w wx sF sD sI sW sR sO F4 D4 I4 W3 (.slice E1 m1 j1) (.slice E2 m2 j2) (.slice E3 m3 j3) z0 y1 y2 y3 z4 z5) ∧ Hid (R3 wx w.heap.size (.slice E1 m1 j1) (.slice E2 m2 j2) (.slice E3 m3 j3) m1 m2 m3 (nats s1) (nats s2) (nats s3)) ∧ Hid (RInv z0 y1 y2 y3 z4 z5 F4 D4 I4 W3 s1 s2 s3)) ?rest ?first
            rotate_left
            case first =>
              intro J K2 hJ hK
              clear lv12 cd
              · rename_i zz0 zz1 zz2 zz3 zz4 zz5 zz6 zz7 zz8 zz9 zz10 zz11 zz12 zz13 zz14 zz15 zz16 zz17 zz18 zz19 zz20 zz21 zz22
                revert nn n c ps B m d bs w NX AL N28 N29 N30 N31 b0 b0n hn1 b1 b1n hm1 k hr hw1 hw2 mn hw3 HMN zz0 w1 zz1 zz2 w2 sO sR sW sI sD sF wr i bg n1 k1 n2 k2 n3 k3 C1 C2 C3 F D I W x0 x1 x2 x3 x4 x5 r1 r2 r3 hi tf HFX c1 i0 i1 b0_ off0 y hcy y0 zz3 zz4 zz5 PX t htm hwy hwt hm0 hm0n hm0m HTT t5 t6 t0 t1 HLT HWT wx1 sf gf wx2 zz6 zz7 zz8 wc zz9 v19 zz10 zz11 zz12 zz13 zz14 bg2 D2 HB2 tf2 wx5 su gu wc3 zz15 zz16 zz17 zz18 zz19 zz20 z0 z4 z5 ghd ggv tf3 wx8 wc4 v18 v20 v21 v22 v23 v24 y1 y2 y3 F3 W3 m1 j1 m2 j2 m3 j3 E1 E2 E3 s1 s2 s3 HW5 HT HR HBD tf4 Vu HPD dt HDT zz21 zz22 J K2 hJ hK
                exact h5.out
            case rest =>
              clear lv12 cd
              clear HT HR HPD Vu HDT
              rintro a5 wc5 ⟨v18, v20, v21, v22, v23, v24, F4, D4, I4, hfr, HT, HR, HM⟩
              obtain ⟨tf5, rfl⟩ := frame25 hfr
              clear hfr dt
              · rename_i zz0 zz1 zz2 zz3 zz4 zz5 zz6 zz7 zz8 zz9 zz10 zz11 zz12 zz13 zz14 zz15 zz16 zz17 zz18 zz19 zz20 zz21 zz22 zz23 zz24 zz25 zz26 zz27 zz28
                revert nn n c ps B m d bs w NX AL N28 N29 N30 N31 b0 b0n hn1 b1 b1n hm1 k hr hw1 hw2 mn hw3 HMN zz0 w1 zz1 zz2 w2 sO sR sW sI sD sF wr i bg n1 k1 n2 k2 n3 k3 C1 C2 C3 F D I W x0 x1 x2 x3 x4 x5 r1 r2 r3 hi tf HFX c1 i0 i1 b0_ off0 y hcy y0 zz3 zz4 zz5 PX t htm hwy hwt hm0 hm0n hm0m HTT t5 t6 t0 t1 HLT HWT wx1 sf gf wx2 zz6 zz7 zz8 wc zz9 v19 zz10 zz11 zz12 zz13 zz14 bg2 D2 HB2 tf2 wx5 su gu wc3 zz15 zz16 zz17 zz18 zz19 zz20 z0 z4 z5 ghd ggv tf3 wx8 wc4 zz21 zz22 zz23 zz24 zz25 zz26 y1 y2 y3 F3 W3 m1 j1 m2 j2 m3 j3 E1 E2 E3 s1 s2 s3 HW5 HBD tf4 zz27 zz28 wc5 v18 v20 v21 v22 v23 v24 F4 D4 I4 HT HR HM tf5
                exact h6.out
end Go.Proofs.Ytpkegfochfkkcaa
