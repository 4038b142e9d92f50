/- The walk of OnceTurns, but for its arms: it answers true, over any world; no condition. -/
import Derived.Test.YtkecmiedeihdgaaOncS
import Derived.Test.YtkecmiedeihdgaaOncW
import Derived.Deep.Cut
import Derived.Deep.CutRange
namespace Go.Proofs.Ytkecmiedeihdgaa
set_option linter.unusedVariables false
set_option linter.unusedSimpArgs false
open Go.RowKit
set_option maxRecDepth 100000 in
set_option maxHeartbeats 16000000 in
def turns18_skel : PSigma fun G1 : Prop => PSigma fun G2 : Prop => PSigma fun G3 : Prop => PSigma fun G4 : Prop => PSigma fun G5 : Prop => (G1 → G2 → G3 → G4 → G5 → ∀ (nn : Int) (A : Option Addr) (n c : Nat) (ps : List Int) (B : Option Addr) (m d : Nat) (ns : List Int) (w : World) (f0 : 0 ≤ nn) (f1 : nn < 256) (hx : Bs w A n c ps) (hy : Bs w B m d ns),
    Calls Try.prog 4 #[.int .u8 nn, .slice A n c, .slice B m d] w fun e w' => e = .returned (.bool true) ∧ Below w.heap.size w w') := by
  refine ⟨?G1, ?G2, ?G3, ?G4, ?G5, fun h1 h2 h3 h4 h5 => ?main⟩
  case main =>
    replace h1 := Lib.hid h1
    replace h2 := Lib.hid h2
    replace h3 := Lib.hid h3
    replace h4 := Lib.hid h4
    replace h5 := Lib.hid h5
    intro nn A n c ps B m d ns w f0 f1 hx hy
    have PX := Lib.hid hx; have NX := Lib.hid hy
    clear hx hy
    have HB := Lib.hid (And.intro (Below.refl w.heap.size w) (Nat.le_refl w.heap.size))
    have AL := Lib.hid alive18
    have N34 := Lib.hid (show ∀ W : World, Calls Try.prog 14 #[.int .i64 34] W (fun e w' => e = .returned (.agg #[.int .i64 34, .int .i64 0, .int .i64 0, .int .i64 0, .int .i64 (-1), .int .i64 0, .bool false, .bool false, .int .i64 0, .bool false]) ∧ Below W.heap.size W w') from fun W => refBegin15_any 34 W)
    have N35 := Lib.hid (show ∀ W : World, Calls Try.prog 14 #[.int .i64 35] W (fun e w' => e = .returned (.agg #[.int .i64 35, .int .i64 0, .int .i64 0, .int .i64 0, .int .i64 (-1), .int .i64 0, .bool false, .bool false, .int .i64 0, .bool false]) ∧ Below W.heap.size W w') from fun W => refBegin15_any 35 W)
    have OV := Lib.hid (show ∀ (x0 x1 x2 : Int) (b : Bool), (x2 == 1) = b → ∀ W : World, Calls Try.prog 13 #[.agg #[.int .i64 4, .int .i64 x0, .int .i64 x1, .int .i64 x2, .int .i64 0, .int .i64 0, .int .i64 0, .int .u32 0, .int .u32 0, .slice none 0 0, .slice none 0 0]] W (fun e w' => e = .returned (.bool b) ∧ Below W.heap.size W w') from fun x0 x1 x2 b hb W => onOver_any 4 x0 x1 x2 0 0 0 0 0 none 0 0 none 0 0 b hb W)
    by_cases hn : (300 : Int) < (n : Int)
    · have b0 : decide ((300 : Int) < (n : Int)) = true := decide_eq_true hn
      have b0n : decide (300 < n) = true := by simp; omega
      clear hn
      go_enter Try.func4, Try.ntmps4
      go_wp2_with fail
      refine (AL.out _).mono ?_
      rintro e w1 ⟨rfl, hb⟩
      replace HB := Lib.hid (And.intro (HB.out.1.trans (hb.mono HB.out.2)) (Nat.le_trans HB.out.2 hb.size))
      clear hb
      go_wp2
      go_ret
      exact ⟨rfl, HB.out.1⟩
    have b0 : decide ((300 : Int) < (n : Int)) = false := decide_eq_false hn
    have b0n : decide (300 < n) = false := by simp; omega
    have hn1 : n ≤ 300 := by omega
    clear hn
    by_cases hm : (300 : Int) < (m : Int)
    · have b1 : decide ((300 : Int) < (m : Int)) = true := decide_eq_true hm
      have b1n : decide (300 < m) = true := by simp; omega
      clear hm
      go_enter Try.func4, Try.ntmps4
      go_wp2_with fail
      refine (AL.out _).mono ?_
      rintro e w1 ⟨rfl, hb⟩
      replace HB := Lib.hid (And.intro (HB.out.1.trans (hb.mono HB.out.2)) (Nat.le_trans HB.out.2 hb.size))
      clear hb
      go_wp2
      go_ret
      exact ⟨rfl, HB.out.1⟩
    have b1 : decide ((300 : Int) < (m : Int)) = false := decide_eq_false hm
    have b1n : decide (300 < m) = false := by simp; omega
    have hm1 : m ≤ 300 := by omega
    clear hm
    obtain ⟨k, hk⟩ : ∃ k : Nat, nn % 5 = (k : Int) := ⟨(nn % 5).toNat, by omega⟩
    have k5 : k < 5 := by omega
    have hr : nn.tmod 5 = (k : Int) := by rw [Int.tmod_eq_emod_of_nonneg f0]; exact hk
    have hw1 : IntKind.i64.wrap nn = nn := by rw [IntKind.wrap_i64]; omega
    have hw2 : IntKind.i64.wrap (k : Int) = (k : Int) := by rw [IntKind.wrap_i64]; omega
    obtain ⟨mn, hmn⟩ : ∃ x : Nat, k + 1 = x := ⟨_, rfl⟩
    have hw3 : IntKind.i64.wrap (1 + (k : Int)) = (mn : Int) := by rw [IntKind.wrap_i64]; omega
    have HMN := Lib.hid (show 0 < mn ∧ mn ≤ 5 by omega)
    clear hmn hk k5 f0 f1
    go_enter Try.func4, Try.ntmps4
    go_wp2_with fail
    refine (AL.out _).mono ?_
    rintro e w1 ⟨rfl, hb⟩
    replace HB := Lib.hid (And.intro (HB.out.1.trans (hb.mono HB.out.2)) (Nat.le_trans HB.out.2 hb.size))
    clear hb
    go_wp2
    obtain ⟨w2, hw4⟩ : ∃ W, ((((w1.alloc (.cells (List.toArray (.int .i64 0 :: .int .i64 0 :: .int .i64 0 :: .int .i64 0 :: .int .i64 0 :: .int .i64 0 :: .bool false :: .bool false :: .int .i64 0 :: .bool false :: .int .i64 0 :: .int .i64 0 :: .int .i64 0 :: .int .i64 0 :: .int .i64 0 :: .int .i64 0 :: .bool false :: .bool false :: .int .i64 0 :: .bool false :: .int .i64 0 :: .int .i64 0 :: .int .i64 0 :: .int .i64 0 :: .int .i64 0 :: .int .i64 0 :: .bool false :: .bool false :: .int .i64 0 :: .bool false :: .int .i64 0 :: .int .i64 0 :: .int .i64 0 :: .int .i64 0 :: .int .i64 0 :: .int .i64 0 :: .bool false :: .bool false :: .int .i64 0 :: .bool false :: .int .i64 0 :: .int .i64 0 :: .int .i64 0 :: .int .i64 0 :: .int .i64 0 :: .int .i64 0 :: .bool false :: .bool false :: .int .i64 0 :: .bool false :: [])) 47)).alloc (.cells #[.bool false, .bool false, .bool false, .bool false, .bool false] 48)).alloc (.cells #[.bool false, .bool false, .bool false, .bool false, .bool false] 48)).alloc (.cells #[.int .i64 4, .int .i64 0, .int .i64 0, .int .i64 0, .int .i64 0, .int .i64 0, .int .i64 0, .int .u32 0, .int .u32 0, .slice none 0 0, .slice none 0 0] 29)) = W := ⟨_, rfl⟩
    have HT0 := Lib.hid (hw4 ▸ TO.first HB.out.1 HB.out.2)
    rw [hw4]
    clear hw4 HB
    generalize w1.heap.size + 1 + 1 + 1 = sO at *
    generalize w1.heap.size + 1 + 1 = sW at *
    generalize w1.heap.size + 1 = sE at *
    generalize w1.heap.size = sF at *
    refine wp_loop (fun a' wr => Rel18 w n sF sE sW sO (fun v11 v13 v14 v15 v16 => [.int .u8 nn, .slice A n c, .slice B m d, undef, undef, undef, .bool false, .int .i64 (mn : Int), .pointer (some ⟨sF, 0, none⟩), .pointer (some ⟨sE, 0, none⟩), .pointer (some ⟨sW, 0, none⟩), v11, .pointer (some ⟨sO, 0, none⟩), v13, v14, v15, v16]) a' wr) (fun a' _ => n - (intOf (a'.tmps.getD 16 undef)).toNat) ?atStart ?round
    case atStart => unfold Rel18; exact ⟨_, _, _, _, _, 0, 0, 0, none, fun _ => noF, fun _ => false, fun _ => false, 0, 0, 0, 0, 0, 0, [], ⟨by kernel_rfl, rfl, rfl⟩, Lib.hid ⟨rfl, rfl, rfl, rfl, rfl⟩, by omega, by omega, Lib.hid rfl, HT0, Lib.hid (World.ownsRow_nil _ _ _ _), Lib.hid OInv.start⟩
    case round =>
      clear HT0
      rintro a1 wr ⟨v11, v13, v14, v15, v16, i, rn, rk, C, F, E, W, clk, x0, x1, x2, told, over, row, hfr, hv, hi, hrn, HW5, HT, HR, HM⟩
      obtain ⟨rfl, rfl, rfl, rfl, rfl⟩ := hv.out
      clear hv
      obtain ⟨tf, rfl⟩ := frame17of203 hfr
      clear hfr
      have HBD := Lib.hid hrn
      clear hrn
      by_cases hlt : i < n
      rotate_left
      · have en : i = n := by omega
        subst en
        have c1 : decide ((i : Int) < (i : Int)) = false := by simp
        have c1n : decide (i < i) = false := by simp
        obtain ⟨l1, l2, l3, l4⟩ := HM.out.last
        have d1 : decide (told ≤ 1) = true := by simp; exact l1
        have d2 : decide (over ≤ told) = true := by simp; exact l2
        have HL := Lib.hid (And.intro l3 l4)
        clear l1 l2 l3 l4
        have qo := row11 (b := sO) HT.out.bO
        by_cases ho : over = 0
        · have d3 : (over == 0) = true := by simp [ho]
          by_cases hq : told = 1
          · have d4 : (told == 1) = true := by simp [hq]
            clear ho hq
            go_wp2
            go_ret
            exact ⟨rfl, HT.out.bel⟩
          · have d4 : (told == 1) = false := by simp [hq]
            clear ho
            have HQ := Lib.hid hq
            clear hq
            have ov2 : (x2 == 1) = false := by have h3 := HL.out.2; have h4 := HQ.out; simp; omega
            go_wp2_with fail
            refine (OV.out x0 x1 x2 false ov2 _).mono ?_
            rintro e wv2 ⟨rfl, hb⟩
            replace HT := Lib.hid (HT.out.step hb)
            clear hb qo
            have qo := row11 (b := sO) HT.out.bO
            go_wp2
            go_ret
            exact ⟨rfl, HT.out.bel⟩
        · have d3 : (over == 0) = false := by simp [ho]
          have d4 : (told == 1) = true := by have h := HM.out.told0; have h1 := HM.out.t1; have h2 := HM.out.o0; simp; omega
          have HO := Lib.hid ho
          clear ho
          have ov : (x2 == 1) = true := by have h3 := HL.out.1; have h4 := HO.out; simp; omega
          go_wp2_with fail
          refine (OV.out x0 x1 x2 true ov _).mono ?_
          rintro e wv ⟨rfl, hb⟩
          replace HT := Lib.hid (HT.out.step hb)
          clear hb qo
          have qo := row11 (b := sO) HT.out.bO
          go_wp2
          go_ret
          exact ⟨rfl, HT.out.bel⟩
      have c1 : decide ((i : Int) < (n : Int)) = true := by simpa using hlt
      have i0 : (0 : Int) ≤ (i : Int) := by omega
      have i1 : (i : Int) < (n : Int) := by omega
      obtain ⟨b0_, off0, y, e0, hby, hcy, y0, y1, _, _⟩ := (Bs.below PX.out HT.out.bel).look i (by omega)
      subst e0
      obtain ⟨t, htt⟩ : ∃ t : Nat, y % (mn : Int) = (t : Int) := ⟨(y % (mn : Int)).toNat, by have := HMN.out; have := Int.emod_nonneg y (show (mn : Int) ≠ 0 by omega); omega⟩
      have ht5 : t < 5 := by have := HMN.out; have := Int.emod_lt_of_pos y (show (0 : Int) < (mn : Int) by omega); omega
      have htm : y.tmod (mn : Int) = (t : Int) := by rw [Int.tmod_eq_emod_of_nonneg y0]; exact htt
      have hwy : IntKind.i64.wrap y = y := by rw [IntKind.wrap_i64]; omega
      have hwt : IntKind.i64.wrap (t : Int) = (t : Int) := by rw [IntKind.wrap_i64]; omega
      have hm0 : ((mn : Int) == 0) = false := by have := HMN.out; simp; omega
      have hm0n : ¬ (mn : Int) = 0 := by have := HMN.out; omega
      have hm0m : ¬ mn = 0 := by have := HMN.out; omega
      have HTT := Lib.hid htt
      have t5 := Lib.hid ht5
      have t6 := Lib.hid (Nat.lt_succ_of_lt ht5)
      clear htt hby
      have t0 : (0 : Int) ≤ (t : Int) := by omega
      have t1 : (t : Int) < 5 := by omega
      have HLT := Lib.hid hlt
      clear hlt ht5
      obtain ⟨bq, hbq⟩ : ∃ b, decide (i < m) = b := ⟨_, rfl⟩
      have hbi : decide ((i : Int) < (m : Int)) = bq := by rw [← hbq]; exact decide_eq_decide.2 (by omega)
      have HBQ := Lib.hid hbq
      go_upto_if 45 with fail
      clear hbi hbq
      refine wp_cut (fun a' wx => ∃ (v13 : Value) (clk2 : Int), FraN a' 203 [.int .u8 nn, .slice (some ⟨b0_, off0, none⟩) n c, .slice B m d, undef, undef, undef, .bool false, .int .i64 (mn : Int), .pointer (some ⟨sF, 0, none⟩), .pointer (some ⟨sE, 0, none⟩), .pointer (some ⟨sW, 0, none⟩), .slice C rn rk, .pointer (some ⟨sO, 0, none⟩), v13, .int .i64 told, .int .i64 over, .int .i64 (i : Int)] ∧ Hid (v13 = .int .i64 clk2) ∧ Hid (wx = wr)) ?rest ?first
      rotate_left
      case first =>
        intro J K2 hJ hK
        cases bq
        · skip
          go_wp2_with fail
          refine Met.intro ?_
          go_step
          exact ⟨_, _, ⟨by kernel_rfl, rfl, rfl⟩, Lib.hid rfl, Lib.hid (by first | rfl | trivial)⟩
        · have hq : i < m := by simpa using HBQ.out
          have i2 : (i : Int) < (m : Int) := by omega
          obtain ⟨b1_, off1, x, e1, hbx, hcx, x0_, x1_, _, _⟩ := (Bs.below NX.out HT.out.bel).look i (by omega)
          subst e1
          obtain ⟨v, hv⟩ : ∃ v : Int, x.tmod 8 = v := ⟨_, rfl⟩
          clear hbx hq x0_ x1_
          go_wp2_with fail
          refine Met.intro ?_
          go_step
          exact ⟨_, _, ⟨by kernel_rfl, rfl, rfl⟩, Lib.hid rfl, Lib.hid (by first | rfl | trivial)⟩
      case rest =>
        rintro a1b wcl ⟨v13, clk2, hfr, hv, hwe⟩
        obtain rfl := hv.out
        obtain rfl := hwe.out
        clear hv hwe
        obtain ⟨tfb, rfl⟩ := frame17of203 hfr
        clear hfr
        have cw := HT.out.atW t5.out
        cases hWt : W t
        rotate_left
        · rw [hWt] at cw
          go_wp2
          refine ⟨?rel, ?measure⟩
          case rel => have := HLT.out; have := HBD.out; have HM2 := HM; unfold Rel18; exact ⟨_, _, _, _, _, i + 1, rn, rk, C, F, E, W, _, x0, x1, x2, told, over, row, ⟨by kernel_rfl, rfl, rfl⟩, Lib.hid ⟨by first | rfl | go_num, rfl, by first | rfl | go_num, by first | rfl | go_num, by go_num⟩, by omega, by omega, Lib.hid (by first | exact HW5.out | exact (updN_ne (by have := t5.out; omega)).trans HW5.out), HT, HR, HM2⟩
          case measure => have := HLT.out; simp [intOf]; omega
        rw [hWt] at cw
        have HWT := Lib.hid hWt
        obtain ⟨⟨op, stage, phase, old, since, left, awoke, starve, need, front⟩, hft⟩ : ∃ f, F t = f := ⟨_, rfl⟩
        have aq := HT.out.frame t5.out
        rw [hft] at aq
        simp only at aq
        have HFT := Lib.hid hft
        clear hft hWt
        obtain ⟨wx1, hwx1⟩ : ∃ W, (wcl.alloc (.cells #[.int .i64 0, .int .i64 0, .int .i64 0, .int .i64 0, .int .i64 0, .int .i64 0, .bool false, .bool false, .int .i64 0, .bool false] 31)) = W := ⟨_, rfl⟩
        have hb : Below wcl.heap.size wcl wx1 := hwx1 ▸ (Below.refl _ _).alloc (Nat.le_refl _) _
        have hv0 : wx1.heap[wcl.heap.size]? = some (.cells #[.int .i64 0, .int .i64 0, .int .i64 0, .int .i64 0, .int .i64 0, .int .i64 0, .bool false, .bool false, .int .i64 0, .bool false] 31) := hwx1 ▸ heap_alloc_new _ _
        have gf : w.heap.size ≤ wcl.heap.size := HT.out.siz
        replace HT := Lib.hid (HT.out.step hb)
        replace HR := Lib.hid (own_below HR.out hb)
        have Vf := Lib.hid hv0
        obtain ⟨sf, hsf⟩ : ∃ x, wcl.heap.size = x := ⟨_, rfl⟩
        rw [hsf] at Vf gf
        clear hb hv0
        obtain ⟨mwx2, wx2, hwx2, hse, VN⟩ := set10 Vf.out (.int .i64 op) (.int .i64 stage) (.int .i64 phase) (.int .i64 old) (.int .i64 since) (.int .i64 left) (.bool awoke) (.bool starve) (.int .i64 need) (.bool front)
        replace HT := Lib.hid (HT.out.othE Vf.out (by decide) (by decide) (by decide) gf hse)
        replace HR := Lib.hid (own_cellsE HR.out Vf.out (by decide) hse)
        replace Vf := VN
        clear VN hse
        obtain ⟨bz, hbz, hrun⟩ := fr_is0 op stage phase old since left awoke starve need front
        have HBZ := Lib.hid hbz
        clear hbz
        have lv3 := row10 Vf.out
        go_upto_if 69 with fail
        clear hwx1 hsf aq mwx2 hwx2 lv3
        clear hrun cw
        refine wp_cut (fun a' wx => ∃ (v19 v20 : Value) (bop bstage bphase bold bsince bleft : Int) (bawoke bstarve : Bool) (bneed : Int) (bfront : Bool), FraN a' 203 [.int .u8 nn, .slice (some ⟨b0_, off0, none⟩) n c, .slice B m d, undef, undef, undef, .bool false, .int .i64 (mn : Int), .pointer (some ⟨sF, 0, none⟩), .pointer (some ⟨sE, 0, none⟩), .pointer (some ⟨sW, 0, none⟩), .slice C rn rk, .pointer (some ⟨sO, 0, none⟩), .int .i64 clk2, .int .i64 told, .int .i64 over, .int .i64 (i : Int), .int .i64 (t : Int), .pointer (some ⟨sf, 0, none⟩), v19, v20] ∧ Hid (TO w wx sF sE sW sO F E W x0 x1 x2) ∧ Hid (World.ownsRow wx w.heap.size 3 1 (.slice C rn rk) rn (nats row)) ∧ Hid (wx.heap[sf]? = some (.cells #[.int .i64 bop, .int .i64 bstage, .int .i64 bphase, .int .i64 bold, .int .i64 bsince, .int .i64 bleft, .bool bawoke, .bool bstarve, .int .i64 bneed, .bool bfront] 31)) ∧ Hid (OInv x0 x1 x2 (updN F t (⟨bop, bstage, bphase, bold, bsince, bleft, bawoke, bstarve, bneed, bfront⟩ : MFr)) E W row told over ∧ (⟨bop, bstage, bphase, bold, bsince, bleft, bawoke, bstarve, bneed, bfront⟩ : MFr) ≠ noF)) ?rest ?first
        rotate_left
        case first =>
          intro J K2 hJ hK
          · rename_i zz0 zz1 zz2 zz3 zz4 zz5 zz6 zz7 zz8 zz9
            revert nn n c ps B m d ns w NX AL N34 N35 OV b0 b0n hn1 b1 b1n hm1 k hr hw1 hw2 mn hw3 HMN zz0 w1 zz1 zz2 w2 sO sW sE sF i rn rk C F E W clk x0 x1 x2 told over row hi HW5 HM tf HBD c1 i0 i1 b0_ off0 y y0 y1 zz3 zz4 PX t htm hwy hwt hm0 hm0n hm0m HTT t5 t6 t0 t1 HLT bq HBQ zz5 zz6 zz7 wcl clk2 hcy tfb HWT op stage phase old since left awoke starve need front HFT wx1 sf gf wx2 HT HR Vf bz HBZ zz8 zz9 J K2 hJ hK
            exact h1.out
        case rest =>
          clear HT HR HM Vf HFT HBZ
          rintro a2 wc ⟨v19, v20, bop, bstage, bphase, bold, bsince, bleft, bawoke, bstarve, bneed, bfront, hfr, HT, HR, Vf, hm⟩
          clear bz op stage phase old since left awoke starve need front
          obtain ⟨tf2, rfl⟩ := frame21of203 hfr
          clear hfr
          obtain ⟨FF, hFF⟩ : ∃ G, updN F t (⟨bop, bstage, bphase, bold, bsince, bleft, bawoke, bstarve, bneed, bfront⟩ : MFr) = G := ⟨_, rfl⟩
          have HM := Lib.hid (hFF ▸ hm.out.1)
          have HFF := Lib.hid (show FF t = (⟨bop, bstage, bphase, bold, bsince, bleft, bawoke, bstarve, bneed, bfront⟩ : MFr) from by rw [← hFF, updN_self])
          have HNF := Lib.hid (show FF t ≠ noF from by rw [← hFF, updN_self]; exact hm.out.2)
          have HUF := Lib.hid hFF
          clear hm hFF
          have hneed : 0 ≤ bneed := by have h := HM.out.need0 t6.out; rw [HFF.out] at h; exact h
          have lv4 := row10 Vf.out
          obtain ⟨bn, hbn⟩ : ∃ b, decide (0 < bneed) = b := ⟨_, rfl⟩
          go_upto_if 73 with fail
          clear lv4
          have HBN := Lib.hid hbn
          have HNE := Lib.hid hneed
          clear hbn hneed
          cases bn
          rotate_left
          · rename_i zz0 zz1 zz2 zz3 zz4 zz5 zz6 zz7 zz8 zz9
            revert nn n c ps B m d ns w NX AL N34 N35 OV b0 b0n hn1 b1 b1n hm1 k hr hw1 hw2 mn hw3 HMN zz0 w1 zz1 zz2 w2 sO sW sE sF i rn rk C F E W clk x0 x1 x2 told over row hi HW5 tf HBD c1 i0 i1 b0_ off0 y y0 y1 zz3 zz4 PX t htm hwy hwt hm0 hm0n hm0m HTT t5 t6 t0 t1 HLT bq HBQ zz5 zz6 zz7 wcl clk2 hcy tfb HWT wx1 sf gf wx2 wc v19 v20 bop bstage bphase bold bsince bleft bawoke bstarve bneed bfront HT HR Vf tf2 FF HM HFF HNF HUF zz8 zz9 HNE HBN
            exact h2.out
          have HN0 := Lib.hid (show bneed = 0 by have := HNE.out; have := of_decide_eq_false HBN.out; omega)
          clear HNE HBN
          obtain ⟨wx5, hwx5⟩ : ∃ W, (wc.alloc (.cells #[.bool false, .bool false, .bool false, .int .i64 0, .int .i64 0, .int .u64 0, .slice none 0 0] 39)) = W := ⟨_, rfl⟩
          have hb : Below wc.heap.size wc wx5 := hwx5 ▸ (Below.refl _ _).alloc (Nat.le_refl _) _
          have hv0 : wx5.heap[wc.heap.size]? = some (.cells #[.bool false, .bool false, .bool false, .int .i64 0, .int .i64 0, .int .u64 0, .slice none 0 0] 39) := hwx5 ▸ heap_alloc_new _ _
          have gu : w.heap.size ≤ wc.heap.size := HT.out.siz
          replace HT := Lib.hid (HT.out.step hb)
          replace HR := Lib.hid (own_below HR.out hb)
          replace Vf := Lib.hid (blk_below Vf.out hb (blk_lt Vf.out))
          have Vu := Lib.hid hv0
          obtain ⟨su, hsu⟩ : ∃ x, wc.heap.size = x := ⟨_, rfl⟩
          rw [hsu] at Vu gu
          clear hb hv0
          have lv6 := row10 Vf.out
          have cd := HT.out.atE t5.out
          obtain ⟨et, het⟩ : ∃ x, E t = x := ⟨_, rfl⟩
          rw [het] at cd
          have HET := Lib.hid het
          clear het
          go_upto_if 102 with fail
          refine wp_cut (fun a' wx => ∃ (v20 : Value) (z0 z2 : Int) (gop gstage gphase gold gsince gleft : Int) (gawoke gstarve : Bool) (gneed : Int) (gfront : Bool) (gdn ghd : Bool) (ggv gvl : Int), FraN a' 203 [.int .u8 nn, .slice (some ⟨b0_, off0, none⟩) n c, .slice B m d, undef, undef, undef, .bool false, .int .i64 (mn : Int), .pointer (some ⟨sF, 0, none⟩), .pointer (some ⟨sE, 0, none⟩), .pointer (some ⟨sW, 0, none⟩), .slice C rn rk, .pointer (some ⟨sO, 0, none⟩), .int .i64 clk2, .int .i64 told, .int .i64 over, .int .i64 (i : Int), .int .i64 (t : Int), .pointer (some ⟨sf, 0, none⟩), .pointer (some ⟨su, 0, none⟩), v20] ∧ Hid (TO w wx sF sE sW sO F E W z0 x1 z2) ∧ Hid (World.ownsRow wx w.heap.size 3 1 (.slice C rn rk) rn (nats row)) ∧ Hid (wx.heap[sf]? = some (.cells #[.int .i64 gop, .int .i64 gstage, .int .i64 gphase, .int .i64 gold, .int .i64 gsince, .int .i64 gleft, .bool gawoke, .bool gstarve, .int .i64 gneed, .bool gfront] 31)) ∧ Hid (wx.heap[su]? = some (.cells #[.bool gdn, .bool false, .bool ghd, .int .i64 ggv, .int .i64 0, .int .u64 gvl, .slice none 0 0] 39)) ∧ Hid (OAns gdn ghd ggv gvl z0 x1 z2 (updN F t (⟨gop, gstage, gphase, gold, gsince, gleft, gawoke, gstarve, gneed, gfront⟩ : MFr)) E W row told over t)) ?rest ?first
          rotate_left
          case first =>
            intro J K2 hJ hK
            clear hwx5 hsu lv6 cd
            · rename_i zz0 zz1 zz2 zz3 zz4 zz5 zz6 zz7 zz8 zz9
              revert nn n c ps B m d ns w NX AL N34 N35 OV b0 b0n hn1 b1 b1n hm1 k hr hw1 hw2 mn hw3 HMN zz0 w1 zz1 zz2 w2 sO sW sE sF i rn rk C F E W clk x0 x1 x2 told over row hi HW5 tf HBD c1 i0 i1 b0_ off0 y y0 y1 zz3 zz4 PX t htm hwy hwt hm0 hm0n hm0m HTT t5 t6 t0 t1 HLT bq HBQ zz5 zz6 zz7 wcl clk2 hcy tfb HWT wx1 sf gf wx2 wc v19 v20 bop bstage bphase bold bsince bleft bawoke bstarve bneed bfront tf2 FF HM HFF HNF HUF HN0 wx5 HT HR Vf su gu Vu et HET zz8 zz9 J K2 hJ hK
              exact h3.out
          case rest =>
            clear hwx5 hsu lv6 cd
            have HFW := Lib.hid HM.out.few
            have HTO := Lib.hid (And.intro HM.out.told0 (And.intro HM.out.t1 HM.out.o0))
            clear HT HR HM Vf Vu HFF HNF HUF HN0
            rintro a3 wc3 ⟨v20, z0, z2, gop, gstage, gphase, gold, gsince, gleft, gawoke, gstarve, gneed, gfront, gdn, ghd, ggv, gvl, hfr, HT, HR, Vf, Vu, HA⟩
            clear bop bstage bphase bold bsince bleft bawoke bstarve bneed bfront FF
            obtain ⟨tf3, rfl⟩ := frame21of203 hfr
            clear hfr
            have lv7 := row10 Vf.out
            have lf9 := HT.out.frame t5.out
            have lz10 := HT.out.frz t
            obtain ⟨wx8, hwx8, hse⟩ := setFr wc3 sF (t * 10) (.int .i64 gop) (.int .i64 gstage) (.int .i64 gphase) (.int .i64 gold) (.int .i64 gsince) (.int .i64 gleft) (.bool gawoke) (.bool gstarve) (.int .i64 gneed) (.bool gfront)
            replace Vf := Lib.hid (stayO hse (blk_ne Vf.out HT.out.bF (by decide)) Vf.out)
            replace Vu := Lib.hid (stayO hse (blk_ne Vu.out HT.out.bF (by decide)) Vu.out)
            replace HR := Lib.hid (own_cellsE HR.out HT.out.bF (by decide) hse)
            replace HT := Lib.hid (HT.out.putFE t5.out (⟨gop, gstage, gphase, gold, gsince, gleft, gawoke, gstarve, gneed, gfront⟩ : MFr) hse)
            clear hse
            have lv11 := row7 Vu.out
            go_upto_if 126 with fail
            refine wp_cut (fun a' wx => ∃ (v11 v20 : Value) (y1 : Int) (F3 : Nat → MFr) (W3 : Nat → Bool) (m1 j1 : Nat) (E1 : Option Addr) (s1 : List Nat), FraN a' 203 [.int .u8 nn, .slice (some ⟨b0_, off0, none⟩) n c, .slice B m d, undef, undef, undef, .bool false, .int .i64 (mn : Int), .pointer (some ⟨sF, 0, none⟩), .pointer (some ⟨sE, 0, none⟩), .pointer (some ⟨sW, 0, none⟩), v11, .pointer (some ⟨sO, 0, none⟩), .int .i64 clk2, .int .i64 told, .int .i64 over, .int .i64 (i : Int), .int .i64 (t : Int), .pointer (some ⟨sf, 0, none⟩), .pointer (some ⟨su, 0, none⟩), v20] ∧ Hid (v11 = .slice E1 m1 j1 ∧ m1 ≤ i + 1) ∧ Hid (W3 5 = false) ∧ Hid (TO w wx sF sE sW sO F3 E W3 z0 y1 z2) ∧ Hid (World.ownsRow wx w.heap.size 3 1 (.slice E1 m1 j1) m1 (nats s1)) ∧ Hid (wx.heap[su]? = some (.cells #[.bool gdn, .bool false, .bool ghd, .int .i64 ggv, .int .i64 0, .int .u64 gvl, .slice none 0 0] 39)) ∧ Hid (OPend gdn gvl z0 y1 z2 F3 E W3 s1 told over t)) ?rest ?first
            rotate_left
            case first =>
              intro J K2 hJ hK
              clear lv7 lf9 lz10 hwx8 lv11
              · rename_i zz0 zz1 zz2 zz3 zz4 zz5 zz6 zz7 zz8 zz9 zz10
                revert nn n c ps B m d ns w NX AL N34 N35 OV b0 b0n hn1 b1 b1n hm1 k hr hw1 hw2 mn hw3 HMN zz0 w1 zz1 zz2 w2 sO sW sE sF i rn rk C F E W clk x0 x1 x2 told over row hi HW5 tf HBD c1 i0 i1 b0_ off0 y y0 y1 zz3 zz4 PX t htm hwy hwt hm0 hm0n hm0m HTT t5 t6 t0 t1 HLT bq HBQ zz5 zz6 zz7 wcl clk2 hcy tfb HWT wx1 sf gf wx2 wc v19 zz8 tf2 wx5 su gu et HET HFW HTO wc3 v20 z0 z2 gop gstage gphase gold gsince gleft gawoke gstarve gneed gfront gdn ghd ggv gvl HA tf3 wx8 Vf Vu HR HT zz9 zz10 J K2 hJ hK
                exact h4.out
            case rest =>
              clear lv7 lf9 lz10 hwx8 lv11
              clear HT HR HA Vf Vu HW5
              rintro a4 wc4 ⟨v11, v20, y1, F3, W3, m1, j1, E1, s1, hfr, hb, HW5, HT, HR, Vu, HPD⟩
              obtain ⟨rfl, hb2⟩ := hb.out
              replace HBD := Lib.hid hb2
              clear hb hb2 gop gstage gphase gold gsince gleft gawoke gstarve gneed gfront
              obtain ⟨tf4, rfl⟩ := frame21of203 hfr
              clear hfr
              have lv12 := row7 Vu.out
              cases gdn
              · have HM2 := Lib.hid (show OInv z0 y1 z2 F3 E W3 s1 told over from by rcases HPD.out with h | h | h; exact h.2; cases h.1; cases h.1)
                go_wp2
                refine ⟨?rel, ?measure⟩
                case rel => have := HLT.out; have := HBD.out; have HM2 := HM2; unfold Rel18; exact ⟨_, _, _, _, _, i + 1, m1, j1, E1, F3, E, W3, _, z0, y1, z2, told, over, s1, ⟨by kernel_rfl, rfl, rfl⟩, Lib.hid ⟨by first | rfl | go_num, rfl, by first | rfl | go_num, by first | rfl | go_num, by go_num⟩, by omega, by omega, Lib.hid (by first | exact HW5.out | exact (updN_ne (by have := t5.out; omega)).trans HW5.out), HT, HR, HM2⟩
                case measure => have := HLT.out; simp [intOf]; omega
              have cd := HT.out.atE t5.out
              rw [HET.out] at cd
              go_upto_if 161 with fail
              · rename_i zz0 zz1 zz2 zz3 zz4 zz5 zz6 zz7 zz8 zz9 zz10 zz11 zz12
                revert nn n c ps B m d ns w NX AL N34 N35 OV b0 b0n hn1 b1 b1n hm1 k hr hw1 hw2 mn hw3 HMN zz0 w1 zz1 zz2 w2 sO sW sE sF i rn rk C F E W clk x0 x1 x2 told over row hi tf c1 i0 i1 b0_ off0 y y0 zz3 zz4 zz5 PX t htm hwy hwt hm0 hm0n hm0m HTT t5 t6 t0 t1 HLT bq HBQ zz6 zz7 zz8 wcl clk2 hcy tfb HWT wx1 sf gf wx2 wc v19 zz9 tf2 wx5 su gu et HET HFW HTO wc3 zz10 z0 z2 ghd ggv gvl tf3 wx8 wc4 v20 y1 F3 W3 m1 j1 E1 s1 HW5 HT HR HBD tf4 Vu HPD lv12 cd zz11 zz12
                exact h5.out
end Go.Proofs.Ytkecmiedeihdgaa
