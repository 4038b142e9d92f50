/- The walk of MutexTurns: it answers true, over any world; no condition. -/
import Derived.Test.YtagaijghfikdoaaMutS
import Derived.Test.YtagaijghfikdoaaMutW
import Derived.Deep.Cut
import Derived.Deep.CutRange
namespace Go.Proofs.Ytagaijghfikdoaa
set_option linter.unusedVariables false
set_option linter.unusedSimpArgs false
open Go.RowKit
set_option maxRecDepth 100000 in
set_option maxHeartbeats 16000000 in
def turns15_skel : PSigma fun G1 : Prop => PSigma fun G2 : Prop => (G1 → G2 → ∀ (nn : Int) (A : Option Addr) (n c : Nat) (ps : List Int) (B : Option Addr) (m d : Nat) (ns : List Int) (w : World) (f0 : 0 ≤ nn) (f1 : nn < 256) (hx : Bs w A n c ps) (hy : Bs w B m d ns),
    Calls Try.prog 7 #[.int .u8 nn, .slice A n c, .slice B m d] w fun e w' => e = .returned (.bool true) ∧ Below w.heap.size w w') := by
  refine ⟨?G1, ?G2, fun h1 h2 => ?main⟩
  case main =>
    replace h1 := Lib.hid h1
    replace h2 := Lib.hid h2
    intro nn A n c ps B m d ns w f0 f1 hx hy
    have PX := Lib.hid hx; have NX := Lib.hid hy
    clear hx hy
    have HB := Lib.hid (And.intro (Below.refl w.heap.size w) (Nat.le_refl w.heap.size))
    have AL := Lib.hid alive15
    have N1 := Lib.hid (show ∀ W : World, Calls Try.prog 18 #[.int .i64 26] W (fun e w' => e = .returned (.agg #[.int .i64 26, .int .i64 0, .int .i64 0, .int .i64 0, .int .i64 (-1), .int .i64 0, .bool false, .bool false, .int .i64 0, .bool false]) ∧ Below W.heap.size W w') from fun W => muBegin_any 26 W)
    have N2 := Lib.hid (show ∀ W : World, Calls Try.prog 18 #[.int .i64 27] W (fun e w' => e = .returned (.agg #[.int .i64 27, .int .i64 0, .int .i64 0, .int .i64 0, .int .i64 (-1), .int .i64 0, .bool false, .bool false, .int .i64 0, .bool false]) ∧ Below W.heap.size W w') from fun W => muBegin_any 27 W)
    by_cases hn : (300 : Int) < (n : Int)
    · have b0 : decide ((300 : Int) < (n : Int)) = true := decide_eq_true hn
      have b0n : decide (300 < n) = true := by simp; omega
      clear hn
      go_enter Try.func7, Try.ntmps7
      go_wp2_with fail
      refine (AL.out _).mono ?_
      rintro e w1 ⟨rfl, hb⟩
      replace HB := Lib.hid (And.intro (HB.out.1.trans (hb.mono HB.out.2)) (Nat.le_trans HB.out.2 hb.size))
      clear hb
      go_wp2
      go_ret
      exact ⟨rfl, HB.out.1⟩
    have b0 : decide ((300 : Int) < (n : Int)) = false := decide_eq_false hn
    have b0n : decide (300 < n) = false := by simp; omega
    have hn1 : n ≤ 300 := by omega
    clear hn
    by_cases hm : (300 : Int) < (m : Int)
    · have b1 : decide ((300 : Int) < (m : Int)) = true := decide_eq_true hm
      have b1n : decide (300 < m) = true := by simp; omega
      clear hm
      go_enter Try.func7, Try.ntmps7
      go_wp2_with fail
      refine (AL.out _).mono ?_
      rintro e w1 ⟨rfl, hb⟩
      replace HB := Lib.hid (And.intro (HB.out.1.trans (hb.mono HB.out.2)) (Nat.le_trans HB.out.2 hb.size))
      clear hb
      go_wp2
      go_ret
      exact ⟨rfl, HB.out.1⟩
    have b1 : decide ((300 : Int) < (m : Int)) = false := decide_eq_false hm
    have b1n : decide (300 < m) = false := by simp; omega
    have hm1 : m ≤ 300 := by omega
    clear hm
    obtain ⟨k, hk⟩ : ∃ k : Nat, nn % 6 = (k : Int) := ⟨(nn % 6).toNat, by omega⟩
    have k6 : k < 6 := by omega
    have hr : nn.tmod 6 = (k : Int) := by rw [Int.tmod_eq_emod_of_nonneg f0]; exact hk
    have hw1 : IntKind.i64.wrap nn = nn := by rw [IntKind.wrap_i64]; omega
    have hw2 : IntKind.i64.wrap (k : Int) = (k : Int) := by rw [IntKind.wrap_i64]; omega
    obtain ⟨mn, hmn⟩ : ∃ x : Nat, k + 1 = x := ⟨_, rfl⟩
    have hw3 : IntKind.i64.wrap (1 + (k : Int)) = (mn : Int) := by rw [IntKind.wrap_i64]; omega
    have HMN := Lib.hid (show 0 < mn ∧ mn ≤ 6 by omega)
    clear hmn hk k6 f0 f1
    go_enter Try.func7, Try.ntmps7
    go_wp2_with fail
    refine (AL.out _).mono ?_
    rintro e w1 ⟨rfl, hb⟩
    replace HB := Lib.hid (And.intro (HB.out.1.trans (hb.mono HB.out.2)) (Nat.le_trans HB.out.2 hb.size))
    clear hb
    go_wp2
    obtain ⟨w2, hw4⟩ : ∃ W, ((((w1.alloc (.cells (List.toArray (.int .i64 0 :: .int .i64 0 :: .int .i64 0 :: .int .i64 0 :: .int .i64 0 :: .int .i64 0 :: .bool false :: .bool false :: .int .i64 0 :: .bool false :: .int .i64 0 :: .int .i64 0 :: .int .i64 0 :: .int .i64 0 :: .int .i64 0 :: .int .i64 0 :: .bool false :: .bool false :: .int .i64 0 :: .bool false :: .int .i64 0 :: .int .i64 0 :: .int .i64 0 :: .int .i64 0 :: .int .i64 0 :: .int .i64 0 :: .bool false :: .bool false :: .int .i64 0 :: .bool false :: .int .i64 0 :: .int .i64 0 :: .int .i64 0 :: .int .i64 0 :: .int .i64 0 :: .int .i64 0 :: .bool false :: .bool false :: .int .i64 0 :: .bool false :: .int .i64 0 :: .int .i64 0 :: .int .i64 0 :: .int .i64 0 :: .int .i64 0 :: .int .i64 0 :: .bool false :: .bool false :: .int .i64 0 :: .bool false :: .int .i64 0 :: .int .i64 0 :: .int .i64 0 :: .int .i64 0 :: .int .i64 0 :: .int .i64 0 :: .bool false :: .bool false :: .int .i64 0 :: .bool false :: [])) 51)).alloc (.cells #[.bool false, .bool false, .bool false, .bool false, .bool false, .bool false] 52)).alloc (.cells #[.bool false, .bool false, .bool false, .bool false, .bool false, .bool false] 52)).alloc (.cells #[.int .i64 1, .int .i64 0, .int .i64 0, .int .i64 0, .int .i64 0, .int .i64 0, .int .i64 0, .int .u32 0, .int .u32 0, .slice none 0 0, .slice none 0 0] 29)) = W := ⟨_, rfl⟩
    have HT0 := Lib.hid (hw4 ▸ TS.first HB.out.1 HB.out.2)
    rw [hw4]
    clear hw4 HB
    generalize w1.heap.size + 1 + 1 + 1 = sO at *
    generalize w1.heap.size + 1 + 1 = sW at *
    generalize w1.heap.size + 1 = sI at *
    generalize w1.heap.size = sF at *
    go_loopw [12, 13, 14, 15, 16, 17, 18, 19, 20] (fun rv cv iv _ _ _ _ _ _ wr => ∃ (i rn rc : Nat) (C : Option Addr) (clk : Int) (F : Nat → MFr) (I W : Nat → Bool) (a s : Int) (row : List Nat), rv = .slice C rn rc ∧ cv = .int .i64 clk ∧ iv = .int .i64 (i : Int) ∧ i ≤ n ∧ rn ≤ i ∧ Hid (TS w wr sF sI sW sO F I W a s) ∧ Hid (wr.ownsRow w.heap.size 3 1 (.slice C rn rc) rn (intC (row.map (fun x : Nat => (x : Int))))) ∧ Hid (MInv a s F I W row)) (fun _ _ iv _ _ _ _ _ _ _ => n - (intOf iv).toNat)
    case atStart => exact ⟨0, 0, 0, none, 0, fun _ => noF, fun _ => false, fun _ => false, 0, 0, [], rfl, rfl, rfl, by omega, by omega, HT0.out, World.ownsRow_nil _ _ _ _, MInv.start⟩
    case round =>
      clear HT0
      obtain ⟨i, rn, rc, C, clk, F, I, W, a, s, row, rfl, rfl, rfl, hi, hrn, HT, HR, HM⟩ := hrel
      by_cases hlt : i < n
      rotate_left
      · have en : i = n := by omega
        subst en
        have c1 : decide ((i : Int) < (i : Int)) = false := by simp
        have c1n : decide (i < i) = false := by simp
        obtain ⟨_, q0, q1, q2, _⟩ := row11 (b := sO) HT.out.bO
        have z0 : decide ((0 : Int) ≤ a) = true := by simp; exact HM.out.w0
        have z1 : decide ((0 : Int) ≤ s) = true := by simp; exact HM.out.s0
        go_wp2
        go_ret
        exact ⟨rfl, HT.out.bel⟩
      have c1 : decide ((i : Int) < (n : Int)) = true := by simpa using hlt
      have i0 : (0 : Int) ≤ (i : Int) := by omega
      have i1 : (i : Int) < (n : Int) := by omega
      obtain ⟨b0_, off0, y, e0, hby, hcy, y0, y1, _, _⟩ := (Bs.below PX.out HT.out.bel).look i (by omega)
      subst e0
      obtain ⟨t, htt⟩ : ∃ t : Nat, y % (mn : Int) = (t : Int) := ⟨(y % (mn : Int)).toNat, by have := HMN.out; have := Int.emod_nonneg y (show (mn : Int) ≠ 0 by omega); omega⟩
      have ht6 : t < 6 := by have := HMN.out; have := Int.emod_lt_of_pos y (show (0 : Int) < (mn : Int) by omega); omega
      have htm : y.tmod (mn : Int) = (t : Int) := by rw [Int.tmod_eq_emod_of_nonneg y0]; exact htt
      have hwy : IntKind.i64.wrap y = y := by rw [IntKind.wrap_i64]; omega
      have hwt : IntKind.i64.wrap (t : Int) = (t : Int) := by rw [IntKind.wrap_i64]; omega
      have hm0 : ((mn : Int) == 0) = false := by have := HMN.out; simp; omega
      have hm0n : ¬ (mn : Int) = 0 := by have := HMN.out; omega
      have hm0m : ¬ mn = 0 := by have := HMN.out; omega
      have HTT := Lib.hid htt
      have t6 := Lib.hid ht6
      clear htt hby
      have t0 : (0 : Int) ≤ (t : Int) := by omega
      have t1 : (t : Int) < 6 := by omega
      have HLT := Lib.hid hlt
      clear hlt ht6
      obtain ⟨bq, hbq⟩ : ∃ b, decide (i < m) = b := ⟨_, rfl⟩
      have hbi : decide ((i : Int) < (m : Int)) = bq := by rw [← hbq]; exact decide_eq_decide.2 (by omega)
      have HBQ := Lib.hid hbq
      go_upto_if 45 with fail
      clear hbi hbq
      go_cut [13] from 36 to 201 (fun s13 wx => wx = wr ∧ ∃ clk2 : Int, s13 = .int .i64 clk2)
      case first =>
        cases bq
        · go_wp2_with fail
          go_meet
          exact ⟨rfl, _, rfl⟩
        · have hq : i < m := by simpa using HBQ.out
          have i2 : (i : Int) < (m : Int) := by omega
          obtain ⟨b1_, off1, x, e1, hbx, hcx, x0, x1, _, _⟩ := (Bs.below NX.out HT.out.bel).look i (by omega)
          subst e1
          obtain ⟨v, hv⟩ : ∃ v : Int, x.tmod 8 = v := ⟨_, rfl⟩
          clear hbx hq x0 x1
          go_wp2_with fail
          go_meet
          exact ⟨rfl, _, rfl⟩
      case rest =>
        obtain ⟨hcw, clk2, rfl⟩ := hcut
        obtain rfl := hcw
        have cw := HT.out.wai t6.out
        cases hWt : W t
        rotate_left
        · rw [hWt] at cw
          go_wp2
          go_roundw
          case rel => have := HLT.out; exact ⟨i + 1, rn, rc, C, clk2, F, I, W, a, s, row, rfl, rfl, by go_num, by omega, by omega, HT.out, HR.out, HM.out⟩
          case measure => have := HLT.out; simp [intOf]; omega
        rw [hWt] at cw
        have HWT := Lib.hid hWt
        obtain ⟨⟨op, stage, phase, old, since, left, awoke, starve, need, front⟩, hft⟩ : ∃ f, F t = f := ⟨_, rfl⟩
        obtain ⟨bz, hbz, hrun⟩ := fr_is0 op stage phase old since left awoke starve need front
        obtain ⟨aq0, aq1, aq2, aq3, aq4, aq5, aq6, aq7, aq8, aq9⟩ := HT.out.frame t6.out
        rw [hft] at aq0 aq1 aq2 aq3 aq4 aq5 aq6 aq7 aq8 aq9
        have HBZ := Lib.hid hbz
        have HFT := Lib.hid hft
        clear hbz hft hWt
        go_upto_if 68 with fail
        clear aq0 aq1 aq2 aq3 aq4 aq5 aq6 aq7 aq8 aq9
        clear hrun cw
        go_cut [15] from 36 to 201 (fun s15 wx => s15 = .int .i64 (t : Int) ∧ ∃ F2 : Nat → MFr, Hid (TS w wx sF sI sW sO F2 I W a s) ∧ Hid (wx.ownsRow w.heap.size 3 1 (.slice C rn rc) rn (intC (row.map (fun x : Nat => (x : Int))))) ∧ Hid (MInv a s F2 I W row))
        case first =>
          cases bz
          · go_wp2_with fail
            go_meet
            exact ⟨rfl, F, HT, HR, HM⟩
          · have HF0 := Lib.hid (HFT.out.trans (HBZ.out.1 rfl))
            go_wp2_with fail
            refine (N1.out _).mono ?_
            rintro e wb ⟨rfl, hb⟩
            replace HT := Lib.hid (HT.out.step hb)
            replace HR := Lib.hid (own_below HR.out hb)
            clear hb
            obtain ⟨bq0, bq1, bq2, bq3, bq4, bq5, bq6, bq7, bq8, bq9⟩ := HT.out.frame t6.out
            obtain ⟨bz0, bz1, bz2, bz3, bz4, bz5, bz6, bz7, bz8, bz9⟩ := HT.out.frz t
            obtain ⟨wx1, hwx1⟩ : ∃ W, ((((((((((wb.setCell ⟨sF, t * 10, none⟩ (.int .i64 26)).setCell ⟨sF, t * 10 + 1, none⟩ (.int .i64 0)).setCell ⟨sF, t * 10 + 2, none⟩ (.int .i64 0)).setCell ⟨sF, t * 10 + 3, none⟩ (.int .i64 0)).setCell ⟨sF, t * 10 + 4, none⟩ (.int .i64 (-1))).setCell ⟨sF, t * 10 + 5, none⟩ (.int .i64 0)).setCell ⟨sF, t * 10 + 6, none⟩ (.bool false)).setCell ⟨sF, t * 10 + 7, none⟩ (.bool false)).setCell ⟨sF, t * 10 + 8, none⟩ (.int .i64 0)).setCell ⟨sF, t * 10 + 9, none⟩ (.bool false)) = W := ⟨_, rfl⟩
            have hse : wb.setCells sF (t * 10) (frC (beginF 26)) = wx1 := hwx1
            replace HR := Lib.hid (hse ▸ own_setCells (by decide) (frC (beginF 26)) (t * 10) HR.out HT.out.bF)
            replace HT := Lib.hid (hse ▸ HT.out.putF t6.out (beginF 26))
            clear hse
            obtain ⟨hi0, hm2⟩ := HM.out.begin t6.out HWT.out HF0.out
            rw [updN_id hi0] at hm2
            have HM2 := Lib.hid hm2
            clear hi0 hm2
            go_wp2_with fail
            go_meet
            exact ⟨rfl, _, HT, HR, HM2⟩
        case rest =>
          clear HM HR HT
          obtain ⟨rfl, F2, HT, HR, HM⟩ := hcut
          obtain ⟨⟨op, stage, phase, old, since, left, awoke, starve, need, front⟩, hft⟩ : ∃ f, F2 t = f := ⟨_, rfl⟩
          have HFT := Lib.hid hft
          obtain ⟨aq0, aq1, aq2, aq3, aq4, aq5, aq6, aq7, aq8, aq9⟩ := HT.out.frame t6.out
          rw [hft] at aq0 aq1 aq2 aq3 aq4 aq5 aq6 aq7 aq8 aq9
          have hneed : 0 ≤ need := by have h := (HM.out.ok t t6.out).need; rw [hft] at h; exact h
          clear hft
          by_cases hn : 0 < need
          · have d2 : decide (0 < need) = true := by simpa using hn
            have HN := Lib.hid (show 0 < (F2 t).need from by rw [HFT.out]; exact hn)
            clear hn hneed
            obtain ⟨ao0, ao1, ao2, ao3, ao4, ao5, ao6, ao7, ao8, ao9, ao10⟩ := row11 (b := sO) HT.out.bO
            by_cases hs : 0 < s
            · have d3 : decide (0 < s) = true := by simpa using hs
              have hsm : s ≤ 1 := by have h0 := HM.out.T0; have h1 := HM.out.T1; omega
              have hws : IntKind.i64.wrap (s - 1) = s - 1 := by rw [IntKind.wrap_i64]; omega
              have HM2 := Lib.hid (show MInv a (s - 1) (updN F2 t { F2 t with need := 0 }) I W row from by have h := HM.out.take t6.out HWT.out HN.out hs; rwa [updN_id (HM.out.needs t6.out HN.out).1] at h)
              clear hs hsm
              obtain ⟨bo0, bo1, bo2, bo3, bo4, bo5, bo6, bo7, bo8, bo9, bo10⟩ := row11 (b := sO) HT.out.bO
              obtain ⟨by0, by1, by2, by3, by4, by5, by6, by7, by8, by9, by10⟩ := frz11 (b := sO) HT.out.bO
              obtain ⟨wx1, hwx1⟩ : ∃ W, (wc.setCell ⟨sO, 2, none⟩ (.int .i64 (s - 1))) = W := ⟨_, rfl⟩
              replace HR := Lib.hid (hwx1 ▸ own_set (o := 2) (u := .int .i64 (s - 1)) HR.out HT.out.bO (by decide))
              replace HT := Lib.hid (hwx1 ▸ HT.out.putS (s - 1))
              obtain ⟨cq0, cq1, cq2, cq3, cq4, cq5, cq6, cq7, cq8, cq9⟩ := HT.out.frame t6.out
              obtain ⟨cz0, cz1, cz2, cz3, cz4, cz5, cz6, cz7, cz8, cz9⟩ := HT.out.frz t
              obtain ⟨wx2, hwx2⟩ : ∃ W, (wx1.setCell ⟨sF, t * 10 + 8, none⟩ (.int .i64 0)) = W := ⟨_, rfl⟩
              replace HR := Lib.hid (hwx2 ▸ own_set (o := t * 10 + 8) (u := .int .i64 0) HR.out HT.out.bF (by decide))
              replace HT := Lib.hid (hwx2 ▸ HT.out.putN t6.out)
              go_wp2
              go_roundw
              case rel => have := HLT.out; exact ⟨i + 1, rn, rc, C, clk2, (updN F2 t { F2 t with need := 0 }), I, W, a, (s - 1), row, rfl, rfl, by go_num, by omega, by omega, HT.out, HR.out, HM2.out⟩
              case measure => have := HLT.out; simp [intOf]; omega
            · have d3 : decide (0 < s) = false := by simpa using hs
              clear hs
              cases front
              · skip
                have hbl : Below wc.heap.size wc (wc.alloc (.cells #[.int .i64 (t : Int)] 3)) := (Below.refl _ _).alloc (Nat.le_refl _) _
                have HL1 := lit_ints wc (base := w.heap.size) HT.out.siz [(t : Int)] (by simp) (m := 1) rfl
                have RW1 := own_below HR.out hbl
                obtain ⟨A3, c3, w3, hap, hown, hgr⟩ := app_ints (wc.alloc (.cells #[.int .i64 (t : Int)] 3)) w.heap.size _ rn (row.map (fun x : Nat => (x : Int))) RW1 (some ⟨wc.heap.size, 0, none⟩) 1 1 [(t : Int)] (is_own15 HL1) (by omega) (by have := HT.out.siz; simp; omega)
                have HT3 := Lib.hid (HT.out.grown hbl hgr (fun b cs T hT hv => own_ne RW1 hv hT) (fun k hk => (RW1.lt k hk).1))
                replace HT := HT3
                replace HR := Lib.hid hown
                clear HT3 HL1 RW1 hown hgr
                have HM2 := Lib.hid (HM.out.park t6.out HWT.out HN.out)
                have dcw := HT.out.wai t6.out
                have dcx := blk_frozen HT.out.bW t
                obtain ⟨wx1, hwx1⟩ : ∃ W, (w3.setCell ⟨sW, t, none⟩ (.bool true)) = W := ⟨_, rfl⟩
                replace HR := Lib.hid (hwx1 ▸ own_set (o := t) (u := .bool true) HR.out HT.out.bW (by decide))
                replace HT := Lib.hid (hwx1 ▸ HT.out.putW t6.out true)
                clear hbl
                go_wp2_with (at_builtin; refine eapp_run (by rfl) rfl rfl rfl hap ?_)
                go_roundw
                case rel => have := HLT.out; exact ⟨i + 1, (rn + 1), c3, A3, clk2, F2, I, (updN W t true), a, s, (row ++ [t]), rfl, rfl, by go_num, by omega, by omega, HT.out, (by have h := HR.out; rwa [show row.map (fun x : Nat => (x : Int)) ++ [(t : Int)] = (row ++ [t]).map (fun x : Nat => (x : Int)) from by simp] at h), HM2.out.2⟩
                case measure => have := HLT.out; simp [intOf]; omega
              · skip
                have hbl : Below wc.heap.size wc (wc.alloc (.cells #[.int .i64 (t : Int)] 3)) := (Below.refl _ _).alloc (Nat.le_refl _) _
                have HL1 := lit_ints wc (base := w.heap.size) HT.out.siz [(t : Int)] (by simp) (m := 1) rfl
                have RW1 := own_below HR.out hbl
                obtain ⟨A3, c3, w3, hap, hown, hgr⟩ := app_ints (wc.alloc (.cells #[.int .i64 (t : Int)] 3)) w.heap.size _ 1 [(t : Int)] HL1 C rn rc (row.map (fun x : Nat => (x : Int))) (is_own15 RW1) (by omega) (by have := HT.out.siz; simp; omega)
                have hbw : Below wc.heap.size wc w3 := hbl.grown hgr (by simp) (fun k hk => by simp [Value.ownBlock] at hk; omega)
                have HT3 := Lib.hid (HT.out.grown hbl hgr (fun b cs T hT hv => own_ne HL1 hv hT) (fun k hk => (HL1.lt k hk).1))
                replace HT := HT3
                replace HR := Lib.hid hown
                clear HT3 HL1 RW1 hown hgr hbw
                have HM2 := Lib.hid (HM.out.park t6.out HWT.out HN.out)
                have dcw := HT.out.wai t6.out
                have dcx := blk_frozen HT.out.bW t
                obtain ⟨wx1, hwx1⟩ : ∃ W, (w3.setCell ⟨sW, t, none⟩ (.bool true)) = W := ⟨_, rfl⟩
                replace HR := Lib.hid (hwx1 ▸ own_set (o := t) (u := .bool true) HR.out HT.out.bW (by decide))
                replace HT := Lib.hid (hwx1 ▸ HT.out.putW t6.out true)
                clear hbl
                go_wp2_with (at_builtin; refine eapp_run (by rfl) rfl rfl rfl hap ?_)
                go_roundw
                case rel => have := HLT.out; exact ⟨i + 1, (1 + rn), c3, A3, clk2, F2, I, (updN W t true), a, s, (t :: row), rfl, rfl, by go_num, by omega, by omega, HT.out, HR.out, HM2.out.1⟩
                case measure => have := HLT.out; simp [intOf]; omega
          have d2 : decide (0 < need) = false := by simpa using hn
          have HN0 := Lib.hid (show (F2 t).need = 0 from by rw [HFT.out]; show need = 0; omega)
          clear hn hneed
          obtain ⟨WA, wn, wk, hwk⟩ : ∃ (X : Option Addr) (i j : Nat), (Value.slice X i j) = .slice none 0 0 := ⟨_, _, _, rfl⟩
          cases hbi : I t
          rotate_left
          · rename_i r0 r1 r2 r3 r4 r5 r6 r7 r8 r9 r10 r11 r12 r13 r14 r15 r16 r17 r18 r19 r20 r21 r22 r23 r24 r25 r26 r27 r28 r29 r30 r31 r32 r33 r34 r35 r36 r37 r38 r39 r40 r41 r42 r43 r44 r45 r46 r47 r48 r49 r50 r51 r52 r53 r54 r55 r56 r57 r58 r59 r60 r61 r62 r63 r64 r65 r66 r67 r68 r69 r70 r71 r72 r73 r74 r75 r76 r77 r78 r79 r80 r81 r82 r83 r84 r85 r86 r87 r88 r89 r90 r91 r92 r93 r94 r95 r96 r97 r98 r99 r100 r101 r102 r103 r104 r105 r106 r107 r108 r109 r110 r111 r112 r113 r114 r115 r116 r117 r118 r119 r120 r121 r122 r123 r124 r125 r126 r127 r128 r129 r130 r131 r132 r133 r134 r135 r136 r137 r138 r139 r140 r141 r142 r143 r144 r145 r146 r147 r148 r149 r150 r151 r152 r153 r154 r155 r156 r157 r158 r159 r160 r161 r162 r163 r164 r165 r166 r167 r168 r169 r170 r171 r172 r173 r174 r175 r176 r177 r178 r179 r180 r181 r182 r183 r184 r185 r186 r187 r188 r189 r190 r191 r192 r193 r194 r195 r196 r197 r198 r199 r200 r201 r202 r203 r204 r205 r206 r207 r208 r209 r210 r211 r212 r213 r214 r215 r216 r217 r218 r219 r220 r221 r222 r223 r224 r225 r226 r227 r228 r229 r230 r231 r232 r233 r234 r235 r236 r237 r238 r239 r240 r241 r242 r243 r244 r245 r246 r247 r248 r249 r250 r251 r252 r253 r254 r255 r256 r257 r258 r259 r260 r261 r262 r263 r264 r265 r266 r267 r268 r269 r270 r271 r272 r273 r274 r275 r276 r277 r278 r279 r280 r281 r282 r283 r284 r285 r286 r287 r288 r289 r290 r291 r292 r293 r294 r295 r296 r297 r298 r299 r300 r301 r302 r303 r304 r305 r306 r307 r308 r309 r310 r311 r312 r313 r314 r315 r316 r317 r318 r319 r320 r321 r322 r323 r324 r325 r326 r327 r328 r329 r330 r331 r332 r333 r334 r335 r336 r337 r338 r339 r340 r341 r342 r343 r344 r345 r346 r347 r348 r349 r350 r351 r352 r353
            clear r175 r176 r177 r178 r179 r180 r181 r182 r183 r184 r185 r186 r187 r188 r189 r190 r191 r192 r193 r194 r195 r196 r197 r198 r199 r200 r201 r202 r203 r204 r205 r206 r207 r208 r209 r210 r211 r212 r213 r214 r215 r216 r217 r218 r219 r220 r221 r222 r223 r224 r225 r226 r227 r228 r229 r230 r231 r232 r233 r234 r235 r236 r237 r238 r239 r240 r241 r242 r243 r244 r245 r246 r247 r248 r249 r250 r251 r252 r253 r254 r255 r256 r257 r258 r259 r260 r261 r262 r263 r264 r265 r266 r267 r268 r269 r270 r271 r272 r273 r274 r275 r276 r277 r278 r279 r280 r281 r282 r283 r284 r285 r286 r287 r288 r289 r290 r291 r292 r293 r294 r295 r296 r297 r298 r299 r300 r301 r302 r303 r304 r305 r306 r307 r308 r309 r310 r311 r312 r313 r314 r315 r316 r317 r318 r319 r320 r321 r322 r323 r324 r325 r326 r327 r328 r329 r330 r331 r332 r333 r334 r335 r336 r337 r338 r339 r340 r341 r342 r343 r344 r345 r346 r347 r348 r349 r350 r351 HBZ bz
            revert nn n c ps B m d ns w NX AL N1 N2 b0 b0n hn1 b1 b1n hm1 k hr hw1 hw2 mn hw3 HMN r0 w1 r1 r2 w2 sO sW sI sF u6 u15 u16 u17 u18 u19 u20 r3 r4 r5 r6 r7 r8 r9 r10 r11 r12 r13 r14 r15 r16 r17 r18 r19 r20 r21 r22 r23 r24 r25 r26 r27 r28 r29 r30 r31 r32 r33 r34 r35 r36 r37 r38 r39 r40 r41 r42 r43 r44 r45 r46 r47 r48 r49 r50 r51 r52 r53 r54 r55 r56 r57 r58 r59 r60 r61 r62 r63 r64 r65 r66 r67 r68 r69 r70 r71 r72 r73 r74 r75 r76 r77 r78 r79 r80 r81 r82 r83 r84 r85 r86 r87 r88 r89 r90 r91 r92 r93 r94 r95 r96 r97 r98 r99 r100 r101 r102 r103 r104 r105 r106 r107 r108 r109 r110 r111 r112 r113 r114 r115 r116 r117 r118 r119 r120 r121 r122 r123 r124 r125 r126 r127 r128 r129 r130 r131 r132 r133 r134 r135 r136 r137 r138 r139 r140 r141 r142 r143 r144 r145 r146 r147 r148 r149 r150 r151 r152 r153 r154 r155 r156 r157 r158 r159 r160 r161 r162 r163 r164 r165 r166 r167 r168 i rn rc C clk F I W a s row hi hrn c1 i0 i1 b0_ off0 y y0 y1 r169 r170 PX t htm hwy hwt hm0 hm0n hm0m HTT t6 t0 t1 HLT bq HBQ r171 r172 r173 r174 clk2 hcy HWT r352 r353 wc u36 u37 u38 u39 u40 u41 u42 u43 u44 u45 u46 u47 u48 u49 u50 u51 u52 u53 u54 u55 u56 u57 u58 u59 u60 u61 u62 u63 u64 u65 u66 u67 u68 u69 u70 u71 u72 u73 u74 u75 u76 u77 u78 u79 u80 u81 u82 u83 u84 u85 u86 u87 u88 u89 u90 u91 u92 u93 u94 u95 u96 u97 u98 u99 u100 u101 u102 u103 u104 u105 u106 u107 u108 u109 u110 u111 u112 u113 u114 u115 u116 u117 u118 u119 u120 u121 u122 u123 u124 u125 u126 u127 u128 u129 u130 u131 u132 u133 u134 u135 u136 u137 u138 u139 u140 u141 u142 u143 u144 u145 u146 u147 u148 u149 u150 u151 u152 u153 u154 u155 u156 u157 u158 u159 u160 u161 u162 u163 u164 u165 u166 u167 u168 u169 u170 u171 u172 u173 u174 u175 u176 u177 u178 u179 u180 u181 u182 u183 u184 u185 u186 u187 u188 u189 u190 u191 u192 u193 u194 u195 u196 u197 u198 u199 u200 u201 F2 HT HR HM op stage phase old since left awoke starve need front HFT aq0 aq1 aq2 aq3 aq4 aq5 aq6 aq7 aq8 aq9 d2 HN0 WA wn wk hwk hbi
            exact h1.out
          · rename_i r0 r1 r2 r3 r4 r5 r6 r7 r8 r9 r10 r11 r12 r13 r14 r15 r16 r17 r18 r19 r20 r21 r22 r23 r24 r25 r26 r27 r28 r29 r30 r31 r32 r33 r34 r35 r36 r37 r38 r39 r40 r41 r42 r43 r44 r45 r46 r47 r48 r49 r50 r51 r52 r53 r54 r55 r56 r57 r58 r59 r60 r61 r62 r63 r64 r65 r66 r67 r68 r69 r70 r71 r72 r73 r74 r75 r76 r77 r78 r79 r80 r81 r82 r83 r84 r85 r86 r87 r88 r89 r90 r91 r92 r93 r94 r95 r96 r97 r98 r99 r100 r101 r102 r103 r104 r105 r106 r107 r108 r109 r110 r111 r112 r113 r114 r115 r116 r117 r118 r119 r120 r121 r122 r123 r124 r125 r126 r127 r128 r129 r130 r131 r132 r133 r134 r135 r136 r137 r138 r139 r140 r141 r142 r143 r144 r145 r146 r147 r148 r149 r150 r151 r152 r153 r154 r155 r156 r157 r158 r159 r160 r161 r162 r163 r164 r165 r166 r167 r168 r169 r170 r171 r172 r173 r174 r175 r176 r177 r178 r179 r180 r181 r182 r183 r184 r185 r186 r187 r188 r189 r190 r191 r192 r193 r194 r195 r196 r197 r198 r199 r200 r201 r202 r203 r204 r205 r206 r207 r208 r209 r210 r211 r212 r213 r214 r215 r216 r217 r218 r219 r220 r221 r222 r223 r224 r225 r226 r227 r228 r229 r230 r231 r232 r233 r234 r235 r236 r237 r238 r239 r240 r241 r242 r243 r244 r245 r246 r247 r248 r249 r250 r251 r252 r253 r254 r255 r256 r257 r258 r259 r260 r261 r262 r263 r264 r265 r266 r267 r268 r269 r270 r271 r272 r273 r274 r275 r276 r277 r278 r279 r280 r281 r282 r283 r284 r285 r286 r287 r288 r289 r290 r291 r292 r293 r294 r295 r296 r297 r298 r299 r300 r301 r302 r303 r304 r305 r306 r307 r308 r309 r310 r311 r312 r313 r314 r315 r316 r317 r318 r319 r320 r321 r322 r323 r324 r325 r326 r327 r328 r329 r330 r331 r332 r333 r334 r335 r336 r337 r338 r339 r340 r341 r342 r343 r344 r345 r346 r347 r348 r349 r350 r351 r352 r353
            clear r175 r176 r177 r178 r179 r180 r181 r182 r183 r184 r185 r186 r187 r188 r189 r190 r191 r192 r193 r194 r195 r196 r197 r198 r199 r200 r201 r202 r203 r204 r205 r206 r207 r208 r209 r210 r211 r212 r213 r214 r215 r216 r217 r218 r219 r220 r221 r222 r223 r224 r225 r226 r227 r228 r229 r230 r231 r232 r233 r234 r235 r236 r237 r238 r239 r240 r241 r242 r243 r244 r245 r246 r247 r248 r249 r250 r251 r252 r253 r254 r255 r256 r257 r258 r259 r260 r261 r262 r263 r264 r265 r266 r267 r268 r269 r270 r271 r272 r273 r274 r275 r276 r277 r278 r279 r280 r281 r282 r283 r284 r285 r286 r287 r288 r289 r290 r291 r292 r293 r294 r295 r296 r297 r298 r299 r300 r301 r302 r303 r304 r305 r306 r307 r308 r309 r310 r311 r312 r313 r314 r315 r316 r317 r318 r319 r320 r321 r322 r323 r324 r325 r326 r327 r328 r329 r330 r331 r332 r333 r334 r335 r336 r337 r338 r339 r340 r341 r342 r343 r344 r345 r346 r347 r348 r349 r350 r351 HBZ bz
            revert nn n c ps B m d ns w NX AL N1 N2 b0 b0n hn1 b1 b1n hm1 k hr hw1 hw2 mn hw3 HMN r0 w1 r1 r2 w2 sO sW sI sF u6 u15 u16 u17 u18 u19 u20 r3 r4 r5 r6 r7 r8 r9 r10 r11 r12 r13 r14 r15 r16 r17 r18 r19 r20 r21 r22 r23 r24 r25 r26 r27 r28 r29 r30 r31 r32 r33 r34 r35 r36 r37 r38 r39 r40 r41 r42 r43 r44 r45 r46 r47 r48 r49 r50 r51 r52 r53 r54 r55 r56 r57 r58 r59 r60 r61 r62 r63 r64 r65 r66 r67 r68 r69 r70 r71 r72 r73 r74 r75 r76 r77 r78 r79 r80 r81 r82 r83 r84 r85 r86 r87 r88 r89 r90 r91 r92 r93 r94 r95 r96 r97 r98 r99 r100 r101 r102 r103 r104 r105 r106 r107 r108 r109 r110 r111 r112 r113 r114 r115 r116 r117 r118 r119 r120 r121 r122 r123 r124 r125 r126 r127 r128 r129 r130 r131 r132 r133 r134 r135 r136 r137 r138 r139 r140 r141 r142 r143 r144 r145 r146 r147 r148 r149 r150 r151 r152 r153 r154 r155 r156 r157 r158 r159 r160 r161 r162 r163 r164 r165 r166 r167 r168 i rn rc C clk F I W a s row hi hrn c1 i0 i1 b0_ off0 y y0 y1 r169 r170 PX t htm hwy hwt hm0 hm0n hm0m HTT t6 t0 t1 HLT bq HBQ r171 r172 r173 r174 clk2 hcy HWT r352 r353 wc u36 u37 u38 u39 u40 u41 u42 u43 u44 u45 u46 u47 u48 u49 u50 u51 u52 u53 u54 u55 u56 u57 u58 u59 u60 u61 u62 u63 u64 u65 u66 u67 u68 u69 u70 u71 u72 u73 u74 u75 u76 u77 u78 u79 u80 u81 u82 u83 u84 u85 u86 u87 u88 u89 u90 u91 u92 u93 u94 u95 u96 u97 u98 u99 u100 u101 u102 u103 u104 u105 u106 u107 u108 u109 u110 u111 u112 u113 u114 u115 u116 u117 u118 u119 u120 u121 u122 u123 u124 u125 u126 u127 u128 u129 u130 u131 u132 u133 u134 u135 u136 u137 u138 u139 u140 u141 u142 u143 u144 u145 u146 u147 u148 u149 u150 u151 u152 u153 u154 u155 u156 u157 u158 u159 u160 u161 u162 u163 u164 u165 u166 u167 u168 u169 u170 u171 u172 u173 u174 u175 u176 u177 u178 u179 u180 u181 u182 u183 u184 u185 u186 u187 u188 u189 u190 u191 u192 u193 u194 u195 u196 u197 u198 u199 u200 u201 F2 HT HR HM op stage phase old since left awoke starve need front HFT aq0 aq1 aq2 aq3 aq4 aq5 aq6 aq7 aq8 aq9 d2 HN0 WA wn wk hwk hbi
            exact h2.out
end Go.Proofs.Ytagaijghfikdoaa
