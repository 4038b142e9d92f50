/- The walk of NotifyTurns: it answers true, over any world; no condition. -/
import Derived.Test.YtjpgmkbcjedhfaaNotS
import Derived.Test.YtjpgmkbcjedhfaaNotM
namespace Go.Proofs.Ytjpgmkbcjedhfaa
set_option linter.unusedVariables false
set_option linter.unusedSimpArgs false
open Go.RowKit
set_option maxRecDepth 100000 in
set_option maxHeartbeats 16000000 in
theorem turns11_walk (fr : Int) (A : Option Addr) (n c : Nat) (bs : List Int) (w : World) (f0 : 0 ≤ fr) (f1 : fr < 4294967296) (hx : Bs w A n c bs) :
    Calls Try.prog 5 #[.int .u32 fr, .slice A n c] w fun e w' => e = .returned (.bool true) ∧ Below w.heap.size w w' := by
  have BX := Lib.hid hx
  clear hx
  have HB := Lib.hid (And.intro (Below.refl w.heap.size w) (Nat.le_refl w.heap.size))
  by_cases hn : (60 : Int) < (n : Int)
  · have b0 : decide ((60 : Int) < (n : Int)) = true := decide_eq_true hn
    have b0n : decide (60 < n) = true := by simp; omega
    clear hn
    go_enter Try.func5, Try.ntmps5
    go_wp2_with fail
    refine (alive11 _).mono ?_
    rintro e w1 ⟨rfl, hb⟩
    replace HB := Lib.hid (And.intro (HB.out.1.trans (hb.mono HB.out.2)) (Nat.le_trans HB.out.2 hb.size))
    clear hb
    go_wp2
    go_ret
    exact ⟨rfl, HB.out.1⟩
  · have b0 : decide ((60 : Int) < (n : Int)) = false := decide_eq_false hn
    have b0n : decide (60 < n) = false := by simp; omega
    have hn1 : n ≤ 60 := by omega
    clear hn
    have TF := Lib.hid (TN.first f0 f1)
    go_enter Try.func5, Try.ntmps5
    go_wp2_with fail
    refine (alive11 _).mono ?_
    rintro e w1 ⟨rfl, hb⟩
    replace HB := Lib.hid (And.intro (HB.out.1.trans (hb.mono HB.out.2)) (Nat.le_trans HB.out.2 hb.size))
    clear hb
    go_wp2
    have gq := HB.out.2
    obtain ⟨w2, hw2⟩ : ∃ W, (w1.alloc (.cells #[.int .u32 fr, .int .u32 fr, .slice none 0 0] 25)) = W := ⟨_, rfl⟩
    have hb : Below w1.heap.size w1 w2 := hw2 ▸ ((Below.refl _ _).alloc (Nat.le_refl _) _)
    have hv0 : w2.heap[w1.heap.size]? = some (.cells #[.int .u32 fr, .int .u32 fr, .slice none 0 0] 25) := by
      have h0 := heap_alloc_new w1 (.cells #[.int .u32 fr, .int .u32 fr, .slice none 0 0] 25)
      rw [show w1.heap.size = w1.heap.size by simp [Nat.add_assoc]] at h0
      rw [← hw2]
      exact h0
    replace HB := Lib.hid (And.intro (HB.out.1.trans (hb.mono HB.out.2)) (Nat.le_trans HB.out.2 hb.size))
    have Vn := Lib.hid hv0
    have gen := gq
    generalize hsn : w1.heap.size = sn at *
    clear hb gq hv0
    rw [hw2]
    clear hw2
    have gen2 := gen
    go_loopw [6, 7, 8, 9, 10, 11, 12, 13, 14, 15, 16, 17, 18, 19] (fun gv tv wv iv _ _ _ _ _ _ _ _ _ _ wr => ∃ (i g t m d k f : Nat) (B C : Option Addr) (wa to : Int) (ws : List Wt) (L : List Int), gv = .int .i64 (g : Int) ∧ tv = .int .i64 (t : Int) ∧ wv = .slice C k f ∧ iv = .int .i64 (i : Int) ∧ i ≤ n ∧ g ≤ i ∧ Hid (wr.heap[sn]? = some (.cells #[.int .u32 wa, .int .u32 to, .slice B m d] 25)) ∧ Hid (Rw w wr B m d ws) ∧ Hid (wr.ownsRow w.heap.size 3 1 (.slice C k f) k (intC L)) ∧ Hid (TN fr g t wa to ws L) ∧ Hid (Below w.heap.size w wr ∧ w.heap.size ≤ wr.heap.size)) (fun _ _ _ iv _ _ _ _ _ _ _ _ _ _ _ => n - (intOf iv).toNat)
    case atStart => exact ⟨0, 0, 0, 0, 0, 0, 0, none, none, fr, fr, [], [], rfl, rfl, rfl, rfl, by omega, by omega, Vn.out, Ro.nil _ _ _ _ _ _, World.ownsRow_nil _ _ _ _, TF.out, HB.out⟩
    case round =>
      clear Vn HB TF gen
      obtain ⟨i, g, t, m, d, k, f, B, C, wa, to, ws, L, rfl, rfl, rfl, rfl, hi, hgi, Vn, Rn, Oo, TT, HB⟩ := hrel
      have gen := gen2
      have HM := Lib.hid (show m ≤ 12 ∧ k = L.length ∧ k ≤ 12 from by
        have h1 := Wts.len Rn.out.es; have h2 := TT.out.ws; have h3 := TT.out.len; have h4 := Oo.out.1
        rw [h2, tws_len] at h1; rw [intC_len] at h4; omega)
      by_cases hlt : i < n
      · have c1 : decide ((i : Int) < (n : Int)) = true := by simpa using hlt
        have i0 : (0 : Int) ≤ (i : Int) := by omega
        have i1 : (i : Int) < (n : Int) := by omega
        obtain ⟨b0_, off0, y, e0, hby, hcy, y0, y1, _, _⟩ := (Bs.below BX.out HB.out.1).look i (by omega)
        subst e0
        obtain ⟨r, hr⟩ : ∃ r : Int, y % 3 = r := ⟨_, rfl⟩
        have r0 : 0 ≤ r := by omega
        have r3 : r < 3 := by omega
        have ht : y.tmod 3 = r := by rw [Int.tmod_eq_emod_of_nonneg y0]; exact hr
        have hwr : IntKind.u8.wrap r = r := by rw [IntKind.wrap_u8]; omega
        obtain ⟨K, hK⟩ : ∃ K : Nat, y / 3 = (K : Int) := ⟨(y / 3).toNat, by omega⟩
        have hK85 : K ≤ 85 := by omega
        have hq : y.tdiv 3 = (K : Int) := by rw [Int.tdiv_eq_ediv_of_nonneg y0]; exact hK
        have hwu : IntKind.u8.wrap (K : Int) = (K : Int) := by rw [IntKind.wrap_u8]; omega
        have hwi : IntKind.i64.wrap (K : Int) = (K : Int) := by rw [IntKind.wrap_i64]; omega
        have hwk : IntKind.u32.wrap (K : Int) = (K : Int) := by rw [IntKind.wrap_u32]; omega
        have htg := TT.out.le; have hg60 := TT.out.small
        by_cases h0 : r = 0
        · have d0 : (r == 0) = true := by simp [h0]
          obtain ⟨he, hT⟩ := TT.out.add (by omega)
          obtain ⟨wa2, hwa2⟩ : ∃ x, tick fr ((g + 1 : Nat) : Int) = x := ⟨_, rfl⟩
          obtain ⟨xi, hxi⟩ : ∃ x, tick fr (g : Int) = x := ⟨_, rfl⟩
          rw [hwa2] at he hT
          rw [hxi] at he
          have T2 := Lib.hid hT
          have hwg : IntKind.u32.wrap (g : Int) = (g : Int) := by rw [IntKind.wrap_u32]; omega
          have hws : IntKind.u32.wrap (fr + (g : Int)) = xi := by rw [← hxi, IntKind.wrap_u32]; rfl
          have hxe : (xi != xi) = false := by simp
          have hg1 : IntKind.i64.wrap ((g : Int) + 1) = ((g + 1 : Nat) : Int) := by rw [IntKind.wrap_i64]; omega
          have cA := Lib.hid (show ∀ W, Rw w W B m d ws → Calls Try.prog 9 #[.agg #[.int .u32 wa, .int .u32 to, .slice B m d]] W (AAs w W wa2 to ws xi 0) from fun W h => addAs h (by have := HM.out; omega) TT.out.nb he)
          clear he hT hwa2 hxi h0 hr hK hq
          have cn0 : wr.cell? ⟨sn, 0, none⟩ = some (.int .u32 wa) := (blk_cell Vn.out 0).trans rfl
          have cn1 : wr.cell? ⟨sn, 1, none⟩ = some (.int .u32 to) := (blk_cell Vn.out 1).trans rfl
          have cn2 : wr.cell? ⟨sn, 2, none⟩ = some (.slice B m d) := (blk_cell Vn.out 2).trans rfl
          go_wp2_with fail
          refine (cA.out _ Rn.out).mono ?_
          rintro e w3 ⟨B2, m2, d2, rfl, hrs, hb⟩
          clear cn0 cn1 cn2
          replace Vn := Lib.hid (blk_below Vn.out hb (blk_lt Vn.out))
          replace Rn := Lib.hid (Ro.below Rn.out hb)
          replace Oo := Lib.hid (own_below Oo.out hb)
          replace HB := Lib.hid (And.intro (HB.out.1.trans (hb.mono HB.out.2)) (Nat.le_trans HB.out.2 hb.size))
          have Rx := Lib.hid hrs
          clear hrs
          clear hb
          have ltn := blk_lt Vn.out
          have gq := HB.out.2
          obtain ⟨w4, hw4⟩ : ∃ W, (w3.alloc (.cells #[.int .u32 wa2, .int .u32 to, .slice B2 m2 d2] 25)) = W := ⟨_, rfl⟩
          have hb : Below w3.heap.size w3 w4 := hw4 ▸ ((Below.refl _ _).alloc (Nat.le_refl _) _)
          have hv0 : w4.heap[w3.heap.size]? = some (.cells #[.int .u32 wa2, .int .u32 to, .slice B2 m2 d2] 25) := by
            have h0 := heap_alloc_new w3 (.cells #[.int .u32 wa2, .int .u32 to, .slice B2 m2 d2] 25)
            rw [show w3.heap.size = w3.heap.size by simp [Nat.add_assoc]] at h0
            rw [← hw4]
            exact h0
          replace Vn := Lib.hid (blk_below Vn.out hb (blk_lt Vn.out))
          replace Rn := Lib.hid (Ro.below Rn.out hb)
          replace Rx := Lib.hid (Ro.below Rx.out hb)
          replace Oo := Lib.hid (own_below Oo.out hb)
          replace HB := Lib.hid (And.intro (HB.out.1.trans (hb.mono HB.out.2)) (Nat.le_trans HB.out.2 hb.size))
          have Vx := Lib.hid hv0
          have nen_x := Nat.ne_of_lt ltn
          have gex := gq
          generalize hsx : w3.heap.size = sx at *
          clear hb gq hv0 ltn
          have cx0 : w4.cell? ⟨sx, 0, none⟩ = some (.int .u32 wa2) := (blk_cell Vx.out 0).trans rfl
          have cx1 : w4.cell? ⟨sx, 1, none⟩ = some (.int .u32 to) := (blk_cell Vx.out 1).trans rfl
          have cx2 : w4.cell? ⟨sx, 2, none⟩ = some (.slice B2 m2 d2) := (blk_cell Vx.out 2).trans rfl
          have pcn0 : w4.cell? ⟨sn, 0, none⟩ = some (.int .u32 wa) := (blk_cell Vn.out 0).trans rfl
          have pfn0 : w4.frozen? ⟨sn, 0, none⟩ = false := blk_frozen Vn.out 0
          have pcn1 : w4.cell? ⟨sn, 1, none⟩ = some (.int .u32 to) := (blk_cell Vn.out 1).trans rfl
          have pfn1 : w4.frozen? ⟨sn, 1, none⟩ = false := blk_frozen Vn.out 1
          have pcn2 : w4.cell? ⟨sn, 2, none⟩ = some (.slice B m d) := (blk_cell Vn.out 2).trans rfl
          have pfn2 : w4.frozen? ⟨sn, 2, none⟩ = false := blk_frozen Vn.out 2
          obtain ⟨w5, hw5⟩ : ∃ W, (((w4.setCell ⟨sn, 0, none⟩ (.int .u32 wa2)).setCell ⟨sn, 1, none⟩ (.int .u32 to)).setCell ⟨sn, 2, none⟩ (.slice B2 m2 d2)) = W := ⟨_, rfl⟩
          replace Rn := Lib.hid (hw5 ▸ (((Rn.out.set (o := 0) (u := .int .u32 wa2) Vn.out (by decide) gen).set (o := 1) (u := .int .u32 to) (blk_set (j := 0) Vn.out (.int .u32 wa2)) (by decide) gen).set (o := 2) (u := .slice B2 m2 d2) (blk_set (j := 1) (blk_set (j := 0) Vn.out (.int .u32 wa2)) (.int .u32 to)) (by decide) gen))
          replace Rx := Lib.hid (hw5 ▸ (((Rx.out.set (o := 0) (u := .int .u32 wa2) Vn.out (by decide) gen).set (o := 1) (u := .int .u32 to) (blk_set (j := 0) Vn.out (.int .u32 wa2)) (by decide) gen).set (o := 2) (u := .slice B2 m2 d2) (blk_set (j := 1) (blk_set (j := 0) Vn.out (.int .u32 wa2)) (.int .u32 to)) (by decide) gen))
          replace Oo := Lib.hid (hw5 ▸ (own_set (o := 2) (u := .slice B2 m2 d2) (own_set (o := 1) (u := .int .u32 to) (own_set (o := 0) (u := .int .u32 wa2) Oo.out Vn.out (by decide)) (blk_set (j := 0) Vn.out (.int .u32 wa2)) (by decide)) (blk_set (j := 1) (blk_set (j := 0) Vn.out (.int .u32 wa2)) (.int .u32 to)) (by decide)))
          have Vx2 := ((Below.heap_setCell _ ⟨sn, 2, none⟩ (.slice B2 m2 d2) sx nen_x.symm).trans ((Below.heap_setCell _ ⟨sn, 1, none⟩ (.int .u32 to) sx nen_x.symm).trans ((Below.heap_setCell _ ⟨sn, 0, none⟩ (.int .u32 wa2) sx nen_x.symm).trans Vx.out)))
          have Vn2 := (blk_set (j := 2) (blk_set (j := 1) (blk_set (j := 0) Vn.out (.int .u32 wa2)) (.int .u32 to)) (.slice B2 m2 d2))
          replace Vn := Lib.hid (show w5.heap[sn]? = some (.cells #[.int .u32 wa2, .int .u32 to, .slice B2 m2 d2] 25) from hw5 ▸ Vn2)
          clear Vn2
          replace Vx := Lib.hid (show w5.heap[sx]? = some (.cells #[.int .u32 wa2, .int .u32 to, .slice B2 m2 d2] 25) from hw5 ▸ Vx2)
          clear Vx2
          have hbb : Below _ _ w5 := hw5 ▸ (Below.setCell (Below.setCell (Below.setCell HB.out.1 (p := ⟨sn, 0, none⟩) (show _ ≤ sn from gen) (.int .u32 wa2)) (p := ⟨sn, 1, none⟩) (show _ ≤ sn from gen) (.int .u32 to)) (p := ⟨sn, 2, none⟩) (show _ ≤ sn from gen) (.slice B2 m2 d2))
          have hbs : w5.heap.size = w4.heap.size := by rw [← hw5]; simp [World.setCell]
          replace HB := Lib.hid (And.intro hbb (show _ ≤ w5.heap.size by rw [hbs]; exact HB.out.2))
          clear hbb hbs
          go_wp2
          go_roundw
          case rel => exact ⟨i + 1, g + 1, t, m2, d2, k, f, B2, C, wa2, to, ws, L, by go_num, rfl, rfl, by go_num, by omega, by omega, Vn, Rx, Oo, T2, HB⟩
          case measure => simp [intOf]; omega
        · have d0 : (r == 0) = false := by simp [h0]
          by_cases h1 : r = 1
          · have d1 : (r == 1) = true := by simp [h1]
            obtain ⟨tk, htk⟩ : ∃ x, tick fr (K : Int) = x := ⟨_, rfl⟩
            have hwt : IntKind.u32.wrap (fr + (K : Int)) = tk := by rw [← htk, IntKind.wrap_u32]; rfl
            have hP := TT.out.park (k := (K : Int)) (by omega) (by omega)
            have hB := tick_ge fr (K : Int)
            have hPk := TT.out.parked (k := (K : Int))
            rw [htk] at hP hB hPk
            clear h0 h1 hr hK
            by_cases h2 : (t : Int) ≤ (K : Int)
            · have e2 : decide ((t : Int) ≤ (K : Int)) = true := decide_eq_true (by omega)
              have e2n : decide (t ≤ K) = true := decide_eq_true (by omega)
              by_cases h3 : (K : Int) < (g : Int)
              · have e3 : decide ((K : Int) < (g : Int)) = true := decide_eq_true (by omega)
                have e3n : decide (K < g) = true := decide_eq_true (by omega)
                rw [if_neg (fun h => h ⟨h2, h3⟩)] at hP
                by_cases h4 : (K : Int) ∈ L
                · rw [if_pos h4] at hP
                  have cP := Lib.hid (show ∀ W, Rw w W B m d ws → Calls Try.prog 11 #[.agg #[.int .u32 wa, .int .u32 to, .slice B m d], .int .u32 tk, .int .i64 (K : Int)] W (NAs w W wa to ws 8) from fun W h => parkAs11 tk (K : Int) h (by have := HM.out; omega) TT.out.nb hB.1 hB.2 hP)
                  have cH := Lib.hid (show ∀ W, Is W C k f L → Calls Try.prog 23 #[.slice C k f, .int .i64 (K : Int)] W (fun e w' => e = .returned (.bool true) ∧ Below W.heap.size W w') from fun W h => (has11_any C k f L (K : Int) W h (by have := HM.out; omega)).mono (fun e w' ⟨h1, h2⟩ => ⟨by rw [decide_eq_true h4] at h1; exact h1, by rw [h2]; exact Below.refl _ _⟩))
                  clear h2 h3 h4
                  clear hP hB htk hPk htg hg60
                  have cn0 : wr.cell? ⟨sn, 0, none⟩ = some (.int .u32 wa) := (blk_cell Vn.out 0).trans rfl
                  have cn1 : wr.cell? ⟨sn, 1, none⟩ = some (.int .u32 to) := (blk_cell Vn.out 1).trans rfl
                  have cn2 : wr.cell? ⟨sn, 2, none⟩ = some (.slice B m d) := (blk_cell Vn.out 2).trans rfl
                  go_wp2_with fail
                  refine (cP.out _ Rn.out).mono ?_
                  rintro e w3 ⟨B2, m2, d2, rfl, hrs, hb⟩
                  clear cn0 cn1 cn2
                  replace Vn := Lib.hid (blk_below Vn.out hb (blk_lt Vn.out))
                  replace Rn := Lib.hid (Ro.below Rn.out hb)
                  replace Oo := Lib.hid (own_below Oo.out hb)
                  replace HB := Lib.hid (And.intro (HB.out.1.trans (hb.mono HB.out.2)) (Nat.le_trans HB.out.2 hb.size))
                  have Rx := Lib.hid hrs
                  clear hrs
                  clear hb
                  have ltn := blk_lt Vn.out
                  have gq := HB.out.2
                  obtain ⟨w4, hw4⟩ : ∃ W, (w3.alloc (.cells #[.int .u32 wa, .int .u32 to, .slice B2 m2 d2] 25)) = W := ⟨_, rfl⟩
                  have hb : Below w3.heap.size w3 w4 := hw4 ▸ ((Below.refl _ _).alloc (Nat.le_refl _) _)
                  have hv0 : w4.heap[w3.heap.size]? = some (.cells #[.int .u32 wa, .int .u32 to, .slice B2 m2 d2] 25) := by
                    have h0 := heap_alloc_new w3 (.cells #[.int .u32 wa, .int .u32 to, .slice B2 m2 d2] 25)
                    rw [show w3.heap.size = w3.heap.size by simp [Nat.add_assoc]] at h0
                    rw [← hw4]
                    exact h0
                  replace Vn := Lib.hid (blk_below Vn.out hb (blk_lt Vn.out))
                  replace Rn := Lib.hid (Ro.below Rn.out hb)
                  replace Rx := Lib.hid (Ro.below Rx.out hb)
                  replace Oo := Lib.hid (own_below Oo.out hb)
                  replace HB := Lib.hid (And.intro (HB.out.1.trans (hb.mono HB.out.2)) (Nat.le_trans HB.out.2 hb.size))
                  have Vx := Lib.hid hv0
                  have nen_x := Nat.ne_of_lt ltn
                  have gex := gq
                  generalize hsx : w3.heap.size = sx at *
                  clear hb gq hv0 ltn
                  go_wp2_with fail
                  refine (cH.out _ (is_own11 Oo.out)).mono ?_
                  rintro e w5 ⟨rfl, hb⟩
                  replace Vn := Lib.hid (blk_below Vn.out hb (blk_lt Vn.out))
                  replace Vx := Lib.hid (blk_below Vx.out hb (blk_lt Vx.out))
                  replace Rn := Lib.hid (Ro.below Rn.out hb)
                  replace Rx := Lib.hid (Ro.below Rx.out hb)
                  replace Oo := Lib.hid (own_below Oo.out hb)
                  replace HB := Lib.hid (And.intro (HB.out.1.trans (hb.mono HB.out.2)) (Nat.le_trans HB.out.2 hb.size))
                  clear hb
                  have cx0 : w5.cell? ⟨sx, 0, none⟩ = some (.int .u32 wa) := (blk_cell Vx.out 0).trans rfl
                  have cx1 : w5.cell? ⟨sx, 1, none⟩ = some (.int .u32 to) := (blk_cell Vx.out 1).trans rfl
                  have cx2 : w5.cell? ⟨sx, 2, none⟩ = some (.slice B2 m2 d2) := (blk_cell Vx.out 2).trans rfl
                  have pcn0 : w5.cell? ⟨sn, 0, none⟩ = some (.int .u32 wa) := (blk_cell Vn.out 0).trans rfl
                  have pfn0 : w5.frozen? ⟨sn, 0, none⟩ = false := blk_frozen Vn.out 0
                  have pcn1 : w5.cell? ⟨sn, 1, none⟩ = some (.int .u32 to) := (blk_cell Vn.out 1).trans rfl
                  have pfn1 : w5.frozen? ⟨sn, 1, none⟩ = false := blk_frozen Vn.out 1
                  have pcn2 : w5.cell? ⟨sn, 2, none⟩ = some (.slice B m d) := (blk_cell Vn.out 2).trans rfl
                  have pfn2 : w5.frozen? ⟨sn, 2, none⟩ = false := blk_frozen Vn.out 2
                  obtain ⟨w6, hw6⟩ : ∃ W, (((w5.setCell ⟨sn, 0, none⟩ (.int .u32 wa)).setCell ⟨sn, 1, none⟩ (.int .u32 to)).setCell ⟨sn, 2, none⟩ (.slice B2 m2 d2)) = W := ⟨_, rfl⟩
                  replace Rn := Lib.hid (hw6 ▸ (((Rn.out.set (o := 0) (u := .int .u32 wa) Vn.out (by decide) gen).set (o := 1) (u := .int .u32 to) (blk_set (j := 0) Vn.out (.int .u32 wa)) (by decide) gen).set (o := 2) (u := .slice B2 m2 d2) (blk_set (j := 1) (blk_set (j := 0) Vn.out (.int .u32 wa)) (.int .u32 to)) (by decide) gen))
                  replace Rx := Lib.hid (hw6 ▸ (((Rx.out.set (o := 0) (u := .int .u32 wa) Vn.out (by decide) gen).set (o := 1) (u := .int .u32 to) (blk_set (j := 0) Vn.out (.int .u32 wa)) (by decide) gen).set (o := 2) (u := .slice B2 m2 d2) (blk_set (j := 1) (blk_set (j := 0) Vn.out (.int .u32 wa)) (.int .u32 to)) (by decide) gen))
                  replace Oo := Lib.hid (hw6 ▸ (own_set (o := 2) (u := .slice B2 m2 d2) (own_set (o := 1) (u := .int .u32 to) (own_set (o := 0) (u := .int .u32 wa) Oo.out Vn.out (by decide)) (blk_set (j := 0) Vn.out (.int .u32 wa)) (by decide)) (blk_set (j := 1) (blk_set (j := 0) Vn.out (.int .u32 wa)) (.int .u32 to)) (by decide)))
                  have Vx2 := ((Below.heap_setCell _ ⟨sn, 2, none⟩ (.slice B2 m2 d2) sx nen_x.symm).trans ((Below.heap_setCell _ ⟨sn, 1, none⟩ (.int .u32 to) sx nen_x.symm).trans ((Below.heap_setCell _ ⟨sn, 0, none⟩ (.int .u32 wa) sx nen_x.symm).trans Vx.out)))
                  have Vn2 := (blk_set (j := 2) (blk_set (j := 1) (blk_set (j := 0) Vn.out (.int .u32 wa)) (.int .u32 to)) (.slice B2 m2 d2))
                  replace Vn := Lib.hid (show w6.heap[sn]? = some (.cells #[.int .u32 wa, .int .u32 to, .slice B2 m2 d2] 25) from hw6 ▸ Vn2)
                  clear Vn2
                  replace Vx := Lib.hid (show w6.heap[sx]? = some (.cells #[.int .u32 wa, .int .u32 to, .slice B2 m2 d2] 25) from hw6 ▸ Vx2)
                  clear Vx2
                  have hbb : Below _ _ w6 := hw6 ▸ (Below.setCell (Below.setCell (Below.setCell HB.out.1 (p := ⟨sn, 0, none⟩) (show _ ≤ sn from gen) (.int .u32 wa)) (p := ⟨sn, 1, none⟩) (show _ ≤ sn from gen) (.int .u32 to)) (p := ⟨sn, 2, none⟩) (show _ ≤ sn from gen) (.slice B2 m2 d2))
                  have hbs : w6.heap.size = w5.heap.size := by rw [← hw6]; simp [World.setCell]
                  replace HB := Lib.hid (And.intro hbb (show _ ≤ w6.heap.size by rw [hbs]; exact HB.out.2))
                  clear hbb hbs
                  go_wp2
                  go_roundw
                  case rel => exact ⟨i + 1, g, t, m2, d2, k, f, B2, C, wa, to, ws, L, rfl, rfl, rfl, by go_num, by omega, by omega, Vn, Rx, Oo, TT, HB⟩
                  case measure => simp [intOf]; omega
                · rw [if_neg h4] at hP
                  by_cases h5 : 12 ≤ L.length
                  · rw [if_pos h5] at hP
                    have e4 : decide ((k : Int) < 12) = false := by have := HM.out; simp; omega
                    have e4n : decide (k < 12) = false := by have := HM.out; simp; omega
                    have cP := Lib.hid (show ∀ W, Rw w W B m d ws → Calls Try.prog 11 #[.agg #[.int .u32 wa, .int .u32 to, .slice B m d], .int .u32 tk, .int .i64 (K : Int)] W (NAs w W wa to ws 6) from fun W h => parkAs11 tk (K : Int) h (by have := HM.out; omega) TT.out.nb hB.1 hB.2 hP)
                    have cH := Lib.hid (show ∀ W, Is W C k f L → Calls Try.prog 23 #[.slice C k f, .int .i64 (K : Int)] W (fun e w' => e = .returned (.bool false) ∧ Below W.heap.size W w') from fun W h => (has11_any C k f L (K : Int) W h (by have := HM.out; omega)).mono (fun e w' ⟨h1, h2⟩ => ⟨by rw [decide_eq_false h4] at h1; exact h1, by rw [h2]; exact Below.refl _ _⟩))
                    clear h2 h3 h4 h5
                    clear hP hB htk hPk htg hg60
                    have cn0 : wr.cell? ⟨sn, 0, none⟩ = some (.int .u32 wa) := (blk_cell Vn.out 0).trans rfl
                    have cn1 : wr.cell? ⟨sn, 1, none⟩ = some (.int .u32 to) := (blk_cell Vn.out 1).trans rfl
                    have cn2 : wr.cell? ⟨sn, 2, none⟩ = some (.slice B m d) := (blk_cell Vn.out 2).trans rfl
                    go_wp2_with fail
                    refine (cP.out _ Rn.out).mono ?_
                    rintro e w3 ⟨B2, m2, d2, rfl, hrs, hb⟩
                    clear cn0 cn1 cn2
                    replace Vn := Lib.hid (blk_below Vn.out hb (blk_lt Vn.out))
                    replace Rn := Lib.hid (Ro.below Rn.out hb)
                    replace Oo := Lib.hid (own_below Oo.out hb)
                    replace HB := Lib.hid (And.intro (HB.out.1.trans (hb.mono HB.out.2)) (Nat.le_trans HB.out.2 hb.size))
                    have Rx := Lib.hid hrs
                    clear hrs
                    clear hb
                    have ltn := blk_lt Vn.out
                    have gq := HB.out.2
                    obtain ⟨w4, hw4⟩ : ∃ W, (w3.alloc (.cells #[.int .u32 wa, .int .u32 to, .slice B2 m2 d2] 25)) = W := ⟨_, rfl⟩
                    have hb : Below w3.heap.size w3 w4 := hw4 ▸ ((Below.refl _ _).alloc (Nat.le_refl _) _)
                    have hv0 : w4.heap[w3.heap.size]? = some (.cells #[.int .u32 wa, .int .u32 to, .slice B2 m2 d2] 25) := by
                      have h0 := heap_alloc_new w3 (.cells #[.int .u32 wa, .int .u32 to, .slice B2 m2 d2] 25)
                      rw [show w3.heap.size = w3.heap.size by simp [Nat.add_assoc]] at h0
                      rw [← hw4]
                      exact h0
                    replace Vn := Lib.hid (blk_below Vn.out hb (blk_lt Vn.out))
                    replace Rn := Lib.hid (Ro.below Rn.out hb)
                    replace Rx := Lib.hid (Ro.below Rx.out hb)
                    replace Oo := Lib.hid (own_below Oo.out hb)
                    replace HB := Lib.hid (And.intro (HB.out.1.trans (hb.mono HB.out.2)) (Nat.le_trans HB.out.2 hb.size))
                    have Vx := Lib.hid hv0
                    have nen_x := Nat.ne_of_lt ltn
                    have gex := gq
                    generalize hsx : w3.heap.size = sx at *
                    clear hb gq hv0 ltn
                    go_wp2_with fail
                    refine (cH.out _ (is_own11 Oo.out)).mono ?_
                    rintro e w5 ⟨rfl, hb⟩
                    replace Vn := Lib.hid (blk_below Vn.out hb (blk_lt Vn.out))
                    replace Vx := Lib.hid (blk_below Vx.out hb (blk_lt Vx.out))
                    replace Rn := Lib.hid (Ro.below Rn.out hb)
                    replace Rx := Lib.hid (Ro.below Rx.out hb)
                    replace Oo := Lib.hid (own_below Oo.out hb)
                    replace HB := Lib.hid (And.intro (HB.out.1.trans (hb.mono HB.out.2)) (Nat.le_trans HB.out.2 hb.size))
                    clear hb
                    have cx0 : w5.cell? ⟨sx, 0, none⟩ = some (.int .u32 wa) := (blk_cell Vx.out 0).trans rfl
                    have cx1 : w5.cell? ⟨sx, 1, none⟩ = some (.int .u32 to) := (blk_cell Vx.out 1).trans rfl
                    have cx2 : w5.cell? ⟨sx, 2, none⟩ = some (.slice B2 m2 d2) := (blk_cell Vx.out 2).trans rfl
                    have pcn0 : w5.cell? ⟨sn, 0, none⟩ = some (.int .u32 wa) := (blk_cell Vn.out 0).trans rfl
                    have pfn0 : w5.frozen? ⟨sn, 0, none⟩ = false := blk_frozen Vn.out 0
                    have pcn1 : w5.cell? ⟨sn, 1, none⟩ = some (.int .u32 to) := (blk_cell Vn.out 1).trans rfl
                    have pfn1 : w5.frozen? ⟨sn, 1, none⟩ = false := blk_frozen Vn.out 1
                    have pcn2 : w5.cell? ⟨sn, 2, none⟩ = some (.slice B m d) := (blk_cell Vn.out 2).trans rfl
                    have pfn2 : w5.frozen? ⟨sn, 2, none⟩ = false := blk_frozen Vn.out 2
                    obtain ⟨w6, hw6⟩ : ∃ W, (((w5.setCell ⟨sn, 0, none⟩ (.int .u32 wa)).setCell ⟨sn, 1, none⟩ (.int .u32 to)).setCell ⟨sn, 2, none⟩ (.slice B2 m2 d2)) = W := ⟨_, rfl⟩
                    replace Rn := Lib.hid (hw6 ▸ (((Rn.out.set (o := 0) (u := .int .u32 wa) Vn.out (by decide) gen).set (o := 1) (u := .int .u32 to) (blk_set (j := 0) Vn.out (.int .u32 wa)) (by decide) gen).set (o := 2) (u := .slice B2 m2 d2) (blk_set (j := 1) (blk_set (j := 0) Vn.out (.int .u32 wa)) (.int .u32 to)) (by decide) gen))
                    replace Rx := Lib.hid (hw6 ▸ (((Rx.out.set (o := 0) (u := .int .u32 wa) Vn.out (by decide) gen).set (o := 1) (u := .int .u32 to) (blk_set (j := 0) Vn.out (.int .u32 wa)) (by decide) gen).set (o := 2) (u := .slice B2 m2 d2) (blk_set (j := 1) (blk_set (j := 0) Vn.out (.int .u32 wa)) (.int .u32 to)) (by decide) gen))
                    replace Oo := Lib.hid (hw6 ▸ (own_set (o := 2) (u := .slice B2 m2 d2) (own_set (o := 1) (u := .int .u32 to) (own_set (o := 0) (u := .int .u32 wa) Oo.out Vn.out (by decide)) (blk_set (j := 0) Vn.out (.int .u32 wa)) (by decide)) (blk_set (j := 1) (blk_set (j := 0) Vn.out (.int .u32 wa)) (.int .u32 to)) (by decide)))
                    have Vx2 := ((Below.heap_setCell _ ⟨sn, 2, none⟩ (.slice B2 m2 d2) sx nen_x.symm).trans ((Below.heap_setCell _ ⟨sn, 1, none⟩ (.int .u32 to) sx nen_x.symm).trans ((Below.heap_setCell _ ⟨sn, 0, none⟩ (.int .u32 wa) sx nen_x.symm).trans Vx.out)))
                    have Vn2 := (blk_set (j := 2) (blk_set (j := 1) (blk_set (j := 0) Vn.out (.int .u32 wa)) (.int .u32 to)) (.slice B2 m2 d2))
                    replace Vn := Lib.hid (show w6.heap[sn]? = some (.cells #[.int .u32 wa, .int .u32 to, .slice B2 m2 d2] 25) from hw6 ▸ Vn2)
                    clear Vn2
                    replace Vx := Lib.hid (show w6.heap[sx]? = some (.cells #[.int .u32 wa, .int .u32 to, .slice B2 m2 d2] 25) from hw6 ▸ Vx2)
                    clear Vx2
                    have hbb : Below _ _ w6 := hw6 ▸ (Below.setCell (Below.setCell (Below.setCell HB.out.1 (p := ⟨sn, 0, none⟩) (show _ ≤ sn from gen) (.int .u32 wa)) (p := ⟨sn, 1, none⟩) (show _ ≤ sn from gen) (.int .u32 to)) (p := ⟨sn, 2, none⟩) (show _ ≤ sn from gen) (.slice B2 m2 d2))
                    have hbs : w6.heap.size = w5.heap.size := by rw [← hw6]; simp [World.setCell]
                    replace HB := Lib.hid (And.intro hbb (show _ ≤ w6.heap.size by rw [hbs]; exact HB.out.2))
                    clear hbb hbs
                    go_wp2
                    go_roundw
                    case rel => exact ⟨i + 1, g, t, m2, d2, k, f, B2, C, wa, to, ws, L, rfl, rfl, rfl, by go_num, by omega, by omega, Vn, Rx, Oo, TT, HB⟩
                    case measure => simp [intOf]; omega
                  · rw [if_neg h5] at hP
                    have e4 : decide ((k : Int) < 12) = true := by have := HM.out; simp; omega
                    have e4n : decide (k < 12) = true := by have := HM.out; simp; omega
                    have T2 := Lib.hid (hPk ⟨h2, h3⟩ h4 (by omega))
                    have cP := Lib.hid (show ∀ W, Rw w W B m d ws → Calls Try.prog 11 #[.agg #[.int .u32 wa, .int .u32 to, .slice B m d], .int .u32 tk, .int .i64 (K : Int)] W (NAs w W wa to (ws ++ [(tk, (K : Int))]) 0) from fun W h => parkAs11 tk (K : Int) h (by have := HM.out; omega) TT.out.nb hB.1 hB.2 hP)
                    have cH := Lib.hid (show ∀ W, Is W C k f L → Calls Try.prog 23 #[.slice C k f, .int .i64 (K : Int)] W (fun e w' => e = .returned (.bool false) ∧ Below W.heap.size W w') from fun W h => (has11_any C k f L (K : Int) W h (by have := HM.out; omega)).mono (fun e w' ⟨h1, h2⟩ => ⟨by rw [decide_eq_false h4] at h1; exact h1, by rw [h2]; exact Below.refl _ _⟩))
                    clear h2 h3 h4 h5
                    clear hP hB htk hPk htg hg60
                    have cn0 : wr.cell? ⟨sn, 0, none⟩ = some (.int .u32 wa) := (blk_cell Vn.out 0).trans rfl
                    have cn1 : wr.cell? ⟨sn, 1, none⟩ = some (.int .u32 to) := (blk_cell Vn.out 1).trans rfl
                    have cn2 : wr.cell? ⟨sn, 2, none⟩ = some (.slice B m d) := (blk_cell Vn.out 2).trans rfl
                    go_wp2_with fail
                    refine (cP.out _ Rn.out).mono ?_
                    rintro e w3 ⟨B2, m2, d2, rfl, hrs, hb⟩
                    clear cn0 cn1 cn2
                    replace Vn := Lib.hid (blk_below Vn.out hb (blk_lt Vn.out))
                    replace Rn := Lib.hid (Ro.below Rn.out hb)
                    replace Oo := Lib.hid (own_below Oo.out hb)
                    replace HB := Lib.hid (And.intro (HB.out.1.trans (hb.mono HB.out.2)) (Nat.le_trans HB.out.2 hb.size))
                    have Rx := Lib.hid hrs
                    clear hrs
                    clear hb
                    have ltn := blk_lt Vn.out
                    have gq := HB.out.2
                    obtain ⟨w4, hw4⟩ : ∃ W, (w3.alloc (.cells #[.int .u32 wa, .int .u32 to, .slice B2 m2 d2] 25)) = W := ⟨_, rfl⟩
                    have hb : Below w3.heap.size w3 w4 := hw4 ▸ ((Below.refl _ _).alloc (Nat.le_refl _) _)
                    have hv0 : w4.heap[w3.heap.size]? = some (.cells #[.int .u32 wa, .int .u32 to, .slice B2 m2 d2] 25) := by
                      have h0 := heap_alloc_new w3 (.cells #[.int .u32 wa, .int .u32 to, .slice B2 m2 d2] 25)
                      rw [show w3.heap.size = w3.heap.size by simp [Nat.add_assoc]] at h0
                      rw [← hw4]
                      exact h0
                    replace Vn := Lib.hid (blk_below Vn.out hb (blk_lt Vn.out))
                    replace Rn := Lib.hid (Ro.below Rn.out hb)
                    replace Rx := Lib.hid (Ro.below Rx.out hb)
                    replace Oo := Lib.hid (own_below Oo.out hb)
                    replace HB := Lib.hid (And.intro (HB.out.1.trans (hb.mono HB.out.2)) (Nat.le_trans HB.out.2 hb.size))
                    have Vx := Lib.hid hv0
                    have nen_x := Nat.ne_of_lt ltn
                    have gex := gq
                    generalize hsx : w3.heap.size = sx at *
                    clear hb gq hv0 ltn
                    go_wp2_with fail
                    refine (cH.out _ (is_own11 Oo.out)).mono ?_
                    rintro e w5 ⟨rfl, hb⟩
                    replace Vn := Lib.hid (blk_below Vn.out hb (blk_lt Vn.out))
                    replace Vx := Lib.hid (blk_below Vx.out hb (blk_lt Vx.out))
                    replace Rn := Lib.hid (Ro.below Rn.out hb)
                    replace Rx := Lib.hid (Ro.below Rx.out hb)
                    replace Oo := Lib.hid (own_below Oo.out hb)
                    replace HB := Lib.hid (And.intro (HB.out.1.trans (hb.mono HB.out.2)) (Nat.le_trans HB.out.2 hb.size))
                    clear hb
                    have bl : Below w5.heap.size w5 (w5.alloc (.cells (intC [(K : Int)]).toArray 3)) := (Below.refl _ _).alloc (Nat.le_refl _) _
                    have Ool : (w5.alloc (.cells (intC [(K : Int)]).toArray 3)).ownsRow w.heap.size 3 1 (.slice C k f) k (intC L) := own_below Oo.out bl
                    obtain ⟨A3, c3, w9, hap, hown, hgr⟩ := app_ints (w5.alloc (.cells (intC [(K : Int)]).toArray 3)) w.heap.size _ k L Ool _ 1 1 [(K : Int)] (is_lit w5 [(K : Int)] rfl) (by have := HM.out; omega) (by have := HB.out.2; simp; omega)
                    replace hap : (Builtin.append_ #[39, 39] 39 #[.slice C k f, .slice (some ⟨w5.heap.size, 0, none⟩) 1 1]).run Try.prog (w5.alloc (.cells #[.int .i64 (K : Int)] 3)) = _ := hap
                    replace Vn := Lib.hid (keep_grown (blk_below Vn.out bl (blk_lt Vn.out)) hgr (row_int Ool) (by decide))
                    replace Vx := Lib.hid (keep_grown (blk_below Vx.out bl (blk_lt Vx.out)) hgr (row_int Ool) (by decide))
                    replace Rn := Lib.hid (Ro.grown (Ro.below Rn.out bl) hgr Ool (by decide) (Nat.le_refl _))
                    replace Rx := Lib.hid (Ro.grown (Ro.below Rx.out bl) hgr Ool (by decide) (Nat.le_refl _))
                    replace HB := Lib.hid (And.intro (Below.grown (HB.out.1.trans (bl.mono HB.out.2)) hgr (by have := HB.out.2; simp; omega) (fun k hk => (Ool.lt k hk).1)) (Nat.le_trans (Nat.le_trans HB.out.2 bl.size) hgr.size))
                    replace Oo := Lib.hid hown
                    clear hown hgr bl Ool
                    have cx0 : w9.cell? ⟨sx, 0, none⟩ = some (.int .u32 wa) := (blk_cell Vx.out 0).trans rfl
                    have cx1 : w9.cell? ⟨sx, 1, none⟩ = some (.int .u32 to) := (blk_cell Vx.out 1).trans rfl
                    have cx2 : w9.cell? ⟨sx, 2, none⟩ = some (.slice B2 m2 d2) := (blk_cell Vx.out 2).trans rfl
                    have pcn0 : w9.cell? ⟨sn, 0, none⟩ = some (.int .u32 wa) := (blk_cell Vn.out 0).trans rfl
                    have pfn0 : w9.frozen? ⟨sn, 0, none⟩ = false := blk_frozen Vn.out 0
                    have pcn1 : w9.cell? ⟨sn, 1, none⟩ = some (.int .u32 to) := (blk_cell Vn.out 1).trans rfl
                    have pfn1 : w9.frozen? ⟨sn, 1, none⟩ = false := blk_frozen Vn.out 1
                    have pcn2 : w9.cell? ⟨sn, 2, none⟩ = some (.slice B m d) := (blk_cell Vn.out 2).trans rfl
                    have pfn2 : w9.frozen? ⟨sn, 2, none⟩ = false := blk_frozen Vn.out 2
                    obtain ⟨w6, hw6⟩ : ∃ W, (((w9.setCell ⟨sn, 0, none⟩ (.int .u32 wa)).setCell ⟨sn, 1, none⟩ (.int .u32 to)).setCell ⟨sn, 2, none⟩ (.slice B2 m2 d2)) = W := ⟨_, rfl⟩
                    replace Rn := Lib.hid (hw6 ▸ (((Rn.out.set (o := 0) (u := .int .u32 wa) Vn.out (by decide) gen).set (o := 1) (u := .int .u32 to) (blk_set (j := 0) Vn.out (.int .u32 wa)) (by decide) gen).set (o := 2) (u := .slice B2 m2 d2) (blk_set (j := 1) (blk_set (j := 0) Vn.out (.int .u32 wa)) (.int .u32 to)) (by decide) gen))
                    replace Rx := Lib.hid (hw6 ▸ (((Rx.out.set (o := 0) (u := .int .u32 wa) Vn.out (by decide) gen).set (o := 1) (u := .int .u32 to) (blk_set (j := 0) Vn.out (.int .u32 wa)) (by decide) gen).set (o := 2) (u := .slice B2 m2 d2) (blk_set (j := 1) (blk_set (j := 0) Vn.out (.int .u32 wa)) (.int .u32 to)) (by decide) gen))
                    replace Oo := Lib.hid (hw6 ▸ (own_set (o := 2) (u := .slice B2 m2 d2) (own_set (o := 1) (u := .int .u32 to) (own_set (o := 0) (u := .int .u32 wa) Oo.out Vn.out (by decide)) (blk_set (j := 0) Vn.out (.int .u32 wa)) (by decide)) (blk_set (j := 1) (blk_set (j := 0) Vn.out (.int .u32 wa)) (.int .u32 to)) (by decide)))
                    have Vx2 := ((Below.heap_setCell _ ⟨sn, 2, none⟩ (.slice B2 m2 d2) sx nen_x.symm).trans ((Below.heap_setCell _ ⟨sn, 1, none⟩ (.int .u32 to) sx nen_x.symm).trans ((Below.heap_setCell _ ⟨sn, 0, none⟩ (.int .u32 wa) sx nen_x.symm).trans Vx.out)))
                    have Vn2 := (blk_set (j := 2) (blk_set (j := 1) (blk_set (j := 0) Vn.out (.int .u32 wa)) (.int .u32 to)) (.slice B2 m2 d2))
                    replace Vn := Lib.hid (show w6.heap[sn]? = some (.cells #[.int .u32 wa, .int .u32 to, .slice B2 m2 d2] 25) from hw6 ▸ Vn2)
                    clear Vn2
                    replace Vx := Lib.hid (show w6.heap[sx]? = some (.cells #[.int .u32 wa, .int .u32 to, .slice B2 m2 d2] 25) from hw6 ▸ Vx2)
                    clear Vx2
                    have hbb : Below _ _ w6 := hw6 ▸ (Below.setCell (Below.setCell (Below.setCell HB.out.1 (p := ⟨sn, 0, none⟩) (show _ ≤ sn from gen) (.int .u32 wa)) (p := ⟨sn, 1, none⟩) (show _ ≤ sn from gen) (.int .u32 to)) (p := ⟨sn, 2, none⟩) (show _ ≤ sn from gen) (.slice B2 m2 d2))
                    have hbs : w6.heap.size = w9.heap.size := by rw [← hw6]; simp [World.setCell]
                    replace HB := Lib.hid (And.intro hbb (show _ ≤ w6.heap.size by rw [hbs]; exact HB.out.2))
                    clear hbb hbs
                    go_wp2_with (at_builtin; refine eapp_run (by rfl) rfl rfl rfl hap ?_)
                    go_roundw
                    case rel => exact ⟨i + 1, g, t, m2, d2, k + 1, c3, B2, A3, wa, to, ws ++ [(tk, (K : Int))], L ++ [(K : Int)], rfl, rfl, rfl, by go_num, by omega, by omega, Vn, Rx, Oo, T2, HB⟩
                    case measure => simp [intOf]; omega
              · have e3 : decide ((K : Int) < (g : Int)) = false := decide_eq_false (by omega)
                have e3n : decide (K < g) = false := decide_eq_false (by omega)
                rw [if_pos (fun h => h3 h.2)] at hP
                have cP := Lib.hid (show ∀ W, Rw w W B m d ws → Calls Try.prog 11 #[.agg #[.int .u32 wa, .int .u32 to, .slice B m d], .int .u32 tk, .int .i64 (K : Int)] W (NAs w W wa to ws 1) from fun W h => parkAs11 tk (K : Int) h (by have := HM.out; omega) TT.out.nb hB.1 hB.2 hP)
                clear h2 h3
                clear hP hB htk hPk htg hg60
                have cn0 : wr.cell? ⟨sn, 0, none⟩ = some (.int .u32 wa) := (blk_cell Vn.out 0).trans rfl
                have cn1 : wr.cell? ⟨sn, 1, none⟩ = some (.int .u32 to) := (blk_cell Vn.out 1).trans rfl
                have cn2 : wr.cell? ⟨sn, 2, none⟩ = some (.slice B m d) := (blk_cell Vn.out 2).trans rfl
                go_wp2_with fail
                refine (cP.out _ Rn.out).mono ?_
                rintro e w3 ⟨B2, m2, d2, rfl, hrs, hb⟩
                clear cn0 cn1 cn2
                replace Vn := Lib.hid (blk_below Vn.out hb (blk_lt Vn.out))
                replace Rn := Lib.hid (Ro.below Rn.out hb)
                replace Oo := Lib.hid (own_below Oo.out hb)
                replace HB := Lib.hid (And.intro (HB.out.1.trans (hb.mono HB.out.2)) (Nat.le_trans HB.out.2 hb.size))
                have Rx := Lib.hid hrs
                clear hrs
                clear hb
                have ltn := blk_lt Vn.out
                have gq := HB.out.2
                obtain ⟨w4, hw4⟩ : ∃ W, (w3.alloc (.cells #[.int .u32 wa, .int .u32 to, .slice B2 m2 d2] 25)) = W := ⟨_, rfl⟩
                have hb : Below w3.heap.size w3 w4 := hw4 ▸ ((Below.refl _ _).alloc (Nat.le_refl _) _)
                have hv0 : w4.heap[w3.heap.size]? = some (.cells #[.int .u32 wa, .int .u32 to, .slice B2 m2 d2] 25) := by
                  have h0 := heap_alloc_new w3 (.cells #[.int .u32 wa, .int .u32 to, .slice B2 m2 d2] 25)
                  rw [show w3.heap.size = w3.heap.size by simp [Nat.add_assoc]] at h0
                  rw [← hw4]
                  exact h0
                replace Vn := Lib.hid (blk_below Vn.out hb (blk_lt Vn.out))
                replace Rn := Lib.hid (Ro.below Rn.out hb)
                replace Rx := Lib.hid (Ro.below Rx.out hb)
                replace Oo := Lib.hid (own_below Oo.out hb)
                replace HB := Lib.hid (And.intro (HB.out.1.trans (hb.mono HB.out.2)) (Nat.le_trans HB.out.2 hb.size))
                have Vx := Lib.hid hv0
                have nen_x := Nat.ne_of_lt ltn
                have gex := gq
                generalize hsx : w3.heap.size = sx at *
                clear hb gq hv0 ltn
                have cx0 : w4.cell? ⟨sx, 0, none⟩ = some (.int .u32 wa) := (blk_cell Vx.out 0).trans rfl
                have cx1 : w4.cell? ⟨sx, 1, none⟩ = some (.int .u32 to) := (blk_cell Vx.out 1).trans rfl
                have cx2 : w4.cell? ⟨sx, 2, none⟩ = some (.slice B2 m2 d2) := (blk_cell Vx.out 2).trans rfl
                have pcn0 : w4.cell? ⟨sn, 0, none⟩ = some (.int .u32 wa) := (blk_cell Vn.out 0).trans rfl
                have pfn0 : w4.frozen? ⟨sn, 0, none⟩ = false := blk_frozen Vn.out 0
                have pcn1 : w4.cell? ⟨sn, 1, none⟩ = some (.int .u32 to) := (blk_cell Vn.out 1).trans rfl
                have pfn1 : w4.frozen? ⟨sn, 1, none⟩ = false := blk_frozen Vn.out 1
                have pcn2 : w4.cell? ⟨sn, 2, none⟩ = some (.slice B m d) := (blk_cell Vn.out 2).trans rfl
                have pfn2 : w4.frozen? ⟨sn, 2, none⟩ = false := blk_frozen Vn.out 2
                obtain ⟨w5, hw5⟩ : ∃ W, (((w4.setCell ⟨sn, 0, none⟩ (.int .u32 wa)).setCell ⟨sn, 1, none⟩ (.int .u32 to)).setCell ⟨sn, 2, none⟩ (.slice B2 m2 d2)) = W := ⟨_, rfl⟩
                replace Rn := Lib.hid (hw5 ▸ (((Rn.out.set (o := 0) (u := .int .u32 wa) Vn.out (by decide) gen).set (o := 1) (u := .int .u32 to) (blk_set (j := 0) Vn.out (.int .u32 wa)) (by decide) gen).set (o := 2) (u := .slice B2 m2 d2) (blk_set (j := 1) (blk_set (j := 0) Vn.out (.int .u32 wa)) (.int .u32 to)) (by decide) gen))
                replace Rx := Lib.hid (hw5 ▸ (((Rx.out.set (o := 0) (u := .int .u32 wa) Vn.out (by decide) gen).set (o := 1) (u := .int .u32 to) (blk_set (j := 0) Vn.out (.int .u32 wa)) (by decide) gen).set (o := 2) (u := .slice B2 m2 d2) (blk_set (j := 1) (blk_set (j := 0) Vn.out (.int .u32 wa)) (.int .u32 to)) (by decide) gen))
                replace Oo := Lib.hid (hw5 ▸ (own_set (o := 2) (u := .slice B2 m2 d2) (own_set (o := 1) (u := .int .u32 to) (own_set (o := 0) (u := .int .u32 wa) Oo.out Vn.out (by decide)) (blk_set (j := 0) Vn.out (.int .u32 wa)) (by decide)) (blk_set (j := 1) (blk_set (j := 0) Vn.out (.int .u32 wa)) (.int .u32 to)) (by decide)))
                have Vx2 := ((Below.heap_setCell _ ⟨sn, 2, none⟩ (.slice B2 m2 d2) sx nen_x.symm).trans ((Below.heap_setCell _ ⟨sn, 1, none⟩ (.int .u32 to) sx nen_x.symm).trans ((Below.heap_setCell _ ⟨sn, 0, none⟩ (.int .u32 wa) sx nen_x.symm).trans Vx.out)))
                have Vn2 := (blk_set (j := 2) (blk_set (j := 1) (blk_set (j := 0) Vn.out (.int .u32 wa)) (.int .u32 to)) (.slice B2 m2 d2))
                replace Vn := Lib.hid (show w5.heap[sn]? = some (.cells #[.int .u32 wa, .int .u32 to, .slice B2 m2 d2] 25) from hw5 ▸ Vn2)
                clear Vn2
                replace Vx := Lib.hid (show w5.heap[sx]? = some (.cells #[.int .u32 wa, .int .u32 to, .slice B2 m2 d2] 25) from hw5 ▸ Vx2)
                clear Vx2
                have hbb : Below _ _ w5 := hw5 ▸ (Below.setCell (Below.setCell (Below.setCell HB.out.1 (p := ⟨sn, 0, none⟩) (show _ ≤ sn from gen) (.int .u32 wa)) (p := ⟨sn, 1, none⟩) (show _ ≤ sn from gen) (.int .u32 to)) (p := ⟨sn, 2, none⟩) (show _ ≤ sn from gen) (.slice B2 m2 d2))
                have hbs : w5.heap.size = w4.heap.size := by rw [← hw5]; simp [World.setCell]
                replace HB := Lib.hid (And.intro hbb (show _ ≤ w5.heap.size by rw [hbs]; exact HB.out.2))
                clear hbb hbs
                go_wp2
                go_roundw
                case rel => exact ⟨i + 1, g, t, m2, d2, k, f, B2, C, wa, to, ws, L, rfl, rfl, rfl, by go_num, by omega, by omega, Vn, Rx, Oo, TT, HB⟩
                case measure => simp [intOf]; omega
            · have e2 : decide ((t : Int) ≤ (K : Int)) = false := decide_eq_false (by omega)
              have e2n : decide (t ≤ K) = false := decide_eq_false (by omega)
              rw [if_pos (fun h => h2 h.1)] at hP
              have cP := Lib.hid (show ∀ W, Rw w W B m d ws → Calls Try.prog 11 #[.agg #[.int .u32 wa, .int .u32 to, .slice B m d], .int .u32 tk, .int .i64 (K : Int)] W (NAs w W wa to ws 1) from fun W h => parkAs11 tk (K : Int) h (by have := HM.out; omega) TT.out.nb hB.1 hB.2 hP)
              clear h2
              clear hP hB htk hPk htg hg60
              have cn0 : wr.cell? ⟨sn, 0, none⟩ = some (.int .u32 wa) := (blk_cell Vn.out 0).trans rfl
              have cn1 : wr.cell? ⟨sn, 1, none⟩ = some (.int .u32 to) := (blk_cell Vn.out 1).trans rfl
              have cn2 : wr.cell? ⟨sn, 2, none⟩ = some (.slice B m d) := (blk_cell Vn.out 2).trans rfl
              go_wp2_with fail
              refine (cP.out _ Rn.out).mono ?_
              rintro e w3 ⟨B2, m2, d2, rfl, hrs, hb⟩
              clear cn0 cn1 cn2
              replace Vn := Lib.hid (blk_below Vn.out hb (blk_lt Vn.out))
              replace Rn := Lib.hid (Ro.below Rn.out hb)
              replace Oo := Lib.hid (own_below Oo.out hb)
              replace HB := Lib.hid (And.intro (HB.out.1.trans (hb.mono HB.out.2)) (Nat.le_trans HB.out.2 hb.size))
              have Rx := Lib.hid hrs
              clear hrs
              clear hb
              have ltn := blk_lt Vn.out
              have gq := HB.out.2
              obtain ⟨w4, hw4⟩ : ∃ W, (w3.alloc (.cells #[.int .u32 wa, .int .u32 to, .slice B2 m2 d2] 25)) = W := ⟨_, rfl⟩
              have hb : Below w3.heap.size w3 w4 := hw4 ▸ ((Below.refl _ _).alloc (Nat.le_refl _) _)
              have hv0 : w4.heap[w3.heap.size]? = some (.cells #[.int .u32 wa, .int .u32 to, .slice B2 m2 d2] 25) := by
                have h0 := heap_alloc_new w3 (.cells #[.int .u32 wa, .int .u32 to, .slice B2 m2 d2] 25)
                rw [show w3.heap.size = w3.heap.size by simp [Nat.add_assoc]] at h0
                rw [← hw4]
                exact h0
              replace Vn := Lib.hid (blk_below Vn.out hb (blk_lt Vn.out))
              replace Rn := Lib.hid (Ro.below Rn.out hb)
              replace Rx := Lib.hid (Ro.below Rx.out hb)
              replace Oo := Lib.hid (own_below Oo.out hb)
              replace HB := Lib.hid (And.intro (HB.out.1.trans (hb.mono HB.out.2)) (Nat.le_trans HB.out.2 hb.size))
              have Vx := Lib.hid hv0
              have nen_x := Nat.ne_of_lt ltn
              have gex := gq
              generalize hsx : w3.heap.size = sx at *
              clear hb gq hv0 ltn
              have cx0 : w4.cell? ⟨sx, 0, none⟩ = some (.int .u32 wa) := (blk_cell Vx.out 0).trans rfl
              have cx1 : w4.cell? ⟨sx, 1, none⟩ = some (.int .u32 to) := (blk_cell Vx.out 1).trans rfl
              have cx2 : w4.cell? ⟨sx, 2, none⟩ = some (.slice B2 m2 d2) := (blk_cell Vx.out 2).trans rfl
              have pcn0 : w4.cell? ⟨sn, 0, none⟩ = some (.int .u32 wa) := (blk_cell Vn.out 0).trans rfl
              have pfn0 : w4.frozen? ⟨sn, 0, none⟩ = false := blk_frozen Vn.out 0
              have pcn1 : w4.cell? ⟨sn, 1, none⟩ = some (.int .u32 to) := (blk_cell Vn.out 1).trans rfl
              have pfn1 : w4.frozen? ⟨sn, 1, none⟩ = false := blk_frozen Vn.out 1
              have pcn2 : w4.cell? ⟨sn, 2, none⟩ = some (.slice B m d) := (blk_cell Vn.out 2).trans rfl
              have pfn2 : w4.frozen? ⟨sn, 2, none⟩ = false := blk_frozen Vn.out 2
              obtain ⟨w5, hw5⟩ : ∃ W, (((w4.setCell ⟨sn, 0, none⟩ (.int .u32 wa)).setCell ⟨sn, 1, none⟩ (.int .u32 to)).setCell ⟨sn, 2, none⟩ (.slice B2 m2 d2)) = W := ⟨_, rfl⟩
              replace Rn := Lib.hid (hw5 ▸ (((Rn.out.set (o := 0) (u := .int .u32 wa) Vn.out (by decide) gen).set (o := 1) (u := .int .u32 to) (blk_set (j := 0) Vn.out (.int .u32 wa)) (by decide) gen).set (o := 2) (u := .slice B2 m2 d2) (blk_set (j := 1) (blk_set (j := 0) Vn.out (.int .u32 wa)) (.int .u32 to)) (by decide) gen))
              replace Rx := Lib.hid (hw5 ▸ (((Rx.out.set (o := 0) (u := .int .u32 wa) Vn.out (by decide) gen).set (o := 1) (u := .int .u32 to) (blk_set (j := 0) Vn.out (.int .u32 wa)) (by decide) gen).set (o := 2) (u := .slice B2 m2 d2) (blk_set (j := 1) (blk_set (j := 0) Vn.out (.int .u32 wa)) (.int .u32 to)) (by decide) gen))
              replace Oo := Lib.hid (hw5 ▸ (own_set (o := 2) (u := .slice B2 m2 d2) (own_set (o := 1) (u := .int .u32 to) (own_set (o := 0) (u := .int .u32 wa) Oo.out Vn.out (by decide)) (blk_set (j := 0) Vn.out (.int .u32 wa)) (by decide)) (blk_set (j := 1) (blk_set (j := 0) Vn.out (.int .u32 wa)) (.int .u32 to)) (by decide)))
              have Vx2 := ((Below.heap_setCell _ ⟨sn, 2, none⟩ (.slice B2 m2 d2) sx nen_x.symm).trans ((Below.heap_setCell _ ⟨sn, 1, none⟩ (.int .u32 to) sx nen_x.symm).trans ((Below.heap_setCell _ ⟨sn, 0, none⟩ (.int .u32 wa) sx nen_x.symm).trans Vx.out)))
              have Vn2 := (blk_set (j := 2) (blk_set (j := 1) (blk_set (j := 0) Vn.out (.int .u32 wa)) (.int .u32 to)) (.slice B2 m2 d2))
              replace Vn := Lib.hid (show w5.heap[sn]? = some (.cells #[.int .u32 wa, .int .u32 to, .slice B2 m2 d2] 25) from hw5 ▸ Vn2)
              clear Vn2
              replace Vx := Lib.hid (show w5.heap[sx]? = some (.cells #[.int .u32 wa, .int .u32 to, .slice B2 m2 d2] 25) from hw5 ▸ Vx2)
              clear Vx2
              have hbb : Below _ _ w5 := hw5 ▸ (Below.setCell (Below.setCell (Below.setCell HB.out.1 (p := ⟨sn, 0, none⟩) (show _ ≤ sn from gen) (.int .u32 wa)) (p := ⟨sn, 1, none⟩) (show _ ≤ sn from gen) (.int .u32 to)) (p := ⟨sn, 2, none⟩) (show _ ≤ sn from gen) (.slice B2 m2 d2))
              have hbs : w5.heap.size = w4.heap.size := by rw [← hw5]; simp [World.setCell]
              replace HB := Lib.hid (And.intro hbb (show _ ≤ w5.heap.size by rw [hbs]; exact HB.out.2))
              clear hbb hbs
              go_wp2
              go_roundw
              case rel => exact ⟨i + 1, g, t, m2, d2, k, f, B2, C, wa, to, ws, L, rfl, rfl, rfl, by go_num, by omega, by omega, Vn, Rx, Oo, TT, HB⟩
              case measure => simp [intOf]; omega
          · have d1 : (r == 1) = false := by simp [h1]
            clear h0 h1 hr hK hq hwu hwi hwk
            by_cases h2 : t < g
            · have e2 : decide ((t : Int) < (g : Int)) = true := decide_eq_true (by omega)
              have e2n : decide (t < g) = true := decide_eq_true (by omega)
              obtain ⟨he, hT, hto⟩ := TT.out.one h2
              obtain ⟨to2, hto2⟩ : ∃ x, tick fr ((t + 1 : Nat) : Int) = x := ⟨_, rfl⟩
              obtain ⟨xi, hxi⟩ : ∃ x, tick fr (t : Int) = x := ⟨_, rfl⟩
              have hxb := tick_ge fr (t : Int)
              rw [hto2] at he hT hto
              rw [hxi] at hto hxb
              obtain ⟨ws2, hws2⟩ : ∃ x, tws fr (wo11 (t : Int) L) = x := ⟨_, rfl⟩
              rw [hws2] at he hT hto
              have T2 := Lib.hid hT
              have hwg : IntKind.u32.wrap (t : Int) = (t : Int) := by rw [IntKind.wrap_u32]; omega
              have hws : IntKind.u32.wrap (fr + (t : Int)) = xi := by rw [← hxi, IntKind.wrap_u32]; rfl
              have hg1 : IntKind.i64.wrap ((t : Int) + 1) = ((t + 1 : Nat) : Int) := by rw [IntKind.wrap_i64]; omega
              have HL2 := Lib.hid (show ws2.length ≤ 12 from by rw [← hws2, tws_len]; exact Nat.le_trans (wo11_len _ _) TT.out.len)
              have cT := Lib.hid (show ∀ (B2 : Option Addr) (m2 d2 : Nat) (W : World), Rw w W B2 m2 d2 ws2 → Calls Try.prog 16 #[.agg #[.int .u32 wa, .int .u32 to2, .slice B2 m2 d2], .int .u32 xi] W (YesN W true) from fun B2 m2 d2 W h => told11As xi h (by have := Wts.len h.es; have := HL2.out; omega) T2.out.nb hxb.1 hxb.2 hto)
              have cW := Lib.hid (show ∀ W, Is W C k f L → Calls Try.prog 24 #[.slice C k f, .int .i64 (t : Int)] W (OwnN W (wo11 (t : Int) L)) from fun W h => without11_any C k f L (t : Int) W h (by have := HM.out; omega))
              by_cases h4 : (t : Int) ∈ L
              · rw [if_pos h4] at he
                have cO := Lib.hid (show ∀ W, Rw w W B m d ws → Calls Try.prog 18 #[.agg #[.int .u32 wa, .int .u32 to, .slice B m d]] W (OAs w W wa to2 ws2 (t : Int) 0) from fun W h => oneAs h (by have := HM.out; omega) TT.out.nb he)
                have cH := Lib.hid (show ∀ W, Is W C k f L → Calls Try.prog 23 #[.slice C k f, .int .i64 (t : Int)] W (fun e w' => e = .returned (.bool true) ∧ Below W.heap.size W w') from fun W h => (has11_any C k f L (t : Int) W h (by have := HM.out; omega)).mono (fun e w' ⟨h1, h2⟩ => ⟨by rw [decide_eq_true h4] at h1; exact h1, by rw [h2]; exact Below.refl _ _⟩))
                have e5 : ((t : Int) == (t : Int)) = true := by simp
                have e6 : ((t : Int) != (t : Int)) = false := by simp
                clear he hT hto hto2 hxi hws2 hxb h2 h4 htg hg60
                have cn0 : wr.cell? ⟨sn, 0, none⟩ = some (.int .u32 wa) := (blk_cell Vn.out 0).trans rfl
                have cn1 : wr.cell? ⟨sn, 1, none⟩ = some (.int .u32 to) := (blk_cell Vn.out 1).trans rfl
                have cn2 : wr.cell? ⟨sn, 2, none⟩ = some (.slice B m d) := (blk_cell Vn.out 2).trans rfl
                go_wp2_with fail
                refine (cO.out _ Rn.out).mono ?_
                rintro e w3 ⟨B2, m2, d2, rfl, hrs, hb⟩
                clear cn0 cn1 cn2
                replace Vn := Lib.hid (blk_below Vn.out hb (blk_lt Vn.out))
                replace Rn := Lib.hid (Ro.below Rn.out hb)
                replace Oo := Lib.hid (own_below Oo.out hb)
                replace HB := Lib.hid (And.intro (HB.out.1.trans (hb.mono HB.out.2)) (Nat.le_trans HB.out.2 hb.size))
                have Rx := Lib.hid hrs
                clear hrs
                clear hb
                have ltn := blk_lt Vn.out
                have gq := HB.out.2
                obtain ⟨w4, hw4⟩ : ∃ W, (w3.alloc (.cells #[.int .u32 wa, .int .u32 to2, .slice B2 m2 d2] 25)) = W := ⟨_, rfl⟩
                have hb : Below w3.heap.size w3 w4 := hw4 ▸ ((Below.refl _ _).alloc (Nat.le_refl _) _)
                have hv0 : w4.heap[w3.heap.size]? = some (.cells #[.int .u32 wa, .int .u32 to2, .slice B2 m2 d2] 25) := by
                  have h0 := heap_alloc_new w3 (.cells #[.int .u32 wa, .int .u32 to2, .slice B2 m2 d2] 25)
                  rw [show w3.heap.size = w3.heap.size by simp [Nat.add_assoc]] at h0
                  rw [← hw4]
                  exact h0
                replace Vn := Lib.hid (blk_below Vn.out hb (blk_lt Vn.out))
                replace Rn := Lib.hid (Ro.below Rn.out hb)
                replace Rx := Lib.hid (Ro.below Rx.out hb)
                replace Oo := Lib.hid (own_below Oo.out hb)
                replace HB := Lib.hid (And.intro (HB.out.1.trans (hb.mono HB.out.2)) (Nat.le_trans HB.out.2 hb.size))
                have Vx := Lib.hid hv0
                have nen_x := Nat.ne_of_lt ltn
                have gex := gq
                generalize hsx : w3.heap.size = sx at *
                clear hb gq hv0 ltn
                go_wp2_with fail
                refine (cH.out _ (is_own11 Oo.out)).mono ?_
                rintro e w5 ⟨rfl, hb⟩
                replace Vn := Lib.hid (blk_below Vn.out hb (blk_lt Vn.out))
                replace Vx := Lib.hid (blk_below Vx.out hb (blk_lt Vx.out))
                replace Rn := Lib.hid (Ro.below Rn.out hb)
                replace Rx := Lib.hid (Ro.below Rx.out hb)
                replace Oo := Lib.hid (own_below Oo.out hb)
                replace HB := Lib.hid (And.intro (HB.out.1.trans (hb.mono HB.out.2)) (Nat.le_trans HB.out.2 hb.size))
                clear hb
                have cx0 : w5.cell? ⟨sx, 0, none⟩ = some (.int .u32 wa) := (blk_cell Vx.out 0).trans rfl
                have cx1 : w5.cell? ⟨sx, 1, none⟩ = some (.int .u32 to2) := (blk_cell Vx.out 1).trans rfl
                have cx2 : w5.cell? ⟨sx, 2, none⟩ = some (.slice B2 m2 d2) := (blk_cell Vx.out 2).trans rfl
                go_wp2_with fail
                refine (cT.out _ _ _ _ Rx.out).mono ?_
                rintro e w6 ⟨rfl, hb⟩
                clear cx0 cx1 cx2
                replace Vn := Lib.hid (blk_below Vn.out hb (blk_lt Vn.out))
                replace Vx := Lib.hid (blk_below Vx.out hb (blk_lt Vx.out))
                replace Rn := Lib.hid (Ro.below Rn.out hb)
                replace Rx := Lib.hid (Ro.below Rx.out hb)
                replace Oo := Lib.hid (own_below Oo.out hb)
                replace HB := Lib.hid (And.intro (HB.out.1.trans (hb.mono HB.out.2)) (Nat.le_trans HB.out.2 hb.size))
                clear hb
                have gO := HB.out.2
                go_wp2_with fail
                refine (cW.out _ (is_own11 Oo.out)).mono ?_
                rintro e w7 ⟨A3, k3, c3, rfl, hown, hb⟩
                replace Vn := Lib.hid (blk_below Vn.out hb (blk_lt Vn.out))
                replace Vx := Lib.hid (blk_below Vx.out hb (blk_lt Vx.out))
                replace Rn := Lib.hid (Ro.below Rn.out hb)
                replace Rx := Lib.hid (Ro.below Rx.out hb)
                replace Oo := Lib.hid (own_below Oo.out hb)
                replace HB := Lib.hid (And.intro (HB.out.1.trans (hb.mono HB.out.2)) (Nat.le_trans HB.out.2 hb.size))
                clear hb
                replace Oo := Lib.hid (own_base hown gO)
                clear hown gO
                have cx0 : w7.cell? ⟨sx, 0, none⟩ = some (.int .u32 wa) := (blk_cell Vx.out 0).trans rfl
                have cx1 : w7.cell? ⟨sx, 1, none⟩ = some (.int .u32 to2) := (blk_cell Vx.out 1).trans rfl
                have cx2 : w7.cell? ⟨sx, 2, none⟩ = some (.slice B2 m2 d2) := (blk_cell Vx.out 2).trans rfl
                have pcn0 : w7.cell? ⟨sn, 0, none⟩ = some (.int .u32 wa) := (blk_cell Vn.out 0).trans rfl
                have pfn0 : w7.frozen? ⟨sn, 0, none⟩ = false := blk_frozen Vn.out 0
                have pcn1 : w7.cell? ⟨sn, 1, none⟩ = some (.int .u32 to) := (blk_cell Vn.out 1).trans rfl
                have pfn1 : w7.frozen? ⟨sn, 1, none⟩ = false := blk_frozen Vn.out 1
                have pcn2 : w7.cell? ⟨sn, 2, none⟩ = some (.slice B m d) := (blk_cell Vn.out 2).trans rfl
                have pfn2 : w7.frozen? ⟨sn, 2, none⟩ = false := blk_frozen Vn.out 2
                obtain ⟨w8, hw8⟩ : ∃ W, (((w7.setCell ⟨sn, 0, none⟩ (.int .u32 wa)).setCell ⟨sn, 1, none⟩ (.int .u32 to2)).setCell ⟨sn, 2, none⟩ (.slice B2 m2 d2)) = W := ⟨_, rfl⟩
                replace Rn := Lib.hid (hw8 ▸ (((Rn.out.set (o := 0) (u := .int .u32 wa) Vn.out (by decide) gen).set (o := 1) (u := .int .u32 to2) (blk_set (j := 0) Vn.out (.int .u32 wa)) (by decide) gen).set (o := 2) (u := .slice B2 m2 d2) (blk_set (j := 1) (blk_set (j := 0) Vn.out (.int .u32 wa)) (.int .u32 to2)) (by decide) gen))
                replace Rx := Lib.hid (hw8 ▸ (((Rx.out.set (o := 0) (u := .int .u32 wa) Vn.out (by decide) gen).set (o := 1) (u := .int .u32 to2) (blk_set (j := 0) Vn.out (.int .u32 wa)) (by decide) gen).set (o := 2) (u := .slice B2 m2 d2) (blk_set (j := 1) (blk_set (j := 0) Vn.out (.int .u32 wa)) (.int .u32 to2)) (by decide) gen))
                replace Oo := Lib.hid (hw8 ▸ (own_set (o := 2) (u := .slice B2 m2 d2) (own_set (o := 1) (u := .int .u32 to2) (own_set (o := 0) (u := .int .u32 wa) Oo.out Vn.out (by decide)) (blk_set (j := 0) Vn.out (.int .u32 wa)) (by decide)) (blk_set (j := 1) (blk_set (j := 0) Vn.out (.int .u32 wa)) (.int .u32 to2)) (by decide)))
                have Vx2 := ((Below.heap_setCell _ ⟨sn, 2, none⟩ (.slice B2 m2 d2) sx nen_x.symm).trans ((Below.heap_setCell _ ⟨sn, 1, none⟩ (.int .u32 to2) sx nen_x.symm).trans ((Below.heap_setCell _ ⟨sn, 0, none⟩ (.int .u32 wa) sx nen_x.symm).trans Vx.out)))
                have Vn2 := (blk_set (j := 2) (blk_set (j := 1) (blk_set (j := 0) Vn.out (.int .u32 wa)) (.int .u32 to2)) (.slice B2 m2 d2))
                replace Vn := Lib.hid (show w8.heap[sn]? = some (.cells #[.int .u32 wa, .int .u32 to2, .slice B2 m2 d2] 25) from hw8 ▸ Vn2)
                clear Vn2
                replace Vx := Lib.hid (show w8.heap[sx]? = some (.cells #[.int .u32 wa, .int .u32 to2, .slice B2 m2 d2] 25) from hw8 ▸ Vx2)
                clear Vx2
                have hbb : Below _ _ w8 := hw8 ▸ (Below.setCell (Below.setCell (Below.setCell HB.out.1 (p := ⟨sn, 0, none⟩) (show _ ≤ sn from gen) (.int .u32 wa)) (p := ⟨sn, 1, none⟩) (show _ ≤ sn from gen) (.int .u32 to2)) (p := ⟨sn, 2, none⟩) (show _ ≤ sn from gen) (.slice B2 m2 d2))
                have hbs : w8.heap.size = w7.heap.size := by rw [← hw8]; simp [World.setCell]
                replace HB := Lib.hid (And.intro hbb (show _ ≤ w8.heap.size by rw [hbs]; exact HB.out.2))
                clear hbb hbs
                go_wp2
                go_roundw
                case rel => exact ⟨i + 1, g, t + 1, m2, d2, k3, c3, B2, A3, wa, to2, ws2, wo11 (t : Int) L, rfl, by go_num, rfl, by go_num, by omega, by omega, Vn, Rx, Oo, T2, HB⟩
                case measure => simp [intOf]; omega
              · rw [if_neg h4] at he
                have cO := Lib.hid (show ∀ W, Rw w W B m d ws → Calls Try.prog 18 #[.agg #[.int .u32 wa, .int .u32 to, .slice B m d]] W (OAs w W wa to2 ws2 (-1) 0) from fun W h => oneAs h (by have := HM.out; omega) TT.out.nb he)
                have cH := Lib.hid (show ∀ W, Is W C k f L → Calls Try.prog 23 #[.slice C k f, .int .i64 (t : Int)] W (fun e w' => e = .returned (.bool false) ∧ Below W.heap.size W w') from fun W h => (has11_any C k f L (t : Int) W h (by have := HM.out; omega)).mono (fun e w' ⟨h1, h2⟩ => ⟨by rw [decide_eq_false h4] at h1; exact h1, by rw [h2]; exact Below.refl _ _⟩))
                have e5 : ((-1 : Int) == (t : Int)) = false := beq_false_of_ne (by omega)
                have e6 : ((-1 : Int) != (t : Int)) = true := bne_iff_ne.2 (by omega)
                clear he hT hto hto2 hxi hws2 hxb h2 h4 htg hg60
                have cn0 : wr.cell? ⟨sn, 0, none⟩ = some (.int .u32 wa) := (blk_cell Vn.out 0).trans rfl
                have cn1 : wr.cell? ⟨sn, 1, none⟩ = some (.int .u32 to) := (blk_cell Vn.out 1).trans rfl
                have cn2 : wr.cell? ⟨sn, 2, none⟩ = some (.slice B m d) := (blk_cell Vn.out 2).trans rfl
                go_wp2_with fail
                refine (cO.out _ Rn.out).mono ?_
                rintro e w3 ⟨B2, m2, d2, rfl, hrs, hb⟩
                clear cn0 cn1 cn2
                replace Vn := Lib.hid (blk_below Vn.out hb (blk_lt Vn.out))
                replace Rn := Lib.hid (Ro.below Rn.out hb)
                replace Oo := Lib.hid (own_below Oo.out hb)
                replace HB := Lib.hid (And.intro (HB.out.1.trans (hb.mono HB.out.2)) (Nat.le_trans HB.out.2 hb.size))
                have Rx := Lib.hid hrs
                clear hrs
                clear hb
                have ltn := blk_lt Vn.out
                have gq := HB.out.2
                obtain ⟨w4, hw4⟩ : ∃ W, (w3.alloc (.cells #[.int .u32 wa, .int .u32 to2, .slice B2 m2 d2] 25)) = W := ⟨_, rfl⟩
                have hb : Below w3.heap.size w3 w4 := hw4 ▸ ((Below.refl _ _).alloc (Nat.le_refl _) _)
                have hv0 : w4.heap[w3.heap.size]? = some (.cells #[.int .u32 wa, .int .u32 to2, .slice B2 m2 d2] 25) := by
                  have h0 := heap_alloc_new w3 (.cells #[.int .u32 wa, .int .u32 to2, .slice B2 m2 d2] 25)
                  rw [show w3.heap.size = w3.heap.size by simp [Nat.add_assoc]] at h0
                  rw [← hw4]
                  exact h0
                replace Vn := Lib.hid (blk_below Vn.out hb (blk_lt Vn.out))
                replace Rn := Lib.hid (Ro.below Rn.out hb)
                replace Rx := Lib.hid (Ro.below Rx.out hb)
                replace Oo := Lib.hid (own_below Oo.out hb)
                replace HB := Lib.hid (And.intro (HB.out.1.trans (hb.mono HB.out.2)) (Nat.le_trans HB.out.2 hb.size))
                have Vx := Lib.hid hv0
                have nen_x := Nat.ne_of_lt ltn
                have gex := gq
                generalize hsx : w3.heap.size = sx at *
                clear hb gq hv0 ltn
                go_wp2_with fail
                refine (cH.out _ (is_own11 Oo.out)).mono ?_
                rintro e w5 ⟨rfl, hb⟩
                replace Vn := Lib.hid (blk_below Vn.out hb (blk_lt Vn.out))
                replace Vx := Lib.hid (blk_below Vx.out hb (blk_lt Vx.out))
                replace Rn := Lib.hid (Ro.below Rn.out hb)
                replace Rx := Lib.hid (Ro.below Rx.out hb)
                replace Oo := Lib.hid (own_below Oo.out hb)
                replace HB := Lib.hid (And.intro (HB.out.1.trans (hb.mono HB.out.2)) (Nat.le_trans HB.out.2 hb.size))
                clear hb
                have cx0 : w5.cell? ⟨sx, 0, none⟩ = some (.int .u32 wa) := (blk_cell Vx.out 0).trans rfl
                have cx1 : w5.cell? ⟨sx, 1, none⟩ = some (.int .u32 to2) := (blk_cell Vx.out 1).trans rfl
                have cx2 : w5.cell? ⟨sx, 2, none⟩ = some (.slice B2 m2 d2) := (blk_cell Vx.out 2).trans rfl
                go_wp2_with fail
                refine (cT.out _ _ _ _ Rx.out).mono ?_
                rintro e w6 ⟨rfl, hb⟩
                clear cx0 cx1 cx2
                replace Vn := Lib.hid (blk_below Vn.out hb (blk_lt Vn.out))
                replace Vx := Lib.hid (blk_below Vx.out hb (blk_lt Vx.out))
                replace Rn := Lib.hid (Ro.below Rn.out hb)
                replace Rx := Lib.hid (Ro.below Rx.out hb)
                replace Oo := Lib.hid (own_below Oo.out hb)
                replace HB := Lib.hid (And.intro (HB.out.1.trans (hb.mono HB.out.2)) (Nat.le_trans HB.out.2 hb.size))
                clear hb
                have gO := HB.out.2
                go_wp2_with fail
                refine (cW.out _ (is_own11 Oo.out)).mono ?_
                rintro e w7 ⟨A3, k3, c3, rfl, hown, hb⟩
                replace Vn := Lib.hid (blk_below Vn.out hb (blk_lt Vn.out))
                replace Vx := Lib.hid (blk_below Vx.out hb (blk_lt Vx.out))
                replace Rn := Lib.hid (Ro.below Rn.out hb)
                replace Rx := Lib.hid (Ro.below Rx.out hb)
                replace Oo := Lib.hid (own_below Oo.out hb)
                replace HB := Lib.hid (And.intro (HB.out.1.trans (hb.mono HB.out.2)) (Nat.le_trans HB.out.2 hb.size))
                clear hb
                replace Oo := Lib.hid (own_base hown gO)
                clear hown gO
                have cx0 : w7.cell? ⟨sx, 0, none⟩ = some (.int .u32 wa) := (blk_cell Vx.out 0).trans rfl
                have cx1 : w7.cell? ⟨sx, 1, none⟩ = some (.int .u32 to2) := (blk_cell Vx.out 1).trans rfl
                have cx2 : w7.cell? ⟨sx, 2, none⟩ = some (.slice B2 m2 d2) := (blk_cell Vx.out 2).trans rfl
                have pcn0 : w7.cell? ⟨sn, 0, none⟩ = some (.int .u32 wa) := (blk_cell Vn.out 0).trans rfl
                have pfn0 : w7.frozen? ⟨sn, 0, none⟩ = false := blk_frozen Vn.out 0
                have pcn1 : w7.cell? ⟨sn, 1, none⟩ = some (.int .u32 to) := (blk_cell Vn.out 1).trans rfl
                have pfn1 : w7.frozen? ⟨sn, 1, none⟩ = false := blk_frozen Vn.out 1
                have pcn2 : w7.cell? ⟨sn, 2, none⟩ = some (.slice B m d) := (blk_cell Vn.out 2).trans rfl
                have pfn2 : w7.frozen? ⟨sn, 2, none⟩ = false := blk_frozen Vn.out 2
                obtain ⟨w8, hw8⟩ : ∃ W, (((w7.setCell ⟨sn, 0, none⟩ (.int .u32 wa)).setCell ⟨sn, 1, none⟩ (.int .u32 to2)).setCell ⟨sn, 2, none⟩ (.slice B2 m2 d2)) = W := ⟨_, rfl⟩
                replace Rn := Lib.hid (hw8 ▸ (((Rn.out.set (o := 0) (u := .int .u32 wa) Vn.out (by decide) gen).set (o := 1) (u := .int .u32 to2) (blk_set (j := 0) Vn.out (.int .u32 wa)) (by decide) gen).set (o := 2) (u := .slice B2 m2 d2) (blk_set (j := 1) (blk_set (j := 0) Vn.out (.int .u32 wa)) (.int .u32 to2)) (by decide) gen))
                replace Rx := Lib.hid (hw8 ▸ (((Rx.out.set (o := 0) (u := .int .u32 wa) Vn.out (by decide) gen).set (o := 1) (u := .int .u32 to2) (blk_set (j := 0) Vn.out (.int .u32 wa)) (by decide) gen).set (o := 2) (u := .slice B2 m2 d2) (blk_set (j := 1) (blk_set (j := 0) Vn.out (.int .u32 wa)) (.int .u32 to2)) (by decide) gen))
                replace Oo := Lib.hid (hw8 ▸ (own_set (o := 2) (u := .slice B2 m2 d2) (own_set (o := 1) (u := .int .u32 to2) (own_set (o := 0) (u := .int .u32 wa) Oo.out Vn.out (by decide)) (blk_set (j := 0) Vn.out (.int .u32 wa)) (by decide)) (blk_set (j := 1) (blk_set (j := 0) Vn.out (.int .u32 wa)) (.int .u32 to2)) (by decide)))
                have Vx2 := ((Below.heap_setCell _ ⟨sn, 2, none⟩ (.slice B2 m2 d2) sx nen_x.symm).trans ((Below.heap_setCell _ ⟨sn, 1, none⟩ (.int .u32 to2) sx nen_x.symm).trans ((Below.heap_setCell _ ⟨sn, 0, none⟩ (.int .u32 wa) sx nen_x.symm).trans Vx.out)))
                have Vn2 := (blk_set (j := 2) (blk_set (j := 1) (blk_set (j := 0) Vn.out (.int .u32 wa)) (.int .u32 to2)) (.slice B2 m2 d2))
                replace Vn := Lib.hid (show w8.heap[sn]? = some (.cells #[.int .u32 wa, .int .u32 to2, .slice B2 m2 d2] 25) from hw8 ▸ Vn2)
                clear Vn2
                replace Vx := Lib.hid (show w8.heap[sx]? = some (.cells #[.int .u32 wa, .int .u32 to2, .slice B2 m2 d2] 25) from hw8 ▸ Vx2)
                clear Vx2
                have hbb : Below _ _ w8 := hw8 ▸ (Below.setCell (Below.setCell (Below.setCell HB.out.1 (p := ⟨sn, 0, none⟩) (show _ ≤ sn from gen) (.int .u32 wa)) (p := ⟨sn, 1, none⟩) (show _ ≤ sn from gen) (.int .u32 to2)) (p := ⟨sn, 2, none⟩) (show _ ≤ sn from gen) (.slice B2 m2 d2))
                have hbs : w8.heap.size = w7.heap.size := by rw [← hw8]; simp [World.setCell]
                replace HB := Lib.hid (And.intro hbb (show _ ≤ w8.heap.size by rw [hbs]; exact HB.out.2))
                clear hbb hbs
                go_wp2
                go_roundw
                case rel => exact ⟨i + 1, g, t + 1, m2, d2, k3, c3, B2, A3, wa, to2, ws2, wo11 (t : Int) L, rfl, by go_num, rfl, by go_num, by omega, by omega, Vn, Rx, Oo, T2, HB⟩
                case measure => simp [intOf]; omega
            · have e2 : decide ((t : Int) < (g : Int)) = false := decide_eq_false (by omega)
              have e2n : decide (t < g) = false := decide_eq_false (by omega)
              have he := TT.out.none (by omega)
              have cO := Lib.hid (show ∀ W, Rw w W B m d ws → Calls Try.prog 18 #[.agg #[.int .u32 wa, .int .u32 to, .slice B m d]] W (OAs w W wa to ws 0 7) from fun W h => oneAs h (by have := HM.out; omega) TT.out.nb he)
              clear he h2 htg hg60
              have cn0 : wr.cell? ⟨sn, 0, none⟩ = some (.int .u32 wa) := (blk_cell Vn.out 0).trans rfl
              have cn1 : wr.cell? ⟨sn, 1, none⟩ = some (.int .u32 to) := (blk_cell Vn.out 1).trans rfl
              have cn2 : wr.cell? ⟨sn, 2, none⟩ = some (.slice B m d) := (blk_cell Vn.out 2).trans rfl
              go_wp2_with fail
              refine (cO.out _ Rn.out).mono ?_
              rintro e w3 ⟨B2, m2, d2, rfl, hrs, hb⟩
              clear cn0 cn1 cn2
              replace Vn := Lib.hid (blk_below Vn.out hb (blk_lt Vn.out))
              replace Rn := Lib.hid (Ro.below Rn.out hb)
              replace Oo := Lib.hid (own_below Oo.out hb)
              replace HB := Lib.hid (And.intro (HB.out.1.trans (hb.mono HB.out.2)) (Nat.le_trans HB.out.2 hb.size))
              have Rx := Lib.hid hrs
              clear hrs
              clear hb
              have ltn := blk_lt Vn.out
              have gq := HB.out.2
              obtain ⟨w4, hw4⟩ : ∃ W, (w3.alloc (.cells #[.int .u32 wa, .int .u32 to, .slice B2 m2 d2] 25)) = W := ⟨_, rfl⟩
              have hb : Below w3.heap.size w3 w4 := hw4 ▸ ((Below.refl _ _).alloc (Nat.le_refl _) _)
              have hv0 : w4.heap[w3.heap.size]? = some (.cells #[.int .u32 wa, .int .u32 to, .slice B2 m2 d2] 25) := by
                have h0 := heap_alloc_new w3 (.cells #[.int .u32 wa, .int .u32 to, .slice B2 m2 d2] 25)
                rw [show w3.heap.size = w3.heap.size by simp [Nat.add_assoc]] at h0
                rw [← hw4]
                exact h0
              replace Vn := Lib.hid (blk_below Vn.out hb (blk_lt Vn.out))
              replace Rn := Lib.hid (Ro.below Rn.out hb)
              replace Rx := Lib.hid (Ro.below Rx.out hb)
              replace Oo := Lib.hid (own_below Oo.out hb)
              replace HB := Lib.hid (And.intro (HB.out.1.trans (hb.mono HB.out.2)) (Nat.le_trans HB.out.2 hb.size))
              have Vx := Lib.hid hv0
              have nen_x := Nat.ne_of_lt ltn
              have gex := gq
              generalize hsx : w3.heap.size = sx at *
              clear hb gq hv0 ltn
              have cx0 : w4.cell? ⟨sx, 0, none⟩ = some (.int .u32 wa) := (blk_cell Vx.out 0).trans rfl
              have cx1 : w4.cell? ⟨sx, 1, none⟩ = some (.int .u32 to) := (blk_cell Vx.out 1).trans rfl
              have cx2 : w4.cell? ⟨sx, 2, none⟩ = some (.slice B2 m2 d2) := (blk_cell Vx.out 2).trans rfl
              have pcn0 : w4.cell? ⟨sn, 0, none⟩ = some (.int .u32 wa) := (blk_cell Vn.out 0).trans rfl
              have pfn0 : w4.frozen? ⟨sn, 0, none⟩ = false := blk_frozen Vn.out 0
              have pcn1 : w4.cell? ⟨sn, 1, none⟩ = some (.int .u32 to) := (blk_cell Vn.out 1).trans rfl
              have pfn1 : w4.frozen? ⟨sn, 1, none⟩ = false := blk_frozen Vn.out 1
              have pcn2 : w4.cell? ⟨sn, 2, none⟩ = some (.slice B m d) := (blk_cell Vn.out 2).trans rfl
              have pfn2 : w4.frozen? ⟨sn, 2, none⟩ = false := blk_frozen Vn.out 2
              obtain ⟨w5, hw5⟩ : ∃ W, (((w4.setCell ⟨sn, 0, none⟩ (.int .u32 wa)).setCell ⟨sn, 1, none⟩ (.int .u32 to)).setCell ⟨sn, 2, none⟩ (.slice B2 m2 d2)) = W := ⟨_, rfl⟩
              replace Rn := Lib.hid (hw5 ▸ (((Rn.out.set (o := 0) (u := .int .u32 wa) Vn.out (by decide) gen).set (o := 1) (u := .int .u32 to) (blk_set (j := 0) Vn.out (.int .u32 wa)) (by decide) gen).set (o := 2) (u := .slice B2 m2 d2) (blk_set (j := 1) (blk_set (j := 0) Vn.out (.int .u32 wa)) (.int .u32 to)) (by decide) gen))
              replace Rx := Lib.hid (hw5 ▸ (((Rx.out.set (o := 0) (u := .int .u32 wa) Vn.out (by decide) gen).set (o := 1) (u := .int .u32 to) (blk_set (j := 0) Vn.out (.int .u32 wa)) (by decide) gen).set (o := 2) (u := .slice B2 m2 d2) (blk_set (j := 1) (blk_set (j := 0) Vn.out (.int .u32 wa)) (.int .u32 to)) (by decide) gen))
              replace Oo := Lib.hid (hw5 ▸ (own_set (o := 2) (u := .slice B2 m2 d2) (own_set (o := 1) (u := .int .u32 to) (own_set (o := 0) (u := .int .u32 wa) Oo.out Vn.out (by decide)) (blk_set (j := 0) Vn.out (.int .u32 wa)) (by decide)) (blk_set (j := 1) (blk_set (j := 0) Vn.out (.int .u32 wa)) (.int .u32 to)) (by decide)))
              have Vx2 := ((Below.heap_setCell _ ⟨sn, 2, none⟩ (.slice B2 m2 d2) sx nen_x.symm).trans ((Below.heap_setCell _ ⟨sn, 1, none⟩ (.int .u32 to) sx nen_x.symm).trans ((Below.heap_setCell _ ⟨sn, 0, none⟩ (.int .u32 wa) sx nen_x.symm).trans Vx.out)))
              have Vn2 := (blk_set (j := 2) (blk_set (j := 1) (blk_set (j := 0) Vn.out (.int .u32 wa)) (.int .u32 to)) (.slice B2 m2 d2))
              replace Vn := Lib.hid (show w5.heap[sn]? = some (.cells #[.int .u32 wa, .int .u32 to, .slice B2 m2 d2] 25) from hw5 ▸ Vn2)
              clear Vn2
              replace Vx := Lib.hid (show w5.heap[sx]? = some (.cells #[.int .u32 wa, .int .u32 to, .slice B2 m2 d2] 25) from hw5 ▸ Vx2)
              clear Vx2
              have hbb : Below _ _ w5 := hw5 ▸ (Below.setCell (Below.setCell (Below.setCell HB.out.1 (p := ⟨sn, 0, none⟩) (show _ ≤ sn from gen) (.int .u32 wa)) (p := ⟨sn, 1, none⟩) (show _ ≤ sn from gen) (.int .u32 to)) (p := ⟨sn, 2, none⟩) (show _ ≤ sn from gen) (.slice B2 m2 d2))
              have hbs : w5.heap.size = w4.heap.size := by rw [← hw5]; simp [World.setCell]
              replace HB := Lib.hid (And.intro hbb (show _ ≤ w5.heap.size by rw [hbs]; exact HB.out.2))
              clear hbb hbs
              go_wp2
              go_roundw
              case rel => exact ⟨i + 1, g, t, m2, d2, k, f, B2, C, wa, to, ws, L, rfl, rfl, rfl, by go_num, by omega, by omega, Vn, Rx, Oo, TT, HB⟩
              case measure => simp [intOf]; omega
      · have c1 : decide ((i : Int) < (n : Int)) = false := by simp; omega
        have c1n : decide (i < n) = false := by simp; omega
        have cL := Lib.hid (show ∀ W, Rw w W B m d ws → Calls Try.prog 20 #[.agg #[.int .u32 wa, .int .u32 to, .slice B m d]] W (LAs w W wa wa [] L 0) from fun W h => allAs h (by have := HM.out; omega) TT.out.nb TT.out.all)
        have cR := Lib.hid (show ∀ W, Rw w W B m d ws → Calls Try.prog 14 #[.agg #[.int .u32 wa, .int .u32 to, .slice B m d]] W (YesN W true) from fun W h => right11As h (by have := HM.out; omega) TT.out.nb TT.out.right)
        have cI := Lib.hid (show ∀ (xs : List Int) (A B : Option Addr) (n c m d : Nat) W, Is W A n c xs → Is W B m d xs → xs.length ≤ 70 → Calls Try.prog 22 #[.slice A n c, .slice B m d] W (YesN W true) from fun xs A B n c m d W h1 h2 h3 => by have h := refInts_any A n c xs B m d xs W h1 h2 (by have := Is.len h1; omega); rwa [decide_eq_true rfl] at h)
        have HL7 := Lib.hid (show L.length ≤ 70 from by have := TT.out.len; omega)
        have htg := TT.out.le; have hg60 := TT.out.small
        have hwg : IntKind.u32.wrap (g : Int) = (g : Int) := by rw [IntKind.wrap_u32]; omega
        have hwt : IntKind.u32.wrap (t : Int) = (t : Int) := by rw [IntKind.wrap_u32]; omega
        have hws : IntKind.u32.wrap (fr + (g : Int)) = wa := by rw [TT.out.wa, IntKind.wrap_u32]; rfl
        have hws2 : IntKind.u32.wrap (fr + (t : Int)) = to := by rw [TT.out.to, IntKind.wrap_u32]; rfl
        have e1 : (wa == wa) = true := by simp
        have e2 : (to == to) = true := by simp
        clear hlt hi hgi htg hg60
        have cn0 : wr.cell? ⟨sn, 0, none⟩ = some (.int .u32 wa) := (blk_cell Vn.out 0).trans rfl
        have cn1 : wr.cell? ⟨sn, 1, none⟩ = some (.int .u32 to) := (blk_cell Vn.out 1).trans rfl
        have cn2 : wr.cell? ⟨sn, 2, none⟩ = some (.slice B m d) := (blk_cell Vn.out 2).trans rfl
        go_wp2_with fail
        refine (cL.out _ Rn.out).mono ?_
        rintro e w3 ⟨B2, m2, d2, C2, k2, f2, rfl, hrs, his, hb⟩
        clear cn0 cn1 cn2
        replace Vn := Lib.hid (blk_below Vn.out hb (blk_lt Vn.out))
        replace Rn := Lib.hid (Ro.below Rn.out hb)
        replace Oo := Lib.hid (own_below Oo.out hb)
        replace HB := Lib.hid (And.intro (HB.out.1.trans (hb.mono HB.out.2)) (Nat.le_trans HB.out.2 hb.size))
        have Rx := Lib.hid hrs
        clear hrs
        clear hb
        have I1 := Lib.hid his
        clear his
        have ltn := blk_lt Vn.out
        have gq := HB.out.2
        obtain ⟨w4, hw4⟩ : ∃ W, (w3.alloc (.cells #[.int .u32 wa, .int .u32 wa, .slice B2 m2 d2] 25)) = W := ⟨_, rfl⟩
        have hb : Below w3.heap.size w3 w4 := hw4 ▸ ((Below.refl _ _).alloc (Nat.le_refl _) _)
        have hv0 : w4.heap[w3.heap.size]? = some (.cells #[.int .u32 wa, .int .u32 wa, .slice B2 m2 d2] 25) := by
          have h0 := heap_alloc_new w3 (.cells #[.int .u32 wa, .int .u32 wa, .slice B2 m2 d2] 25)
          rw [show w3.heap.size = w3.heap.size by simp [Nat.add_assoc]] at h0
          rw [← hw4]
          exact h0
        replace Vn := Lib.hid (blk_below Vn.out hb (blk_lt Vn.out))
        replace Rn := Lib.hid (Ro.below Rn.out hb)
        replace Rx := Lib.hid (Ro.below Rx.out hb)
        replace I1 := Lib.hid (Es.below I1.out hb)
        replace Oo := Lib.hid (own_below Oo.out hb)
        replace HB := Lib.hid (And.intro (HB.out.1.trans (hb.mono HB.out.2)) (Nat.le_trans HB.out.2 hb.size))
        have Vx := Lib.hid hv0
        have nen_x := Nat.ne_of_lt ltn
        have gex := gq
        generalize hsx : w3.heap.size = sx at *
        clear hb gq hv0 ltn
        have cn0 : w4.cell? ⟨sn, 0, none⟩ = some (.int .u32 wa) := (blk_cell Vn.out 0).trans rfl
        have cn1 : w4.cell? ⟨sn, 1, none⟩ = some (.int .u32 to) := (blk_cell Vn.out 1).trans rfl
        have cn2 : w4.cell? ⟨sn, 2, none⟩ = some (.slice B m d) := (blk_cell Vn.out 2).trans rfl
        go_wp2_with fail
        refine (cR.out _ Rn.out).mono ?_
        rintro e w5 ⟨rfl, hb⟩
        clear cn0 cn1 cn2
        replace Vn := Lib.hid (blk_below Vn.out hb (blk_lt Vn.out))
        replace Vx := Lib.hid (blk_below Vx.out hb (blk_lt Vx.out))
        replace Rn := Lib.hid (Ro.below Rn.out hb)
        replace Rx := Lib.hid (Ro.below Rx.out hb)
        replace I1 := Lib.hid (Es.below I1.out hb)
        replace Oo := Lib.hid (own_below Oo.out hb)
        replace HB := Lib.hid (And.intro (HB.out.1.trans (hb.mono HB.out.2)) (Nat.le_trans HB.out.2 hb.size))
        clear hb
        go_wp2_with fail
        refine (cI.out _ _ _ _ _ _ _ _ I1.out (is_own11 Oo.out) HL7.out).mono ?_
        rintro e w6 ⟨rfl, hb⟩
        replace Vn := Lib.hid (blk_below Vn.out hb (blk_lt Vn.out))
        replace Vx := Lib.hid (blk_below Vx.out hb (blk_lt Vx.out))
        replace Rn := Lib.hid (Ro.below Rn.out hb)
        replace Rx := Lib.hid (Ro.below Rx.out hb)
        replace I1 := Lib.hid (Es.below I1.out hb)
        replace Oo := Lib.hid (own_below Oo.out hb)
        replace HB := Lib.hid (And.intro (HB.out.1.trans (hb.mono HB.out.2)) (Nat.le_trans HB.out.2 hb.size))
        clear hb
        have cx0 : w6.cell? ⟨sx, 0, none⟩ = some (.int .u32 wa) := (blk_cell Vx.out 0).trans rfl
        have cx1 : w6.cell? ⟨sx, 1, none⟩ = some (.int .u32 wa) := (blk_cell Vx.out 1).trans rfl
        have cx2 : w6.cell? ⟨sx, 2, none⟩ = some (.slice B2 m2 d2) := (blk_cell Vx.out 2).trans rfl
        have cn0 : w6.cell? ⟨sn, 0, none⟩ = some (.int .u32 wa) := (blk_cell Vn.out 0).trans rfl
        have cn1 : w6.cell? ⟨sn, 1, none⟩ = some (.int .u32 to) := (blk_cell Vn.out 1).trans rfl
        have cn2 : w6.cell? ⟨sn, 2, none⟩ = some (.slice B m d) := (blk_cell Vn.out 2).trans rfl
        go_wp2
        go_ret
        exact ⟨rfl, HB.out.1⟩
end Go.Proofs.Ytjpgmkbcjedhfaa
