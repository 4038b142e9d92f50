/- What the landed timer's own Push, Pop and Drop answer; for lists of up to 16384. -/
import Derived.Test.YtehpfpphpffniaaTimLB
import Derived.Test.YtehpfpphpffniaaTimLD
import Derived.Test.YtehpfpphpffniaaTimK
namespace Go.Proofs.Ytehpfpphpffniaa
set_option linter.unusedVariables false
set_option linter.unusedSimpArgs false
open Go.RowKit
set_option maxRecDepth 100000 in
set_option maxHeartbeats 8000000 in
theorem tmPushL (A : Option Addr) (n c : Nat) (h : List Tm) (x0 x1 : Int) (w : World) (hx : Tms w A n c h) (hn : n ≤ 16384) :
    Calls Try.prog 9 #[.slice A n c, .agg #[.int .i64 x0, .int .i64 x1]] w (HW w (pushH h (x0, x1)).1 (pushH h (x0, x1)).2) := by
  have hlen : h.length = n := hx.len
  have RX := Lib.hid hx
  have RT := fun (W : World) (hw : Tms W A n c h) => tmRightL A n c h W hw hn
  have CP := Lib.hid (fun (W : World) (hw : Tms W A n c h) => copied12_any A n c h W hw hn)
  have MB := fun (W : World) => may12_any x0 x1 W
  obtain ⟨R, hR⟩ : ∃ R, pushH h (x0, x1) = R := ⟨_, rfl⟩
  rw [hR]
  obtain ⟨v1, hv1⟩ : ∃ W, w.alloc (.cells #[.int .i64 x0, .int .i64 x1] 24) = W := ⟨_, rfl⟩
  have fr1 : Fr w v1 w.heap.size [.cells #[.int .i64 x0, .int .i64 x1] 24] := hv1 ▸ Fr.first w _
  have z1 : v1.heap.size = w.heap.size + 1 := by rw [← hv1, Fr.size1]
  generalize hq : w.heap.size = q at *
  have FR := Lib.hid fr1
  clear fr1
  have hsz0 := z1
  cases hr : rightH h
  · rw [hr] at RT
    replace RT := Lib.hid RT
    have HE := Lib.hid (show R = (h, 1) by rw [← hR]; unfold pushH; rw [if_pos (Or.inl hr)])
    clear hr hR hlen hx
    go_enter Try.func9, Try.ntmps9
    have c00 : v1.cell? ⟨q, 0, none⟩ = some (.int .i64 x0) := FR.out.cell 0 0 rfl rfl rfl
    have c01 : v1.cell? ⟨q, 1, none⟩ = some (.int .i64 x1) := FR.out.cell 0 1 rfl rfl rfl
    go_wp2_with fail
    refine ((CP.out _ (FR.out.es RX.out))).mono ?_
    rintro e w2 ⟨B, d, rfl, hown, hb⟩
    clear c00 c01
    replace FR := Lib.hid (FR.out.step hb)
    clear hb
    have OW := Lib.hid (own_base hown (show q ≤ _ from by first | exact Nat.le_of_eq hsz0.symm | (rw [hsz0]; omega)))
    clear hown
    have c00 : w2.cell? ⟨q, 0, none⟩ = some (.int .i64 x0) := FR.out.cell 0 0 rfl rfl rfl
    have c01 : w2.cell? ⟨q, 1, none⟩ = some (.int .i64 x1) := FR.out.cell 0 1 rfl rfl rfl
    go_wp2_with fail
    refine ((RT.out _ (FR.out.es RX.out))).mono ?_
    rintro e w3 ⟨rfl, hb⟩
    clear c00 c01
    replace FR := Lib.hid (FR.out.step hb)
    replace OW := Lib.hid (own_below OW.out hb)
    clear hb
    go_wp2
    go_ret2
    rw [HE.out]
    exact ⟨B, n, d, rfl, tms_own OW.out, FR.out.out⟩
  · rw [hr] at RT
    replace RT := Lib.hid RT
    have HN12 := Lib.hid (show n ≤ 12 from by have := (rt_iff.1 hr).len; omega)
    by_cases h1 : 0 ≤ x0 ∧ 0 ≤ x1
    · rw [decide_eq_true h1] at MB
      replace MB := Lib.hid MB
      have hRE : R = if 0 ≤ placeH h x1 then (h, 8) else if 12 ≤ n then (h, 6) else (upT (n + 1) (h ++ [(x0, x1)]) n, 0) := by rw [← hR]; unfold pushH; rw [if_neg (by rw [hr]; simp; omega)]; simp only; rw [hlen]
      have HRE := Lib.hid hRE
      clear hr hR hlen hx h1 hRE
      go_enter Try.func9, Try.ntmps9
      have c00 : v1.cell? ⟨q, 0, none⟩ = some (.int .i64 x0) := FR.out.cell 0 0 rfl rfl rfl
      have c01 : v1.cell? ⟨q, 1, none⟩ = some (.int .i64 x1) := FR.out.cell 0 1 rfl rfl rfl
      go_wp2_with fail
      refine ((CP.out _ (FR.out.es RX.out))).mono ?_
      rintro e w2 ⟨B, d, rfl, hown, hb⟩
      clear c00 c01
      replace FR := Lib.hid (FR.out.step hb)
      clear hb
      have OW := Lib.hid (own_base hown (show q ≤ _ from by first | exact Nat.le_of_eq hsz0.symm | (rw [hsz0]; omega)))
      clear hown
      have c00 : w2.cell? ⟨q, 0, none⟩ = some (.int .i64 x0) := FR.out.cell 0 0 rfl rfl rfl
      have c01 : w2.cell? ⟨q, 1, none⟩ = some (.int .i64 x1) := FR.out.cell 0 1 rfl rfl rfl
      go_wp2_with fail
      refine ((RT.out _ (FR.out.es RX.out))).mono ?_
      rintro e w3 ⟨rfl, hb⟩
      clear c00 c01
      replace FR := Lib.hid (FR.out.step hb)
      replace OW := Lib.hid (own_below OW.out hb)
      clear hb
      have c00 : w3.cell? ⟨q, 0, none⟩ = some (.int .i64 x0) := FR.out.cell 0 0 rfl rfl rfl
      have c01 : w3.cell? ⟨q, 1, none⟩ = some (.int .i64 x1) := FR.out.cell 0 1 rfl rfl rfl
      go_wp2_with fail
      refine ((MB.out _)).mono ?_
      rintro e w4 ⟨rfl, hb⟩
      clear c00 c01
      replace FR := Lib.hid (FR.out.step hb)
      replace OW := Lib.hid (own_below OW.out hb)
      clear hb
      have c00 : w4.cell? ⟨q, 0, none⟩ = some (.int .i64 x0) := FR.out.cell 0 0 rfl rfl rfl
      have c01 : w4.cell? ⟨q, 1, none⟩ = some (.int .i64 x1) := FR.out.cell 0 1 rfl rfl rfl
      go_wp2_with fail
      refine ((tmTask_any x1 _)).mono ?_
      rintro e w5 ⟨b, rfl, hvb, hbb0, hb⟩
      clear c00 c01
      replace FR := Lib.hid (FR.out.step hb)
      replace OW := Lib.hid (own_below OW.out hb)
      clear hb
      have VB := Lib.hid hvb
      clear hvb hbb0
      have c00 : w5.cell? ⟨q, 0, none⟩ = some (.int .i64 x0) := FR.out.cell 0 0 rfl rfl rfl
      have c01 : w5.cell? ⟨q, 1, none⟩ = some (.int .i64 x1) := FR.out.cell 0 1 rfl rfl rfl
      go_wp2_with fail
      refine ((tmTaskContains_any A n c h b x1 _ (FR.out.es RX.out) VB.out hn)).mono ?_
      rintro e w6 ⟨y, rfl, hy, hb⟩
      clear c00 c01
      replace FR := Lib.hid (FR.out.step hb)
      replace OW := Lib.hid (own_below OW.out hb)
      clear hb
      have HY := Lib.hid (hy.trans anyT_iff)
      clear hy VB
      cases y
      · have hRE := HRE.out
        rw [if_neg (fun h5 => by have h6 := HY.out.2 h5; cases h6)] at hRE
        by_cases h4 : 12 ≤ n
        · have e12 : n = 12 := by have := HN12.out; omega
          have c4 : ((n : Int) == 12) = true := by simp [e12]
          have c4n : (n == 12) = true := by simp [e12]
          rw [if_pos h4] at hRE
          have HE := Lib.hid hRE
          clear hRE h4 e12
          go_wp2
          go_ret2
          rw [HE.out]
          exact ⟨B, n, d, rfl, tms_own OW.out, FR.out.out⟩
        · have c4 : ((n : Int) == 12) = false := by simp; omega
          have c4n : (n == 12) = false := by simp; omega
          rw [if_neg h4] at hRE
          have HE := Lib.hid hRE
          clear hRE h4
          have n12 : n ≤ 12 := HN12.out
          have WT := Lib.hid (with12_any q n d B h x0 x1 w6 OW.out (by omega) (by have h5 := FR.out.sz; simp only [List.length_cons, List.length_nil] at h5; omega))
          have c00 : w6.cell? ⟨q, 0, none⟩ = some (.int .i64 x0) := FR.out.cell 0 0 rfl rfl rfl
          have c01 : w6.cell? ⟨q, 1, none⟩ = some (.int .i64 x1) := FR.out.cell 0 1 rfl rfl rfl
          go_wp2_with fail
          refine WT.out.mono ?_
          rintro e w9 ⟨B9, d9, rfl, hown9, hb9⟩
          have OW9 := Lib.hid hown9; have HB9 := Lib.hid hb9
          clear hown9 hb9 WT
          clear c00 c01
          go_wp2
          go_ret2
          rw [HE.out]
          exact ⟨B9, n + 1, d9, rfl, tms_own OW9.out, by rw [hq]; exact FR.out.bel.trans HB9.out⟩
      · have hRE := HRE.out
        rw [if_pos (HY.out.1 rfl)] at hRE
        have HE := Lib.hid hRE
        clear hRE
        go_wp2
        go_ret2
        rw [HE.out]
        exact ⟨B, n, d, rfl, tms_own OW.out, FR.out.out⟩
    · rw [decide_eq_false h1] at MB
      replace MB := Lib.hid MB
      have HE := Lib.hid (show R = (h, 1) by rw [← hR]; unfold pushH; rw [if_pos (by simp only; omega)])
      clear hr hR hlen hx h1
      go_enter Try.func9, Try.ntmps9
      have c00 : v1.cell? ⟨q, 0, none⟩ = some (.int .i64 x0) := FR.out.cell 0 0 rfl rfl rfl
      have c01 : v1.cell? ⟨q, 1, none⟩ = some (.int .i64 x1) := FR.out.cell 0 1 rfl rfl rfl
      go_wp2_with fail
      refine ((CP.out _ (FR.out.es RX.out))).mono ?_
      rintro e w2 ⟨B, d, rfl, hown, hb⟩
      clear c00 c01
      replace FR := Lib.hid (FR.out.step hb)
      clear hb
      have OW := Lib.hid (own_base hown (show q ≤ _ from by first | exact Nat.le_of_eq hsz0.symm | (rw [hsz0]; omega)))
      clear hown
      have c00 : w2.cell? ⟨q, 0, none⟩ = some (.int .i64 x0) := FR.out.cell 0 0 rfl rfl rfl
      have c01 : w2.cell? ⟨q, 1, none⟩ = some (.int .i64 x1) := FR.out.cell 0 1 rfl rfl rfl
      go_wp2_with fail
      refine ((RT.out _ (FR.out.es RX.out))).mono ?_
      rintro e w3 ⟨rfl, hb⟩
      clear c00 c01
      replace FR := Lib.hid (FR.out.step hb)
      replace OW := Lib.hid (own_below OW.out hb)
      clear hb
      have c00 : w3.cell? ⟨q, 0, none⟩ = some (.int .i64 x0) := FR.out.cell 0 0 rfl rfl rfl
      have c01 : w3.cell? ⟨q, 1, none⟩ = some (.int .i64 x1) := FR.out.cell 0 1 rfl rfl rfl
      go_wp2_with fail
      refine ((MB.out _)).mono ?_
      rintro e w4 ⟨rfl, hb⟩
      clear c00 c01
      replace FR := Lib.hid (FR.out.step hb)
      replace OW := Lib.hid (own_below OW.out hb)
      clear hb
      go_wp2
      go_ret2
      rw [HE.out]
      exact ⟨B, n, d, rfl, tms_own OW.out, FR.out.out⟩
set_option maxRecDepth 100000 in
set_option maxHeartbeats 8000000 in
theorem tmPopL (A : Option Addr) (n c : Nat) (h : List Tm) (w : World) (hx : Tms w A n c h) (hn : n ≤ 16384) :
    Calls Try.prog 11 #[.slice A n c] w (PW w (popH h).1 (popH h).2.1.1 (popH h).2.1.2 (popH h).2.2) := by
  have hlen : h.length = n := hx.len
  have RX := Lib.hid hx
  have RT := fun (W : World) (hw : Tms W A n c h) => tmRightL A n c h W hw hn
  have CP := Lib.hid (fun (W : World) (hw : Tms W A n c h) => copied12_any A n c h W hw hn)
  obtain ⟨R, hR⟩ : ∃ R, popH h = R := ⟨_, rfl⟩
  rw [hR]
  obtain ⟨v1, hv1⟩ : ∃ W, w.alloc (.cells #[.int .i64 0, .int .i64 0] 24) = W := ⟨_, rfl⟩
  have fr1 : Fr w v1 w.heap.size [.cells #[.int .i64 0, .int .i64 0] 24] := hv1 ▸ Fr.first w _
  have z1 : v1.heap.size = w.heap.size + 1 := by rw [← hv1, Fr.size1]
  generalize hq : w.heap.size = q at *
  have FR := Lib.hid fr1
  clear fr1
  have hsz0 := z1
  cases hr : rightH h
  · rw [hr] at RT
    replace RT := Lib.hid RT
    have HE := Lib.hid (show R = (h, (0, 0), 1) by rw [← hR]; unfold popH; rw [if_pos hr])
    clear hr hR hlen hx
    go_enter Try.func11, Try.ntmps11
    have c00 : v1.cell? ⟨q, 0, none⟩ = some (.int .i64 0) := FR.out.cell 0 0 rfl rfl rfl
    have c01 : v1.cell? ⟨q, 1, none⟩ = some (.int .i64 0) := FR.out.cell 0 1 rfl rfl rfl
    go_wp2_with fail
    refine ((CP.out _ (FR.out.es RX.out))).mono ?_
    rintro e w2 ⟨B, d, rfl, hown, hb⟩
    clear c00 c01
    replace FR := Lib.hid (FR.out.step hb)
    clear hb
    have OW := Lib.hid (own_base hown (show q + 1 ≤ _ from by first | exact Nat.le_of_eq hsz0.symm | (rw [hsz0]; omega)))
    clear hown
    have c00 : w2.cell? ⟨q, 0, none⟩ = some (.int .i64 0) := FR.out.cell 0 0 rfl rfl rfl
    have c01 : w2.cell? ⟨q, 1, none⟩ = some (.int .i64 0) := FR.out.cell 0 1 rfl rfl rfl
    go_wp2_with fail
    refine ((RT.out _ (FR.out.es RX.out))).mono ?_
    rintro e w3 ⟨rfl, hb⟩
    clear c00 c01
    replace FR := Lib.hid (FR.out.step hb)
    replace OW := Lib.hid (own_below OW.out hb)
    clear hb
    have c00 : w3.cell? ⟨q, 0, none⟩ = some (.int .i64 0) := FR.out.cell 0 0 rfl rfl rfl
    have f00 : w3.frozen? ⟨q, 0, none⟩ = false := FR.out.frozen 0 0 rfl rfl
    have c01 : w3.cell? ⟨q, 1, none⟩ = some (.int .i64 0) := FR.out.cell 0 1 rfl rfl rfl
    have f01 : w3.frozen? ⟨q, 1, none⟩ = false := FR.out.frozen 0 1 rfl rfl
    go_wp2
    have FZ : Fr w ((w3.setCell ⟨q, 0, none⟩ (.int .i64 0)).setCell ⟨q, 1, none⟩ (.int .i64 0)) q [.cells #[.int .i64 0, .int .i64 0] 24] := ((FR.out.set 0 0 rfl rfl (.int .i64 0)).set 0 1 rfl rfl (.int .i64 0))
    refine bodyPost_ret (res_scs Try.results11 (by rfl) (FZ.load 0 rfl rfl Try.underlying24 (by kernel_rfl))) rfl ?_
    rw [HE.out]
    have hrs := own_apart (own_apart (OW.out) (k := q) (o := 0) (u := .int .i64 0) (by omega)) (k := q) (o := 1) (u := .int .i64 0) (by omega)
    exact ⟨_, _, _, rfl, tms_own hrs, FZ.out⟩
  · rw [hr] at RT
    replace RT := Lib.hid RT
    by_cases h1 : n = 0
    · have c1 : ((n : Int) == 0) = true := by simpa using h1
      have c1n : (n == 0) = true := by simpa using h1
      have HE := Lib.hid (show R = (h, (0, 0), 7) by rw [← hR]; unfold popH; rw [if_neg (by rw [hr]; simp), if_pos (List.eq_nil_of_length_eq_zero (by omega))])
      clear hr hR hlen hx h1
      go_enter Try.func11, Try.ntmps11
      have c00 : v1.cell? ⟨q, 0, none⟩ = some (.int .i64 0) := FR.out.cell 0 0 rfl rfl rfl
      have c01 : v1.cell? ⟨q, 1, none⟩ = some (.int .i64 0) := FR.out.cell 0 1 rfl rfl rfl
      go_wp2_with fail
      refine ((CP.out _ (FR.out.es RX.out))).mono ?_
      rintro e w2 ⟨B, d, rfl, hown, hb⟩
      clear c00 c01
      replace FR := Lib.hid (FR.out.step hb)
      clear hb
      have OW := Lib.hid (own_base hown (show q + 1 ≤ _ from by first | exact Nat.le_of_eq hsz0.symm | (rw [hsz0]; omega)))
      clear hown
      have c00 : w2.cell? ⟨q, 0, none⟩ = some (.int .i64 0) := FR.out.cell 0 0 rfl rfl rfl
      have c01 : w2.cell? ⟨q, 1, none⟩ = some (.int .i64 0) := FR.out.cell 0 1 rfl rfl rfl
      go_wp2_with fail
      refine ((RT.out _ (FR.out.es RX.out))).mono ?_
      rintro e w3 ⟨rfl, hb⟩
      clear c00 c01
      replace FR := Lib.hid (FR.out.step hb)
      replace OW := Lib.hid (own_below OW.out hb)
      clear hb
      have c00 : w3.cell? ⟨q, 0, none⟩ = some (.int .i64 0) := FR.out.cell 0 0 rfl rfl rfl
      have f00 : w3.frozen? ⟨q, 0, none⟩ = false := FR.out.frozen 0 0 rfl rfl
      have c01 : w3.cell? ⟨q, 1, none⟩ = some (.int .i64 0) := FR.out.cell 0 1 rfl rfl rfl
      have f01 : w3.frozen? ⟨q, 1, none⟩ = false := FR.out.frozen 0 1 rfl rfl
      go_wp2
      have FZ : Fr w ((w3.setCell ⟨q, 0, none⟩ (.int .i64 0)).setCell ⟨q, 1, none⟩ (.int .i64 0)) q [.cells #[.int .i64 0, .int .i64 0] 24] := ((FR.out.set 0 0 rfl rfl (.int .i64 0)).set 0 1 rfl rfl (.int .i64 0))
      refine bodyPost_ret (res_scs Try.results11 (by rfl) (FZ.load 0 rfl rfl Try.underlying24 (by kernel_rfl))) rfl ?_
      rw [HE.out]
      have hrs := own_apart (own_apart (OW.out) (k := q) (o := 0) (u := .int .i64 0) (by omega)) (k := q) (o := 1) (u := .int .i64 0) (by omega)
      exact ⟨_, _, _, rfl, tms_own hrs, FZ.out⟩
    · have c1 : ((n : Int) == 0) = false := by simp; omega
      have c1n : (n == 0) = false := by simp; omega
      have n0 : (0 : Int) < (n : Int) := by omega
      have n0n : 0 < n := by omega
      have hne : h ≠ [] := fun h5 => by rw [h5] at hlen; simp at hlen; omega
      obtain ⟨⟨tw, tk⟩, ht⟩ : ∃ x, tmAt h 0 = x := ⟨_, rfl⟩
      have HE := Lib.hid (show R = (wioT h 0, (tw, tk), 0) by rw [← hR]; unfold popH; rw [if_neg (by rw [hr]; simp), if_neg hne, ht])
      obtain ⟨b, off, rfl, hb0, k0, k1⟩ := hx.look 0 (by omega)
      rw [ht] at k0 k1
      simp only [Nat.zero_mul, Nat.add_zero] at k0 k1
      have HB0 := Lib.hid (show b < q by omega)
      have K0 := Lib.hid k0; have K1 := Lib.hid k1
      have HN := Lib.hid n0n
      clear hr hR hlen hx h1 hne ht hb0 k0 k1
      go_enter Try.func11, Try.ntmps11
      have c00 : v1.cell? ⟨q, 0, none⟩ = some (.int .i64 0) := FR.out.cell 0 0 rfl rfl rfl
      have c01 : v1.cell? ⟨q, 1, none⟩ = some (.int .i64 0) := FR.out.cell 0 1 rfl rfl rfl
      go_wp2_with fail
      refine ((CP.out _ (FR.out.es RX.out))).mono ?_
      rintro e w2 ⟨B, d, rfl, hown, hb⟩
      clear c00 c01
      replace FR := Lib.hid (FR.out.step hb)
      clear hb
      have OW := Lib.hid (own_base hown (show q + 1 ≤ _ from by first | exact Nat.le_of_eq hsz0.symm | (rw [hsz0]; omega)))
      clear hown
      have c00 : w2.cell? ⟨q, 0, none⟩ = some (.int .i64 0) := FR.out.cell 0 0 rfl rfl rfl
      have c01 : w2.cell? ⟨q, 1, none⟩ = some (.int .i64 0) := FR.out.cell 0 1 rfl rfl rfl
      go_wp2_with fail
      refine ((RT.out _ (FR.out.es RX.out))).mono ?_
      rintro e w3 ⟨rfl, hb⟩
      clear c00 c01
      replace FR := Lib.hid (FR.out.step hb)
      replace OW := Lib.hid (own_below OW.out hb)
      clear hb
      obtain ⟨g, rfl⟩ := own_some12 OW.out HN.out
      have OWD := Lib.hid (own_below OW.out (Below.refl _ w3).drew)
      go_wp2
      refine wp_region_noPanic ?_
      refine wp_region_held_drew (S := (fun wv => Hid (Below q w3 wv))) (by kernel_rfl) (Lib.hid (Below.refl q w3).drew) (fun hS => ?_)
      refine wpAnyH_take (i := 0) (oi := ⟨some 20, .move (.tmp 5), 44, "timer.go:47", #[], none⟩) (v := ?_) rfl (by kernel_rfl) (by kernel_rfl) (by kernel_rfl) (fun _ _ _ h => h) (Or.inl ⟨by rfl, ?_⟩) hS ?_
      rotate_left
      · intro wv _; go_simp; try with_reducible rfl
      try simp only [Act.put, List.setIfInBounds_toArray, List.set_cons_zero, List.set_cons_succ]
      refine wpAnyH_take (i := 2) (oi := ⟨some 22, .move (.tmp 0), 22, "timer.go:47", #[⟨5, .gcOnly .lateStores⟩], none⟩) (v := ?_) rfl (by kernel_rfl) (by kernel_rfl) (by kernel_rfl) (fun _ _ _ h => h) (Or.inl ⟨by rfl, ?_⟩) hS ?_
      rotate_left
      · intro wv _; go_simp; try with_reducible rfl
      try simp only [Act.put, List.setIfInBounds_toArray, List.set_cons_zero, List.set_cons_succ]
      refine wpAnyH_take (i := 3) (oi := ⟨some 23, .indexAddr 22 (.tmp 22) (.const (Value.int IntKind.i64 0)), 0, "timer.go:47", #[⟨2, .data⟩, ⟨5, .gcOnly .lateStores⟩], none⟩) (v := ?_) rfl (by kernel_rfl) (by kernel_rfl) (by kernel_rfl) (fun _ _ _ h => h) (Or.inl ⟨by rfl, ?_⟩) hS ?_
      rotate_left
      · intro wv _; go_simp; try with_reducible rfl
      try simp only [Act.put, List.setIfInBounds_toArray, List.set_cons_zero, List.set_cons_succ]
      refine wpAnyH_take (i := 4) (oi := ⟨some 24, .load 24 (.tmp 23), 24, "timer.go:47", #[⟨3, .data⟩, ⟨5, .gcOnly .lateStores⟩], none⟩) (v := .agg (([.int .i64 tw, .int .i64 tk] : List Value)).toArray) rfl (by kernel_rfl) (by kernel_rfl) (by kernel_rfl) (fun _ _ _ h => h) (yieldsIf_load_mid (by rfl) _ _ (by rfl) (b) (off) (by rfl) (([.int .i64 tw, .int .i64 tk] : List Value)) _ (fun wv hS => tm_range ((hS.out.cell (p := ⟨b, off, none⟩) HB0.out).trans ((FR.out.bel.cell (p := ⟨b, off, none⟩) HB0.out).trans K0.out)) ((hS.out.cell (p := ⟨b, off + 1, none⟩) HB0.out).trans ((FR.out.bel.cell (p := ⟨b, off + 1, none⟩) HB0.out).trans K1.out))) Try.underlying24 (by rfl) (by kernel_rfl)) hS ?_
      try simp only [Act.put, List.setIfInBounds_toArray, List.set_cons_zero, List.set_cons_succ]
      refine wpAnyH_ready (rs := [1]) (by kernel_rfl) (by simp) (AllReadyH.cons (o := ⟨some 21, .call { callee := .value (.func 31), args := #[.tmp 20, .const (Value.int IntKind.i64 0)], argTypes := #[44, 3] }, 44, "timer.go:47", #[⟨0, .data⟩], none⟩) rfl (fun K hK => ?_) AllReadyH.nil)
      go_simp
      refine (wiout12_any (q + 1) g n d 0 h _ OWD.out hn HN.out).mono ?_; rintro e wa ⟨rfl, hT⟩
      have hsz := FR.out.sz
      simp only [List.length_cons, List.length_nil] at hsz
      replace hS := Lib.hid (hS.out.grown hT.gr (show q ≤ w3.heap.size by omega) (fun k hk => by cases hk; have := hT.ge; omega))
      have OW3 := Lib.hid hT.own
      have FR2 := Lib.hid (show Fr w wa q [.cells #[.int .i64 0, .int .i64 0] 24] from FR.out.drew.grown hT.gr (fun k hk => by cases hk; have := hT.ge; simp only [List.length_cons, List.length_nil]; omega))
      clear hT hsz FR OW OWD
      have FR := FR2
      have OW := OW3
      clear FR2 OW3
      have c00 : wa.cell? ⟨q, 0, none⟩ = some (.int .i64 0) := FR.out.cell 0 0 rfl rfl rfl
      have f00 : wa.frozen? ⟨q, 0, none⟩ = false := FR.out.frozen 0 0 rfl rfl
      have c01 : wa.cell? ⟨q, 1, none⟩ = some (.int .i64 0) := FR.out.cell 0 1 rfl rfl rfl
      have f01 : wa.frozen? ⟨q, 1, none⟩ = false := FR.out.frozen 0 1 rfl rfl
      go_wp2_with fail
      refine Shut.out hK _ _ hS (fun _ => ?_)
      clear hK K
      try simp only [Act.put, List.setIfInBounds_toArray, List.set_cons_zero, List.set_cons_succ]
      refine wpAnyH_take (i := 5) (oi := ⟨some 2, .assign (.tmp 21), 22, "timer.go:47", #[⟨1, .data⟩, ⟨1, .chain⟩, ⟨0, .phase⟩, ⟨1, .phase⟩, ⟨2, .textOnly .lateStores⟩, ⟨3, .textOnly .lateStores⟩, ⟨4, .textOnly .lateStores⟩], none⟩) (v := ?_) rfl (by kernel_rfl) (by kernel_rfl) (by kernel_rfl) (fun _ _ _ h => h) (Or.inl ⟨by rfl, ?_⟩) hS ?_
      rotate_left
      · intro wv _; go_simp; try with_reducible rfl
      try simp only [Act.put, List.setIfInBounds_toArray, List.set_cons_zero, List.set_cons_succ]
      refine wpAnyH_ready (rs := [6]) (by kernel_rfl) (by simp) (AllReadyH.cons (o := ⟨none, .store 24 (.tmp 3) (.tmp 24), 0, "timer.go:47", #[⟨4, .data⟩, ⟨5, .chain⟩, ⟨0, .phase⟩, ⟨1, .phase⟩, ⟨2, .phase⟩, ⟨3, .phase⟩, ⟨4, .phase⟩, ⟨5, .phase⟩], none⟩) rfl (fun K hK => ?_) AllReadyH.nil)
      go_simp
      replace hS := Lib.hid ((hS.out.setCell (by simp) (p := ⟨q, 0, none⟩) (.int .i64 tw)).setCell (by simp) (p := ⟨q, 1, none⟩) (.int .i64 tk))
      refine Shut.out hK _ _ hS (fun _ => ?_)
      clear hK K
      try simp only [Act.put, List.setIfInBounds_toArray, List.set_cons_zero, List.set_cons_succ]
      refine wpAnyH_take (i := 7) (oi := ⟨some 4, .assign (.const (Value.int IntKind.i64 0)), 27, "timer.go:47", #[⟨6, .chain⟩, ⟨0, .phase⟩, ⟨1, .phase⟩, ⟨2, .phase⟩, ⟨3, .phase⟩, ⟨4, .phase⟩, ⟨5, .phase⟩, ⟨6, .phase⟩], none⟩) (v := ?_) rfl (by kernel_rfl) (by kernel_rfl) (by kernel_rfl) (fun _ _ _ h => h) (Or.inl ⟨by rfl, ?_⟩) hS ?_
      rotate_left
      · intro wv _; go_simp; try with_reducible rfl
      try simp only [Act.put, List.setIfInBounds_toArray, List.set_cons_zero, List.set_cons_succ]
      refine wpAnyH_done (by kernel_rfl) ?_ _
      refine NoPanic.normal ?_
      go_wp2
      have FZ : Fr w ((wa.setCell ⟨q, 0, none⟩ (.int .i64 tw)).setCell ⟨q, 1, none⟩ (.int .i64 tk)) q [.cells #[.int .i64 tw, .int .i64 tk] 24] := ((FR.out.set 0 0 rfl rfl (.int .i64 tw)).set 0 1 rfl rfl (.int .i64 tk))
      refine bodyPost_ret (res_scs Try.results11 (by rfl) (FZ.load 0 rfl rfl Try.underlying24 (by kernel_rfl))) rfl ?_
      rw [HE.out]
      have hrs := own_apart (own_apart (OW.out) (k := q) (o := 0) (u := .int .i64 tw) (by omega)) (k := q) (o := 1) (u := .int .i64 tk) (by omega)
      exact ⟨_, _, _, rfl, tms_own hrs, FZ.out⟩
set_option maxRecDepth 100000 in
set_option maxHeartbeats 8000000 in
theorem tmDropL (A : Option Addr) (n c : Nat) (h : List Tm) (k : Int) (w : World) (hx : Tms w A n c h) (hn : n ≤ 16384) :
    Calls Try.prog 13 #[.slice A n c, .int .i64 k] w (HW w (dropH h k).1 (dropH h k).2) := by
  have hlen : h.length = n := hx.len
  have RX := Lib.hid hx
  have RT := fun (W : World) (hw : Tms W A n c h) => tmRightL A n c h W hw hn
  have CP := Lib.hid (fun (W : World) (hw : Tms W A n c h) => copied12_any A n c h W hw hn)
  obtain ⟨R, hR⟩ : ∃ R, dropH h k = R := ⟨_, rfl⟩
  rw [hR]
  cases hr : rightH h
  · rw [hr] at RT
    replace RT := Lib.hid RT
    have HE := Lib.hid (show R = (h, 1) by rw [← hR]; unfold dropH; rw [if_pos hr])
    clear hr hR hlen hx
    go_enter Try.func13, Try.ntmps13
    go_wp2_with fail
    refine (CP.out w RX.out).mono ?_
    rintro e w1 ⟨B, d, rfl, hown, hb⟩
    have OW := Lib.hid hown; have HB := Lib.hid hb
    clear hown hb CP
    go_wp2_with fail
    refine (RT.out w1 (Es.below RX.out HB.out)).mono ?_
    rintro e w2 ⟨rfl, hb⟩
    replace OW := Lib.hid (own_below OW.out hb)
    replace HB := Lib.hid (HB.out.trans (hb.mono HB.out.size))
    clear hb RT
    go_wp2
    go_ret2
    rw [HE.out]
    exact ⟨B, n, d, rfl, tms_own OW.out, HB.out⟩
  · rw [hr] at RT
    replace RT := Lib.hid RT
    have HRE := Lib.hid (show R = if placeH h k < 0 then (h, 7) else (wioT h (placeH h k).toNat, 0) by rw [← hR]; unfold dropH; rw [if_neg (by rw [hr]; simp)])
    have HPL := Lib.hid (fun (h0 : 0 ≤ placeH h k) => (show (placeH h k).toNat < n from hlen ▸ (place_some h0).1))
    clear hr hR hlen hx
    go_enter Try.func13, Try.ntmps13
    go_wp2_with fail
    refine (CP.out w RX.out).mono ?_
    rintro e w1 ⟨B, d, rfl, hown, hb⟩
    have OW := Lib.hid hown; have HB := Lib.hid hb
    clear hown hb CP
    go_wp2_with fail
    refine (RT.out w1 (Es.below RX.out HB.out)).mono ?_
    rintro e w2 ⟨rfl, hb⟩
    replace OW := Lib.hid (own_below OW.out hb)
    replace HB := Lib.hid (HB.out.trans (hb.mono HB.out.size))
    clear hb RT
    go_wp2_with fail
    refine (tmTask_any k w2).mono ?_
    rintro e w3 ⟨b, rfl, hvb, hbb0, hb⟩
    replace OW := Lib.hid (own_below OW.out hb)
    replace HB := Lib.hid (HB.out.trans (hb.mono HB.out.size))
    have VB := Lib.hid hvb
    clear hb hvb hbb0
    go_wp2_with fail
    refine (tmTaskIndex_any A n c h b k w3 (Es.below RX.out HB.out) VB.out hn).mono ?_
    rintro e w4 ⟨x, rfl, hxk, hb⟩
    replace OW := Lib.hid (own_below OW.out hb)
    replace HB := Lib.hid (HB.out.trans (hb.mono HB.out.size))
    have hx2 := idxT_place hxk
    clear hb VB hxk
    rcases hx2 with ⟨hx3, hx4⟩ | ⟨hx3, hx4⟩
    · obtain ⟨i, rfl⟩ : ∃ i : Nat, x = i := ⟨x.toNat, by omega⟩
      have c1 : decide ((i : Int) < 0) = false := by simp
      have hpl := HPL.out (by rw [← hx3]; exact hx4)
      have hRE := HRE.out
      rw [if_neg (by rw [← hx3]; omega), ← hx3, Int.toNat_natCast] at hRE
      rw [← hx3, Int.toNat_natCast] at hpl
      have HE := Lib.hid hRE
      have HIN := Lib.hid hpl
      obtain ⟨g, rfl⟩ := own_some12 OW.out (by omega)
      clear hRE hx3 hx4 hpl HRE HPL
      go_wp2_with fail
      refine (wiout12_any w.heap.size g n d i h w4 OW.out hn HIN.out).mono ?_
      rintro e w5 ⟨rfl, hT⟩
      have HT := Lib.hid hT
      clear hT
      go_wp2
      go_ret2
      rw [HE.out]
      exact ⟨_, _, _, rfl, tms_own HT.out.own, HB.out.grown HT.out.gr HB.out.size (fun k hk => by cases hk; exact HT.out.ge)⟩
    · have c1 : decide (x < 0) = true := by simpa using hx3
      have hRE := HRE.out
      rw [if_pos hx4] at hRE
      have HE := Lib.hid hRE
      clear hRE hx3 hx4 HRE HPL
      go_wp2
      go_ret2
      rw [HE.out]
      exact ⟨B, n, d, rfl, tms_own OW.out, HB.out⟩
end Go.Proofs.Ytehpfpphpffniaa
