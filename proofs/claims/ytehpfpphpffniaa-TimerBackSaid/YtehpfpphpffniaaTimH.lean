/- What the document's own Push of layer 12 answers; for lists of up to 16384. -/
import Derived.Test.YtehpfpphpffniaaTimF
namespace Go.Proofs.Ytehpfpphpffniaa
set_option linter.unusedVariables false
set_option linter.unusedSimpArgs false
open Go.RowKit
theorem lit_tm {w : World} {x y : Int} : Es (w.alloc (.cells #[.int .i64 x, .int .i64 y] 24)) (some ⟨w.heap.size, 0, none⟩) 1 1 2 (tmC [(x, y)]) := Es.new_ w 24 (tmC [(x, y)]) (tmC_one _) rfl
set_option maxRecDepth 100000 in
set_option maxHeartbeats 8000000 in
theorem refPush12_any (A : Option Addr) (n c : Nat) (h : List Tm) (x0 x1 : Int) (w : World) (hx : Tms w A n c h) (hn : n ≤ 16384) :
    Calls Try.prog 10 #[.slice A n c, .agg #[.int .i64 x0, .int .i64 x1]] w (HGot w A n c (pushH h (x0, x1))) := by
  obtain ⟨i5, hi5, hz0, hz1, hz2⟩ := info_of infoTm
  have HI := Lib.hid hi5; have HZ0 := Lib.hid hz0; have HZ1 := Lib.hid hz1; have HZ2 := Lib.hid hz2
  clear hi5 hz0 hz1 hz2
  have hlen : h.length = n := hx.len
  have RX := Lib.hid hx
  have RT := fun (W : World) (hw : Tms W A n c h) => refRight12_any A n c h W hw hn
  have PL := fun (W : World) (hw : Tms W A n c h) => refPlace_any A n c h x1 W hw hn
  have CP := Lib.hid (fun (W : World) (hw : Tms W A n c h) => refCopy12_any A n c h W hw hn)
  obtain ⟨R, hR⟩ : ∃ R, pushH h (x0, x1) = R := ⟨_, rfl⟩
  rw [hR]
  obtain ⟨v1, hv1⟩ : ∃ W, w.alloc (.cells #[.int .i64 x0, .int .i64 x1] 24) = W := ⟨_, rfl⟩
  have fr1 : Fr w v1 w.heap.size [.cells #[.int .i64 x0, .int .i64 x1] 24] := hv1 ▸ Fr.first w _
  have z1 : v1.heap.size = w.heap.size + 1 := by rw [← hv1, Fr.size1]
  generalize hq : w.heap.size = q at *
  have FR := Lib.hid fr1
  clear fr1
  cases hr : rightH h
  · rw [hr] at RT
    replace RT := Lib.hid RT
    have HE := Lib.hid (show R = (h, 1) by rw [← hR]; unfold pushH; rw [if_pos (Or.inl hr)])
    clear hr hR hlen hx PL CP
    go_enter Try.func10, Try.ntmps10
    have c00 : v1.cell? ⟨q, 0, none⟩ = some (.int .i64 x0) := FR.out.cell 0 0 rfl rfl rfl
    have c01 : v1.cell? ⟨q, 1, none⟩ = some (.int .i64 x1) := FR.out.cell 0 1 rfl rfl rfl
    go_wp2_with fail
    refine ((RT.out _ (FR.out.es RX.out))).mono ?_
    rintro e w2 ⟨rfl, hb⟩
    clear c00 c01
    replace FR := Lib.hid (FR.out.step hb)
    clear hb
    go_wp2
    go_ret2
    rw [HE.out]
    exact ⟨A, n, c, rfl, FR.out.es RX.out, FR.out.out, Or.inr rfl⟩
  · rw [hr] at RT
    replace RT := Lib.hid RT
    by_cases h1 : x0 < 0
    · have c1 : decide (x0 < 0) = true := by simpa using h1
      have HE := Lib.hid (show R = (h, 1) by rw [← hR]; unfold pushH; rw [if_pos (Or.inr (Or.inl h1))])
      clear hr hR hlen hx PL CP h1
      go_enter Try.func10, Try.ntmps10
      have c00 : v1.cell? ⟨q, 0, none⟩ = some (.int .i64 x0) := FR.out.cell 0 0 rfl rfl rfl
      have c01 : v1.cell? ⟨q, 1, none⟩ = some (.int .i64 x1) := FR.out.cell 0 1 rfl rfl rfl
      go_wp2_with fail
      refine ((RT.out _ (FR.out.es RX.out))).mono ?_
      rintro e w2 ⟨rfl, hb⟩
      clear c00 c01
      replace FR := Lib.hid (FR.out.step hb)
      clear hb
      have c00 : w2.cell? ⟨q, 0, none⟩ = some (.int .i64 x0) := FR.out.cell 0 0 rfl rfl rfl
      have c01 : w2.cell? ⟨q, 1, none⟩ = some (.int .i64 x1) := FR.out.cell 0 1 rfl rfl rfl
      go_wp2
      go_ret2
      rw [HE.out]
      exact ⟨A, n, c, rfl, FR.out.es RX.out, FR.out.out, Or.inr rfl⟩
    · have c1 : decide (x0 < 0) = false := by simpa using h1
      by_cases h2 : x1 < 0
      · have c2 : decide (x1 < 0) = true := by simpa using h2
        have HE := Lib.hid (show R = (h, 1) by rw [← hR]; unfold pushH; rw [if_pos (Or.inr (Or.inr h2))])
        clear hr hR hlen hx PL CP h1 h2
        go_enter Try.func10, Try.ntmps10
        have c00 : v1.cell? ⟨q, 0, none⟩ = some (.int .i64 x0) := FR.out.cell 0 0 rfl rfl rfl
        have c01 : v1.cell? ⟨q, 1, none⟩ = some (.int .i64 x1) := FR.out.cell 0 1 rfl rfl rfl
        go_wp2_with fail
        refine ((RT.out _ (FR.out.es RX.out))).mono ?_
        rintro e w2 ⟨rfl, hb⟩
        clear c00 c01
        replace FR := Lib.hid (FR.out.step hb)
        clear hb
        have c00 : w2.cell? ⟨q, 0, none⟩ = some (.int .i64 x0) := FR.out.cell 0 0 rfl rfl rfl
        have c01 : w2.cell? ⟨q, 1, none⟩ = some (.int .i64 x1) := FR.out.cell 0 1 rfl rfl rfl
        go_wp2
        go_ret2
        rw [HE.out]
        exact ⟨A, n, c, rfl, FR.out.es RX.out, FR.out.out, Or.inr rfl⟩
      · have c2 : decide (x1 < 0) = false := by simpa using h2
        obtain ⟨p, hp⟩ : ∃ p, placeH h x1 = p := ⟨_, rfl⟩
        rw [hp] at PL
        replace PL := Lib.hid PL
        have hRE : R = if 0 ≤ p then (h, 8) else if 12 ≤ n then (h, 6) else (upT (n + 1) (h ++ [(x0, x1)]) n, 0) := by rw [← hR]; unfold pushH; rw [if_neg (by rw [hr]; simp; omega)]; simp only; rw [hp, hlen]
        clear hr hR h1 h2 hp
        by_cases h3 : 0 ≤ p
        · have c3 : decide (0 ≤ p) = true := by simpa using h3
          rw [if_pos h3] at hRE
          have HE := Lib.hid hRE
          clear hRE h3 hlen hx CP
          go_enter Try.func10, Try.ntmps10
          have c00 : v1.cell? ⟨q, 0, none⟩ = some (.int .i64 x0) := FR.out.cell 0 0 rfl rfl rfl
          have c01 : v1.cell? ⟨q, 1, none⟩ = some (.int .i64 x1) := FR.out.cell 0 1 rfl rfl rfl
          go_wp2_with fail
          refine ((RT.out _ (FR.out.es RX.out))).mono ?_
          rintro e w2 ⟨rfl, hb⟩
          clear c00 c01
          replace FR := Lib.hid (FR.out.step hb)
          clear hb
          have c00 : w2.cell? ⟨q, 0, none⟩ = some (.int .i64 x0) := FR.out.cell 0 0 rfl rfl rfl
          have c01 : w2.cell? ⟨q, 1, none⟩ = some (.int .i64 x1) := FR.out.cell 0 1 rfl rfl rfl
          go_wp2_with fail
          refine ((PL.out _ (FR.out.es RX.out))).mono ?_
          rintro e w3 ⟨rfl, rfl⟩
          clear c00 c01
          have c00 : w3.cell? ⟨q, 0, none⟩ = some (.int .i64 x0) := FR.out.cell 0 0 rfl rfl rfl
          have c01 : w3.cell? ⟨q, 1, none⟩ = some (.int .i64 x1) := FR.out.cell 0 1 rfl rfl rfl
          go_wp2
          go_ret2
          rw [HE.out]
          exact ⟨A, n, c, rfl, FR.out.es RX.out, FR.out.out, Or.inr rfl⟩
        · have c3 : decide (0 ≤ p) = false := by simpa using h3
          rw [if_neg h3] at hRE
          by_cases h4 : 12 ≤ n
          · have c4 : decide ((12 : Int) ≤ (n : Int)) = true := by simp; omega
            have c4n : decide (12 ≤ n) = true := by simp; omega
            rw [if_pos h4] at hRE
            have HE := Lib.hid hRE
            clear hRE h3 h4 hlen hx CP
            go_enter Try.func10, Try.ntmps10
            have c00 : v1.cell? ⟨q, 0, none⟩ = some (.int .i64 x0) := FR.out.cell 0 0 rfl rfl rfl
            have c01 : v1.cell? ⟨q, 1, none⟩ = some (.int .i64 x1) := FR.out.cell 0 1 rfl rfl rfl
            go_wp2_with fail
            refine ((RT.out _ (FR.out.es RX.out))).mono ?_
            rintro e w2 ⟨rfl, hb⟩
            clear c00 c01
            replace FR := Lib.hid (FR.out.step hb)
            clear hb
            have c00 : w2.cell? ⟨q, 0, none⟩ = some (.int .i64 x0) := FR.out.cell 0 0 rfl rfl rfl
            have c01 : w2.cell? ⟨q, 1, none⟩ = some (.int .i64 x1) := FR.out.cell 0 1 rfl rfl rfl
            go_wp2_with fail
            refine ((PL.out _ (FR.out.es RX.out))).mono ?_
            rintro e w3 ⟨rfl, rfl⟩
            clear c00 c01
            go_wp2
            go_ret2
            rw [HE.out]
            exact ⟨A, n, c, rfl, FR.out.es RX.out, FR.out.out, Or.inr rfl⟩
          · have c4 : decide ((12 : Int) ≤ (n : Int)) = false := by simp; omega
            have c4n : decide (12 ≤ n) = false := by simp; omega
            rw [if_neg h4] at hRE
            have HE := Lib.hid hRE
            have HL := Lib.hid hlen
            have n12 : n < 12 := by omega
            clear hRE h3 h4 hlen hx
            go_enter Try.func10, Try.ntmps10
            have c00 : v1.cell? ⟨q, 0, none⟩ = some (.int .i64 x0) := FR.out.cell 0 0 rfl rfl rfl
            have c01 : v1.cell? ⟨q, 1, none⟩ = some (.int .i64 x1) := FR.out.cell 0 1 rfl rfl rfl
            go_wp2_with fail
            refine ((RT.out _ (FR.out.es RX.out))).mono ?_
            rintro e w2 ⟨rfl, hb⟩
            clear c00 c01
            replace FR := Lib.hid (FR.out.step hb)
            clear hb
            have c00 : w2.cell? ⟨q, 0, none⟩ = some (.int .i64 x0) := FR.out.cell 0 0 rfl rfl rfl
            have c01 : w2.cell? ⟨q, 1, none⟩ = some (.int .i64 x1) := FR.out.cell 0 1 rfl rfl rfl
            go_wp2_with fail
            refine ((PL.out _ (FR.out.es RX.out))).mono ?_
            rintro e w3 ⟨rfl, rfl⟩
            clear c00 c01
            have c00 : w3.cell? ⟨q, 0, none⟩ = some (.int .i64 x0) := FR.out.cell 0 0 rfl rfl rfl
            have c01 : w3.cell? ⟨q, 1, none⟩ = some (.int .i64 x1) := FR.out.cell 0 1 rfl rfl rfl
            have C0 := Lib.hid c00; have C1 := Lib.hid c01
            clear c00 c01
            go_wp2
            refine wp_region_noPanic ?_
            refine wp_region_held_drew (S := (fun wv => Hid (Below w3.heap.size w3 wv))) (by kernel_rfl) (Lib.hid (Below.refl _ w3).drew) (fun hS => ?_)
            refine wpAnyH_take (i := 0) (oi := ⟨some 33, .move (.tmp 0), 22, "ref.go:82", #[], none⟩) (v := ?_) rfl (by kernel_rfl) (by kernel_rfl) (by kernel_rfl) (fun _ _ _ h => h) (Or.inl ⟨by rfl, ?_⟩) hS ?_
            rotate_left
            · intro wv _; go_simp; try with_reducible rfl
            try simp only [Act.put, List.setIfInBounds_toArray, List.set_cons_zero, List.set_cons_succ]
            refine wpAnyH_take (i := 2) (oi := ⟨some 35, .load 24 (.tmp 3), 24, "ref.go:82", #[], none⟩) (v := .agg (([.int .i64 x0, .int .i64 x1] : List Value)).toArray) rfl (by kernel_rfl) (by kernel_rfl) (by kernel_rfl) (fun _ _ _ h => h) (yieldsIf_load_mid (by rfl) _ _ (by rfl) (q) (0) (by rfl) (([.int .i64 x0, .int .i64 x1] : List Value)) _ (fun wv hS => tm_range ((hS.out.cell (p := ⟨q, 0, none⟩) (by have := FR.out.sz; simp only [List.length_cons, List.length_nil] at this; show q < _; omega)).trans C0.out) ((hS.out.cell (p := ⟨q, 0 + 1, none⟩) (by have := FR.out.sz; simp only [List.length_cons, List.length_nil] at this; show q < _; omega)).trans C1.out)) Try.underlying24 (by rfl) (by kernel_rfl)) hS ?_
            try simp only [Act.put, List.setIfInBounds_toArray, List.set_cons_zero, List.set_cons_succ]
            refine wpAnyH_take (i := 5) (oi := ⟨some 38, .move (.tmp 0), 22, "ref.go:82", #[], none⟩) (v := ?_) rfl (by kernel_rfl) (by kernel_rfl) (by kernel_rfl) (fun _ _ _ h => h) (Or.inl ⟨by rfl, ?_⟩) hS ?_
            rotate_left
            · intro wv _; go_simp; try with_reducible rfl
            try simp only [Act.put, List.setIfInBounds_toArray, List.set_cons_zero, List.set_cons_succ]
            refine wpAnyH_take (i := 6) (oi := ⟨some 39, .call { callee := .builtin .len, args := #[.tmp 38], argTypes := #[22] }, 3, "ref.go:82", #[⟨5, .data⟩], none⟩) (v := ?_) rfl (by kernel_rfl) (by kernel_rfl) (by kernel_rfl) (fun _ _ _ h => h) (Or.inl ⟨by rfl, ?_⟩) hS ?_
            rotate_left
            · intro wv _; go_simp; try with_reducible rfl
            try simp only [Act.put, List.setIfInBounds_toArray, List.set_cons_zero, List.set_cons_succ]
            refine wpAnyH_ready (rs := [1, 3]) (by kernel_rfl) (by simp) (AllReadyH.cons (o := ⟨some 34, .call { callee := .value (.func 8), args := #[.tmp 33], argTypes := #[22] }, 22, "ref.go:82", #[⟨0, .data⟩], none⟩) rfl (fun K hK => ?_) (AllReadyH.cons (o := ⟨some 36, .buildSlice 22 1 #[(0, .tmp 35)], 22, "ref.go:82", #[⟨2, .data⟩], none⟩) rfl (fun K hK => ?_) AllReadyH.nil))
            ·
             go_simp
             refine (CP.out _ (FR.out.drew.es RX.out)).mono ?_; rintro e wa ⟨B, m, d, rfl, hown, hbb⟩
             obtain ⟨hn1, hn2⟩ := own_n12 hown
             obtain rfl : m = n := by have := HL.out; omega
             replace hS := Lib.hid (hS.out.trans hbb)
             have OW := Lib.hid hown
             clear hown hbb hn1 hn2
             go_wp2_with fail
             refine Shut.out hK _ _ hS (fun _ => ?_)
             clear hK K
             try simp only [Act.put, List.setIfInBounds_toArray, List.set_cons_zero, List.set_cons_succ]
             refine wpAnyH_ready (rs := [3]) (by kernel_rfl) (by simp) (AllReadyH.cons (o := ⟨some 36, .buildSlice 22 1 #[(0, .tmp 35)], 22, "ref.go:82", #[⟨2, .data⟩], none⟩) rfl (fun K hK => ?_) AllReadyH.nil)
             go_simp
             have hSS1 := hS; have hSS := Lib.hid hS.out.size; replace hS := Lib.hid (hS.out.alloc (show w3.heap.size ≤ wa.heap.size from hS.out.size) (.cells #[.int .i64 x0, .int .i64 x1] 24))
             refine Shut.out hK _ _ hS (fun _ => ?_)
             clear hK K
             try simp only [Act.put, List.setIfInBounds_toArray, List.set_cons_zero, List.set_cons_succ]
             refine wpAnyH_ready (rs := [4]) (by kernel_rfl) (by simp) (AllReadyH.cons (o := ⟨some 37, .call { callee := .builtin .append, args := #[.tmp 34, .tmp 36], argTypes := #[22, 22] }, 22, "ref.go:82", #[⟨1, .data⟩, ⟨3, .data⟩, ⟨1, .chain⟩], none⟩) rfl (fun K hK => ?_) AllReadyH.nil)
             obtain ⟨A4, c4_, w4, hap4, hown4, hb4⟩ := eapp_lit (P := Try.prog) (ty := 22) (w0 := wa) (base := w3.heap.size) (W := wa) Try.underlying22 HI.out HZ0.out HZ1.out HZ2.out rfl (by decide) OW.out (tmC_one _) (tmC [(x0, x1)]) (tmC_one _) (m := 1) rfl (by unfold maxLen; omega) (by omega) (Below.refl _ wa) (hSS.out)
             rw [← tmC_app] at hown4
             replace hap4 : (Builtin.append_ #[22, 22] 22 #[_, .slice (some ⟨wa.heap.size, 0, none⟩) 1 1]).run Try.prog (wa.alloc (.cells #[.int .i64 x0, .int .i64 x1] 24)) = _ := hap4
             refine op_app_run7 (by rfl) rfl rfl rfl hap4 ?_
             have hS4 : Below w3.heap.size w3 w4 := hSS1.out.trans hb4
             replace hS := Lib.hid hS4
             have OW := Lib.hid hown4
             clear hown4 hap4 hb4 hS4
             refine Shut.out hK _ _ hS (fun _ => ?_)
             clear hK K
             try simp only [Act.put, List.setIfInBounds_toArray, List.set_cons_zero, List.set_cons_succ]
             refine wpAnyH_ready (rs := [7]) (by kernel_rfl) (by simp) (AllReadyH.cons (o := ⟨some 40, .call { callee := .value (.func 30), args := #[.tmp 37, .tmp 39], argTypes := #[22, 3] }, 22, "ref.go:82", #[⟨4, .data⟩, ⟨6, .data⟩, ⟨4, .chain⟩], none⟩) rfl (fun K hK => ?_) AllReadyH.nil)
             go_simp
             refine (refUp_any A4 (m + 1) c4_ (m + 1) m _ _ (tms_own OW.out) (by omega) (by omega) (by omega)).mono ?_
             rintro e w9 ⟨B9, n9, d9, rfl, hown9, hb9⟩
             have OW9 := Lib.hid (own_base hown9 hS.out.size)
             replace hS := Lib.hid (hS.out.trans (hb9.mono hS.out.size))
             clear hown9 hb9
             go_wp2_with fail
             refine Shut.out hK _ _ hS (fun _ => ?_)
             clear hK K
             try simp only [Act.put, List.setIfInBounds_toArray, List.set_cons_zero, List.set_cons_succ]
             refine wpAnyH_take (i := 8) (oi := ⟨some 4, .assign (.tmp 40), 22, "ref.go:82", #[⟨7, .data⟩, ⟨7, .chain⟩, ⟨0, .phase⟩, ⟨1, .phase⟩, ⟨2, .phase⟩, ⟨3, .phase⟩, ⟨4, .phase⟩, ⟨5, .phase⟩, ⟨6, .phase⟩, ⟨7, .phase⟩], none⟩) (v := ?_) rfl (by kernel_rfl) (by kernel_rfl) (by kernel_rfl) (fun _ _ _ h => h) (Or.inl ⟨by rfl, ?_⟩) hS ?_
             rotate_left
             · intro wv _; go_simp; try with_reducible rfl
             try simp only [Act.put, List.setIfInBounds_toArray, List.set_cons_zero, List.set_cons_succ]
             refine wpAnyH_take (i := 9) (oi := ⟨some 5, .assign (.const (Value.int IntKind.i64 0)), 27, "ref.go:82", #[⟨8, .chain⟩, ⟨0, .phase⟩, ⟨1, .phase⟩, ⟨2, .phase⟩, ⟨3, .phase⟩, ⟨4, .phase⟩, ⟨5, .phase⟩, ⟨6, .phase⟩, ⟨7, .phase⟩, ⟨8, .phase⟩], none⟩) (v := ?_) rfl (by kernel_rfl) (by kernel_rfl) (by kernel_rfl) (fun _ _ _ h => h) (Or.inl ⟨by rfl, ?_⟩) hS ?_
             rotate_left
             · intro wv _; go_simp; try with_reducible rfl
             try simp only [Act.put, List.setIfInBounds_toArray, List.set_cons_zero, List.set_cons_succ]
             refine wpAnyH_done (by kernel_rfl) ?_ _
             refine NoPanic.normal ?_
             go_wp2
             go_ret2
             rw [HE.out]
             exact ⟨B9, n9, d9, rfl, tms_own OW9.out, (FR.out.step hS.out).out, Or.inl (own_base OW9.out (by have := FR.out.out.size; omega))⟩
            ·
             go_simp
             have HLIT := Lib.hid (Es.drew (lit_tm (w := w3) (x := x0) (y := x1)))
             replace hS := Lib.hid ((Below.refl w3.heap.size w3).alloc (Nat.le_refl _) (.cells #[.int .i64 x0, .int .i64 x1] 24)).drew
             generalize (w3.alloc (.cells #[.int .i64 x0, .int .i64 x1] 24)).drew = wl at *
             refine Shut.out hK _ _ hS (fun _ => ?_)
             clear hK K
             try simp only [Act.put, List.setIfInBounds_toArray, List.set_cons_zero, List.set_cons_succ]
             refine wpAnyH_ready (rs := [1]) (by kernel_rfl) (by simp) (AllReadyH.cons (o := ⟨some 34, .call { callee := .value (.func 8), args := #[.tmp 33], argTypes := #[22] }, 22, "ref.go:82", #[⟨0, .data⟩], none⟩) rfl (fun K hK => ?_) AllReadyH.nil)
             go_simp
             refine (CP.out _ ((FR.out.step hS.out).es RX.out)).mono ?_; rintro e wa ⟨B, m, d, rfl, hown, hbb⟩
             obtain ⟨hn1, hn2⟩ := own_n12 hown
             obtain rfl : m = n := by have := HL.out; omega
             have OW := Lib.hid (own_base hown (show w3.heap.size ≤ _ from hS.out.size))
             replace HLIT := Lib.hid (Es.below HLIT.out hbb)
             replace hS := Lib.hid (hS.out.trans (hbb.mono hS.out.size))
             clear hown hbb hn1 hn2
             go_wp2_with fail
             refine Shut.out hK _ _ hS (fun _ => ?_)
             clear hK K
             try simp only [Act.put, List.setIfInBounds_toArray, List.set_cons_zero, List.set_cons_succ]
             refine wpAnyH_ready (rs := [4]) (by kernel_rfl) (by simp) (AllReadyH.cons (o := ⟨some 37, .call { callee := .builtin .append, args := #[.tmp 34, .tmp 36], argTypes := #[22, 22] }, 22, "ref.go:82", #[⟨1, .data⟩, ⟨3, .data⟩, ⟨1, .chain⟩], none⟩) rfl (fun K hK => ?_) AllReadyH.nil)
             obtain ⟨v, w4, hap4, hown4, hgr4, hvk4⟩ := eapp_own (P := Try.prog) wa w3.heap.size 22 22 24 i5 _ 2 16 Try.underlying22 HI.out HZ0.out HZ1.out HZ2.out rfl (by decide) _ m _ OW.out _ 1 1 _ HLIT.out (by unfold maxLen; omega) (by omega) hS.out.size
             rw [← tmC_app] at hown4
             refine op_app_run7 (by rfl) rfl rfl rfl hap4 ?_
             replace hS := Lib.hid (hS.out.grown hgr4 hS.out.size (fun k hk => (OW.out.lt k hk).1))
             obtain ⟨A4, c4_, rfl, _⟩ := Es.of_own hown4 (tmC_one _)
             have OW := Lib.hid hown4
             clear hown4 hap4 hgr4 hvk4
             refine Shut.out hK _ _ hS (fun _ => ?_)
             clear hK K
             try simp only [Act.put, List.setIfInBounds_toArray, List.set_cons_zero, List.set_cons_succ]
             refine wpAnyH_ready (rs := [7]) (by kernel_rfl) (by simp) (AllReadyH.cons (o := ⟨some 40, .call { callee := .value (.func 30), args := #[.tmp 37, .tmp 39], argTypes := #[22, 3] }, 22, "ref.go:82", #[⟨4, .data⟩, ⟨6, .data⟩, ⟨4, .chain⟩], none⟩) rfl (fun K hK => ?_) AllReadyH.nil)
             go_simp
             refine (refUp_any A4 (m + 1) c4_ (m + 1) m _ _ (tms_own OW.out) (by omega) (by omega) (by omega)).mono ?_
             rintro e w9 ⟨B9, n9, d9, rfl, hown9, hb9⟩
             have OW9 := Lib.hid (own_base hown9 hS.out.size)
             replace hS := Lib.hid (hS.out.trans (hb9.mono hS.out.size))
             clear hown9 hb9
             go_wp2_with fail
             refine Shut.out hK _ _ hS (fun _ => ?_)
             clear hK K
             try simp only [Act.put, List.setIfInBounds_toArray, List.set_cons_zero, List.set_cons_succ]
             refine wpAnyH_take (i := 8) (oi := ⟨some 4, .assign (.tmp 40), 22, "ref.go:82", #[⟨7, .data⟩, ⟨7, .chain⟩, ⟨0, .phase⟩, ⟨1, .phase⟩, ⟨2, .phase⟩, ⟨3, .phase⟩, ⟨4, .phase⟩, ⟨5, .phase⟩, ⟨6, .phase⟩, ⟨7, .phase⟩], none⟩) (v := ?_) rfl (by kernel_rfl) (by kernel_rfl) (by kernel_rfl) (fun _ _ _ h => h) (Or.inl ⟨by rfl, ?_⟩) hS ?_
             rotate_left
             · intro wv _; go_simp; try with_reducible rfl
             try simp only [Act.put, List.setIfInBounds_toArray, List.set_cons_zero, List.set_cons_succ]
             refine wpAnyH_take (i := 9) (oi := ⟨some 5, .assign (.const (Value.int IntKind.i64 0)), 27, "ref.go:82", #[⟨8, .chain⟩, ⟨0, .phase⟩, ⟨1, .phase⟩, ⟨2, .phase⟩, ⟨3, .phase⟩, ⟨4, .phase⟩, ⟨5, .phase⟩, ⟨6, .phase⟩, ⟨7, .phase⟩, ⟨8, .phase⟩], none⟩) (v := ?_) rfl (by kernel_rfl) (by kernel_rfl) (by kernel_rfl) (fun _ _ _ h => h) (Or.inl ⟨by rfl, ?_⟩) hS ?_
             rotate_left
             · intro wv _; go_simp; try with_reducible rfl
             try simp only [Act.put, List.setIfInBounds_toArray, List.set_cons_zero, List.set_cons_succ]
             refine wpAnyH_done (by kernel_rfl) ?_ _
             refine NoPanic.normal ?_
             go_wp2
             go_ret2
             rw [HE.out]
             exact ⟨B9, n9, d9, rfl, tms_own OW9.out, (FR.out.step hS.out).out, Or.inl (own_base OW9.out (by have := FR.out.out.size; omega))⟩
end Go.Proofs.Ytehpfpphpffniaa
