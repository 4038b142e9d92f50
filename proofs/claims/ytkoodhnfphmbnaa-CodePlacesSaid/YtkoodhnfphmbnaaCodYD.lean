/- What the landed code's own reader answers, or panics with: a program; for bytes up to 16384. -/
import Derived.Test.YtkoodhnfphmbnaaCodYC
import Derived.Test.YtkoodhnfphmbnaaCodL
namespace Go.Proofs.Ytkoodhnfphmbnaa
set_option linter.unusedVariables false
set_option linter.unusedSimpArgs false
open Go.RowKit
set_option maxRecDepth 100000 in
set_option maxHeartbeats 16000000 in
theorem program_any (r : Nat) (E : Option Addr) (u v : Nat) (bs : List Int) (k : Int) (w : World) (hb : Bs w E u v bs) (hr : Rc w r E u v k) (hn : u ≤ 16384) :
    Calls Try.prog 38 #[.pointer (some ⟨r, 0, none⟩)] w (ProgC r E u v w (progS bs k)) := by
  have HB := Lib.hid hb; have HR := Lib.hid hr; have HRL := Lib.hid hr.lt
  obtain ⟨R, hR⟩ : ∃ R, progS bs k = R := ⟨_, rfl⟩
  rw [hR]
  have HRR := Lib.hid hR
  have C1 := count_cases r E u v bs k 60 4 hn
  clear hb hr hR
  obtain ⟨v1, hv1⟩ : ∃ W, w.alloc (.cells #[.slice none 0 0, .slice none 0 0, .slice none 0 0, .int .i64 0, .int .i64 0, .int .i64 0] 25) = W := ⟨_, rfl⟩
  have fr1 : Fr w v1 w.heap.size [.cells #[.slice none 0 0, .slice none 0 0, .slice none 0 0, .int .i64 0, .int .i64 0, .int .i64 0] 25] := hv1 ▸ Fr.first w _
  have z1 : v1.heap.size = w.heap.size + 1 := by rw [← hv1, Fr.size1]
  obtain ⟨v2, hv2⟩ : ∃ W, v1.alloc (.cells #[.slice none 0 0, .slice none 0 0, .slice none 0 0, .int .i64 0, .int .i64 0, .int .i64 0] 25) = W := ⟨_, rfl⟩
  have fr2 : Fr w v2 w.heap.size [.cells #[.slice none 0 0, .slice none 0 0, .slice none 0 0, .int .i64 0, .int .i64 0, .int .i64 0] 25, .cells #[.slice none 0 0, .slice none 0 0, .slice none 0 0, .int .i64 0, .int .i64 0, .int .i64 0] 25] := hv2 ▸ fr1.more z1 _
  have z2 : v2.heap.size = w.heap.size + 2 := by rw [← hv2, Fr.size1, z1]
  generalize hq : w.heap.size = q at *
  have FR := Lib.hid fr2
  clear fr1 fr2
  have HPS := Lib.hid (show PS r E u v w v2 q k [.slice none 0 0, .slice none 0 0, .slice none 0 0, .int .i64 0, .int .i64 0, .int .i64 0] (.slice none 0 0) (.slice none 0 0) (.slice none 0 0) 0 0 0 ([]) ([]) ([]) from ⟨⟨World.ownsRow_nil _ _ _ _, FR.out.blk 1 _ rfl, World.ownsRow_nil _ _ _ _, World.ownsRow_nil _ _ _ _, fun g hg => by simp [Value.ownBlock] at hg, Below.refl _ _⟩, HR.out.below FR.out.out, grown_below FR.out.out, FR.out.blk 0 _ rfl, FR.out.q0, HRL.out⟩)
  clear FR
  rcases C1 with ⟨c1, k1, hc1, hct1, CC⟩ | ⟨e, he, hct, CC⟩
  rotate_left
  · have CC2 := Lib.hid CC
    have HE := Lib.hid (show R = (noPg, 0, e) from HRR.out.symm.trans (prog_bad1 hct he))
    have HNE := Lib.hid he
    clear CC hct he
    go_enter Try.func38, Try.ntmps38
    go_wp2_with fail
    refine (CC2.out _ (HB.out.grownC HR.out HPS.out.g) HPS.out.rd).mono ?_
    rintro e1 wz ⟨rfl, hg⟩
    rw [HE.out]
    exact ⟨rfl, ProgC.bad HNE.out (grown_trans HPS.out.g hg)⟩
  have CC2 := Lib.hid CC
  have HCT := Lib.hid (show countS bs k 60 4 = manyS bs (c1 * 4) k1 [] from hct1.trans (by congr 1))
  have hc60 : c1 ≤ 60 := by omega
  have hc63 : (c1 : Int) ≤ 9223372036854775807 := by omega
  clear CC hct1 hc1
  go_enter Try.func38, Try.ntmps38
  go_wp2_with fail
  refine (CC2.out _ (HB.out.grownC HR.out HPS.out.g) HPS.out.rd).mono ?_
  rintro e1 w3 ⟨rfl, hrd, hg⟩
  replace HPS := Lib.hid (HPS.out.num hrd hg)
  clear hrd hg CC2 hv1 hv2 z1 z2
  go_wp2
  go_loopw [6] (fun iv wr => ∃ (j dd : Nat) (O : Option Addr) (at1 : Int) (xc : List I4), iv = .int .i64 (j : Int) ∧ j ≤ c1 ∧ Hid (manyS bs (j * 4) k1 [] = (codeN xc, at1, 0)) ∧ Hid (PS r E u v w wr q at1 [.slice O j dd, .slice none 0 0, .slice none 0 0, .int .i64 0, .int .i64 0, .int .i64 0] (.slice O j dd) (.slice none 0 0) (.slice none 0 0) j 0 0 (xc) ([]) ([]))) (fun iv _ => c1 - (intOf iv).toNat)
  case atStart => exact ⟨0, 0, none, k1, [], rfl, by omega, Lib.hid (by rw [Nat.zero_mul, many_none]; rfl), HPS⟩
  case round =>
    clear HPS
    obtain ⟨j, dd, O, at1, xc, rfl, hj, HMJ, HPS⟩ := hrel
    by_cases hlt : j < c1
    · have d1 : decide ((j : Int) < (c1 : Int)) = true := by simpa using hlt
      have d1n : decide (j < c1) = true := by simpa using hlt
      have HLT := Lib.hid hlt
      replace HPS := Lib.hid HPS.out.drew
      have cp0 : wr.cell? ⟨q + 1, 0, none⟩ = some (.slice O j dd) := HPS.out.cell 0 rfl
      rcases instr_cases r E u v bs at1 hn with ⟨a, b, c, d, k4, hm4, II⟩ | ⟨e, he, hm4, II⟩
      rotate_left
      · have II2 := Lib.hid II
        have HNE := Lib.hid he
        have HE := Lib.hid (show R = (noPg, 0, e) from HRR.out.symm.trans (prog_bad1 (by rw [HCT.out, show c1 * 4 = (j * 4 + 4) + (c1 - (j + 1)) * 4 by omega]; exact many_stop ((many_to HMJ.out).trans (hm4 _)) he) he))
        clear II he hm4 hlt
        go_wp2
        refine LateH.begin ((fun wv => Hid True)) ((fun wv => Hid (wv.cell? ⟨q + 1, 0, none⟩ = some (.slice O j dd)))) (fun j => j == 7) (by kernel_rfl) ?_
        have hS : Hid True := Lib.hid trivial
        have hL : Hid (wr.drew.cell? ⟨q + 1, 0, none⟩ = some (.slice O j dd)) := Lib.hid cp0
        refine LateH.take (i := 0) (oi := ⟨some 8, .fieldAddr 25 (.tmp 3) 0, 0, "bytes.go:40", #[], none⟩) (v := ?_) rfl (by kernel_rfl) rfl (by kernel_rfl) (by kernel_rfl) (fun _ _ _ h => h) (Or.inl ⟨by rfl, ?_⟩) hS (fun _ => hL) ?_
        rotate_left
        · intro wv _; go_simp; try with_reducible rfl
        try simp only [Act.put, List.setIfInBounds_toArray, List.set_cons_zero, List.set_cons_succ]
        refine LateH.takeL (i := 1) (oi := ⟨some 9, .load 22 (.tmp 8), 22, "bytes.go:40", #[⟨0, .data⟩], none⟩) (v := ?_) rfl (by kernel_rfl) rfl (by kernel_rfl) (by kernel_rfl) (by kernel_rfl) (fun _ _ _ h => h) (Or.inl ⟨by rfl, ?_⟩) hS (fun _ => hL) ?_
        rotate_left
        · intro wv hL; have hrun := hL.out; go_simp; try with_reducible rfl
        try simp only [Act.put, List.setIfInBounds_toArray, List.set_cons_zero, List.set_cons_succ]
        refine LateH.take (i := 2) (oi := ⟨some 10, .move (.tmp 0), 73, "bytes.go:40", #[], none⟩) (v := ?_) rfl (by kernel_rfl) rfl (by kernel_rfl) (by kernel_rfl) (fun _ _ _ h => h) (Or.inl ⟨by rfl, ?_⟩) hS (fun _ => hL) ?_
        rotate_left
        · intro wv _; go_simp; try with_reducible rfl
        try simp only [Act.put, List.setIfInBounds_toArray, List.set_cons_zero, List.set_cons_succ]
        refine LateH.ready (rs := [3]) (by kernel_rfl) (by simp) (LateR.cons (g2 := true) (o := ⟨some 11, .call { callee := .value (.func 49), args := #[.tmp 10], argTypes := #[73] }, 40, "bytes.go:40", #[⟨2, .data⟩], none⟩) rfl (by rfl) (fun K hK => ?_) LateR.nil)
        go_simp
        refine (II2.out _ (HB.out.grownC HR.out HPS.out.g) HPS.out.rd).mono ?_; rintro e1 w5 ⟨rfl, hg⟩
        go_wp2_with fail
        rw [HE.out]
        exact ⟨rfl, ProgC.bad HNE.out (grown_trans HPS.out.g hg)⟩
      · have II2 := Lib.hid II
        have HM2 := Lib.hid (show manyS bs ((j + 1) * 4) k1 [] = (codeN (xc ++ [(a, b, c, d)]), k4, 0) by rw [show (j + 1) * 4 = j * 4 + 4 by omega, codeN_app]; exact (many_to HMJ.out).trans (hm4 _))
        have hj1 : j ≤ 10000 := by omega
        clear II hm4 hlt
        go_wp2
        refine wp_region_noPanic ?_
        refine LateH.begin ((fun wv => Hid True)) ((fun wv => Hid (wv.cell? ⟨q + 1, 0, none⟩ = some (.slice O j dd)))) (fun j => j == 7) (by kernel_rfl) ?_
        have hS : Hid True := Lib.hid trivial
        have hL : Hid (wr.drew.cell? ⟨q + 1, 0, none⟩ = some (.slice O j dd)) := Lib.hid cp0
        refine LateH.take (i := 0) (oi := ⟨some 8, .fieldAddr 25 (.tmp 3) 0, 0, "bytes.go:40", #[], none⟩) (v := ?_) rfl (by kernel_rfl) rfl (by kernel_rfl) (by kernel_rfl) (fun _ _ _ h => h) (Or.inl ⟨by rfl, ?_⟩) hS (fun _ => hL) ?_
        rotate_left
        · intro wv _; go_simp; try with_reducible rfl
        try simp only [Act.put, List.setIfInBounds_toArray, List.set_cons_zero, List.set_cons_succ]
        refine LateH.takeL (i := 1) (oi := ⟨some 9, .load 22 (.tmp 8), 22, "bytes.go:40", #[⟨0, .data⟩], none⟩) (v := ?_) rfl (by kernel_rfl) rfl (by kernel_rfl) (by kernel_rfl) (by kernel_rfl) (fun _ _ _ h => h) (Or.inl ⟨by rfl, ?_⟩) hS (fun _ => hL) ?_
        rotate_left
        · intro wv hL; have hrun := hL.out; go_simp; try with_reducible rfl
        try simp only [Act.put, List.setIfInBounds_toArray, List.set_cons_zero, List.set_cons_succ]
        refine LateH.take (i := 2) (oi := ⟨some 10, .move (.tmp 0), 73, "bytes.go:40", #[], none⟩) (v := ?_) rfl (by kernel_rfl) rfl (by kernel_rfl) (by kernel_rfl) (fun _ _ _ h => h) (Or.inl ⟨by rfl, ?_⟩) hS (fun _ => hL) ?_
        rotate_left
        · intro wv _; go_simp; try with_reducible rfl
        try simp only [Act.put, List.setIfInBounds_toArray, List.set_cons_zero, List.set_cons_succ]
        refine LateH.ready (rs := [3]) (by kernel_rfl) (by simp) (LateR.cons (g2 := true) (o := ⟨some 11, .call { callee := .value (.func 49), args := #[.tmp 10], argTypes := #[73] }, 40, "bytes.go:40", #[⟨2, .data⟩], none⟩) rfl (by rfl) (fun K hK => ?_) LateR.nil)
        go_simp
        refine (II2.out _ (HB.out.grownC HR.out HPS.out.g) HPS.out.rd).mono ?_; rintro e1 w5 ⟨rfl, hrd, hg⟩
        replace HPS := Lib.hid (HPS.out.num hrd hg)
        replace hL := Lib.hid (show w5.cell? ⟨q + 1, 0, none⟩ = some (.slice O j dd) from HPS.out.cell 0 rfl)
        obtain ⟨A4, c4, w9, hap4, hks4⟩ := HPS.out.ks.appC a b c d hj1
        have HAP := Lib.hid hap4; have HKS := Lib.hid hks4
        have fp9 : w9.frozen? ⟨q + 1, 0, none⟩ = false := blk_frozen HKS.out.p 0
        have cp9 : w9.cell? ⟨q + 1, 0, none⟩ = some (.slice O j dd) := (blk_cell HKS.out.p 0).trans rfl
        clear hrd hg hap4 hks4
        go_wp2_with fail
        refine Shut.out hK _ _ hS (fun _ => hL) ?_
        clear hK K
        try simp only [Act.put, List.setIfInBounds_toArray, List.set_cons_zero, List.set_cons_succ]
        refine LateH.ready (rs := [4]) (by kernel_rfl) (by simp) (LateR.cons (g2 := true) (o := ⟨some 12, .buildSlice 22 1 #[(0, .tmp 11)], 22, "bytes.go:40", #[⟨3, .data⟩], none⟩) rfl (by rfl) (fun K hK => ?_) LateR.nil)
        go_simp
        replace hL := Lib.hid (show (w5.alloc (.cells #[.int .i64 a, .int .i64 b, .int .i64 c, .int .i64 d] 40)).cell? ⟨q + 1, 0, none⟩ = some (.slice O j dd) from (blk_cell ((heap_alloc_old _ _ (blk_lt HPS.out.ks.p)).trans HPS.out.ks.p) 0).trans rfl)
        refine Shut.out hK _ _ hS (fun _ => hL) ?_
        clear hK K
        try simp only [Act.put, List.setIfInBounds_toArray, List.set_cons_zero, List.set_cons_succ]
        refine LateH.ready (rs := [5]) (by kernel_rfl) (by simp) (LateR.cons (g2 := true) (o := ⟨some 13, .call { callee := .builtin .append, args := #[.tmp 9, .tmp 12], argTypes := #[22, 22] }, 22, "bytes.go:40", #[⟨1, .data⟩, ⟨4, .data⟩, ⟨3, .chain⟩], none⟩) rfl (by rfl) (fun K hK => ?_) LateR.nil)
        refine op_app_run7 (by rfl) rfl rfl rfl HAP.out ?_
        replace hL := Lib.hid cp9
        refine Shut.out hK _ _ hS (fun _ => hL) ?_
        clear hK K
        try simp only [Act.put, List.setIfInBounds_toArray, List.set_cons_zero, List.set_cons_succ]
        refine LateH.take (i := 6) (oi := ⟨some 14, .fieldAddr 25 (.tmp 3) 0, 0, "bytes.go:40", #[⟨0, .phase⟩, ⟨1, .phase⟩, ⟨2, .phase⟩, ⟨3, .phase⟩, ⟨4, .phase⟩, ⟨5, .phase⟩], none⟩) (v := ?_) rfl (by kernel_rfl) rfl (by kernel_rfl) (by kernel_rfl) (fun _ _ _ h => h) (Or.inl ⟨by rfl, ?_⟩) hS (fun _ => hL) ?_
        rotate_left
        · intro wv _; go_simp; try with_reducible rfl
        try simp only [Act.put, List.setIfInBounds_toArray, List.set_cons_zero, List.set_cons_succ]
        refine LateH.ready (rs := [7]) (by kernel_rfl) (by simp) (LateR.cons (g2 := false) (o := ⟨none, .store 22 (.tmp 14) (.tmp 13), 0, "bytes.go:40", #[⟨6, .data⟩, ⟨5, .data⟩, ⟨5, .chain⟩, ⟨0, .phase⟩, ⟨1, .phase⟩, ⟨2, .phase⟩, ⟨3, .phase⟩, ⟨4, .phase⟩, ⟨5, .phase⟩], none⟩) rfl (by rfl) (fun K hK => ?_) LateR.nil)
        go_simp
        replace hS := Lib.hid trivial
        refine Shut.out hK _ _ hS (fun h => nomatch h) ?_
        clear hK K
        try simp only [Act.put, List.setIfInBounds_toArray, List.set_cons_zero, List.set_cons_succ]
        refine LateH.done (by kernel_rfl) ?_ _
        refine NoPanic.normal ?_
        have HPN := Lib.hid (HPS.out.to (HKS.out.setp 0 (.slice A4 (j + 1) c4)))
        go_wp2
        go_roundw
        case rel => exact ⟨j + 1, c4, A4, k4, _, by go_num, by have := HLT.out; omega, HM2, HPN⟩
        case measure => have := HLT.out; simp [intOf]; omega
    · have ej : j = c1 := by omega
      have d1 : decide ((j : Int) < (c1 : Int)) = false := by simp; omega
      have d1n : decide (j < c1) = false := by simp; omega
      have HC1 := Lib.hid (show countS bs k 60 4 = (codeN xc, at1, 0) by rw [HCT.out, ← ej]; exact HMJ.out)
      have hj60 : j ≤ 60 := by omega
      clear ej hlt hj HMJ HCT
      have C2 := count_cases r E u v bs at1 8 2 hn
      rcases C2 with ⟨c2, k2, hc2, hct2, CC⟩ | ⟨e, he, hct, CC⟩
      rotate_left
      · have CC2 := Lib.hid CC
        have HE := Lib.hid (show R = (noPg, 0, e) from HRR.out.symm.trans (prog_bad2 HC1.out hct he))
        have HNE := Lib.hid he
        clear CC hct he
        go_wp2_with fail
        refine (CC2.out _ (HB.out.grownC HR.out HPS.out.g) HPS.out.rd).mono ?_
        rintro e1 wz ⟨rfl, hg⟩
        rw [HE.out]
        exact ⟨rfl, ProgC.bad HNE.out (grown_trans HPS.out.g hg)⟩
      · have CC2 := Lib.hid CC
        have HCT := Lib.hid (show countS bs at1 8 2 = manyS bs (c2 * 2) k2 [] from hct2.trans (by congr 1))
        have hc8 : c2 ≤ 8 := by omega
        have hc63 : (c2 : Int) ≤ 9223372036854775807 := by omega
        clear CC hct2 hc2
        go_wp2_with fail
        refine (CC2.out _ (HB.out.grownC HR.out HPS.out.g) HPS.out.rd).mono ?_
        rintro e1 w6 ⟨rfl, hrd, hg⟩
        replace HPS := Lib.hid (HPS.out.num hrd hg)
        clear hrd hg CC2
        go_wp2
        obtain ⟨wo, hwo⟩ : ∃ t, t = wr := ⟨_, rfl⟩
        subst hwo
        go_loopw [18] (fun iv wr => ∃ (i d1 d2 : Nat) (O1 O2 : Option Addr) (at2 : Int) (xk xs : List Int), iv = .int .i64 (i : Int) ∧ i ≤ c2 ∧ Hid (xk.length = i ∧ xs.length = i) ∧ Hid (manyS bs (i * 2) k2 [] = (objsN xk xs, at2, 0)) ∧ Hid (PS r E u v w wr q at2 [.slice O j dd, .slice O1 i d1, .slice O2 i d2, .int .i64 0, .int .i64 0, .int .i64 0] (.slice O j dd) (.slice O1 i d1) (.slice O2 i d2) j i i (xc) (xk) (xs))) (fun iv _ => c2 - (intOf iv).toNat)
        case atStart => exact ⟨0, 0, 0, none, none, k2, [], [], rfl, by omega, Lib.hid ⟨rfl, rfl⟩, Lib.hid (by rw [Nat.zero_mul, many_none]; rfl), HPS⟩
        case round =>
          clear HPS
          obtain ⟨i, d1, d2, O1, O2, at2, xk, xs, rfl, hi, HLL, HMI, HPS⟩ := hrel
          by_cases hlt : i < c2
          · have e1 : decide ((i : Int) < (c2 : Int)) = true := by simpa using hlt
            have e1n : decide (i < c2) = true := by simpa using hlt
            have HLT := Lib.hid hlt
            replace HPS := Lib.hid HPS.out.drew
            have cp1 : wr.cell? ⟨q + 1, 1, none⟩ = some (.slice O1 i d1) := HPS.out.cell 1 rfl
            have hi1 : i ≤ 100000 := by omega
            rcases num_cases r E u v bs at2 hn with ⟨x, k3, hm1, NN⟩ | ⟨e, he, hm1, NN⟩
            rotate_left
            · have NN2 := Lib.hid NN
              have HNE := Lib.hid he
              have HE := Lib.hid (show R = (noPg, 0, e) from HRR.out.symm.trans (prog_bad2 HC1.out (by rw [HCT.out, show c2 * 2 = (i * 2 + 1) + ((c2 - i - 1) * 2 + 1) by omega]; exact many_stop ((many_to HMI.out).trans (hm1 0 _)) he) he))
              clear NN he
              go_wp2
              refine LateH.begin ((fun wv => Hid True)) ((fun wv => Hid (wv.cell? ⟨q + 1, 1, none⟩ = some (.slice O1 i d1)))) (fun j => j == 7) (by kernel_rfl) ?_
              have hS : Hid True := Lib.hid trivial
              have hL : Hid (wr.drew.cell? ⟨q + 1, 1, none⟩ = some (.slice O1 i d1)) := Lib.hid cp1
              refine LateH.take (i := 0) (oi := ⟨some 20, .fieldAddr 25 (.tmp 3) 1, 0, "bytes.go:43", #[], none⟩) (v := ?_) rfl (by kernel_rfl) rfl (by kernel_rfl) (by kernel_rfl) (fun _ _ _ h => h) (Or.inl ⟨by rfl, ?_⟩) hS (fun _ => hL) ?_
              rotate_left
              · intro wv _; go_simp; try with_reducible rfl
              try simp only [Act.put, List.setIfInBounds_toArray, List.set_cons_zero, List.set_cons_succ]
              refine LateH.takeL (i := 1) (oi := ⟨some 21, .load 23 (.tmp 20), 23, "bytes.go:43", #[⟨0, .data⟩], none⟩) (v := ?_) rfl (by kernel_rfl) rfl (by kernel_rfl) (by kernel_rfl) (by kernel_rfl) (fun _ _ _ h => h) (Or.inl ⟨by rfl, ?_⟩) hS (fun _ => hL) ?_
              rotate_left
              · intro wv hL; have hrun := hL.out; go_simp; try with_reducible rfl
              try simp only [Act.put, List.setIfInBounds_toArray, List.set_cons_zero, List.set_cons_succ]
              refine LateH.take (i := 2) (oi := ⟨some 22, .move (.tmp 0), 73, "bytes.go:43", #[], none⟩) (v := ?_) rfl (by kernel_rfl) rfl (by kernel_rfl) (by kernel_rfl) (fun _ _ _ h => h) (Or.inl ⟨by rfl, ?_⟩) hS (fun _ => hL) ?_
              rotate_left
              · intro wv _; go_simp; try with_reducible rfl
              try simp only [Act.put, List.setIfInBounds_toArray, List.set_cons_zero, List.set_cons_succ]
              refine LateH.ready (rs := [3]) (by kernel_rfl) (by simp) (LateR.cons (g2 := true) (o := ⟨some 23, .call { callee := .value (.func 50), args := #[.tmp 22], argTypes := #[73] }, 3, "bytes.go:43", #[⟨2, .data⟩], none⟩) rfl (by rfl) (fun K hK => ?_) LateR.nil)
              go_simp
              refine (NN2.out _ (HB.out.grownC HR.out HPS.out.g) HPS.out.rd).mono ?_; rintro e1 w5 ⟨rfl, hg⟩
              go_wp2_with fail
              rw [HE.out]
              exact ⟨rfl, ProgC.bad HNE.out (grown_trans HPS.out.g hg)⟩
            · have NN2 := Lib.hid NN
              clear NN
              go_wp2
              refine wp_region_noPanic ?_
              refine LateH.begin ((fun wv => Hid True)) ((fun wv => Hid (wv.cell? ⟨q + 1, 1, none⟩ = some (.slice O1 i d1)))) (fun j => j == 7) (by kernel_rfl) ?_
              have hS : Hid True := Lib.hid trivial
              have hL : Hid (wr.drew.cell? ⟨q + 1, 1, none⟩ = some (.slice O1 i d1)) := Lib.hid cp1
              refine LateH.take (i := 0) (oi := ⟨some 20, .fieldAddr 25 (.tmp 3) 1, 0, "bytes.go:43", #[], none⟩) (v := ?_) rfl (by kernel_rfl) rfl (by kernel_rfl) (by kernel_rfl) (fun _ _ _ h => h) (Or.inl ⟨by rfl, ?_⟩) hS (fun _ => hL) ?_
              rotate_left
              · intro wv _; go_simp; try with_reducible rfl
              try simp only [Act.put, List.setIfInBounds_toArray, List.set_cons_zero, List.set_cons_succ]
              refine LateH.takeL (i := 1) (oi := ⟨some 21, .load 23 (.tmp 20), 23, "bytes.go:43", #[⟨0, .data⟩], none⟩) (v := ?_) rfl (by kernel_rfl) rfl (by kernel_rfl) (by kernel_rfl) (by kernel_rfl) (fun _ _ _ h => h) (Or.inl ⟨by rfl, ?_⟩) hS (fun _ => hL) ?_
              rotate_left
              · intro wv hL; have hrun := hL.out; go_simp; try with_reducible rfl
              try simp only [Act.put, List.setIfInBounds_toArray, List.set_cons_zero, List.set_cons_succ]
              refine LateH.take (i := 2) (oi := ⟨some 22, .move (.tmp 0), 73, "bytes.go:43", #[], none⟩) (v := ?_) rfl (by kernel_rfl) rfl (by kernel_rfl) (by kernel_rfl) (fun _ _ _ h => h) (Or.inl ⟨by rfl, ?_⟩) hS (fun _ => hL) ?_
              rotate_left
              · intro wv _; go_simp; try with_reducible rfl
              try simp only [Act.put, List.setIfInBounds_toArray, List.set_cons_zero, List.set_cons_succ]
              refine LateH.ready (rs := [3]) (by kernel_rfl) (by simp) (LateR.cons (g2 := true) (o := ⟨some 23, .call { callee := .value (.func 50), args := #[.tmp 22], argTypes := #[73] }, 3, "bytes.go:43", #[⟨2, .data⟩], none⟩) rfl (by rfl) (fun K hK => ?_) LateR.nil)
              go_simp
              refine (NN2.out _ (HB.out.grownC HR.out HPS.out.g) HPS.out.rd).mono ?_; rintro e1 w5k ⟨rfl, hrd, hg⟩
              replace HPS := Lib.hid (HPS.out.num hrd hg)
              replace hL := Lib.hid (show w5k.cell? ⟨q + 1, 1, none⟩ = some (.slice O1 i d1) from HPS.out.cell 1 rfl)
              obtain ⟨hkk, hlk⟩ := HPS.out.ks.lit x
              obtain ⟨Bk, dk, w7k, apk, hksk, _⟩ := hkk.appK hlk hi1
              have HAPk := Lib.hid (apk 23); have HKSk := Lib.hid hksk
              have fpk : w7k.frozen? ⟨q + 1, 1, none⟩ = false := blk_frozen HKSk.out.p 1
              have cqk : w7k.cell? ⟨q + 1, 1, none⟩ = some (.slice O1 i d1) := (blk_cell HKSk.out.p 1).trans rfl
              clear hrd hg apk hksk hkk hlk
              go_wp2_with fail
              refine Shut.out hK _ _ hS (fun _ => hL) ?_
              clear hK K
              try simp only [Act.put, List.setIfInBounds_toArray, List.set_cons_zero, List.set_cons_succ]
              refine LateH.ready (rs := [4]) (by kernel_rfl) (by simp) (LateR.cons (g2 := true) (o := ⟨some 24, .buildSlice 23 1 #[(0, .tmp 23)], 23, "bytes.go:43", #[⟨3, .data⟩], none⟩) rfl (by rfl) (fun K hK => ?_) LateR.nil)
              go_simp
              replace hL := Lib.hid (show (w5k.alloc (.cells #[.int .i64 x] 3)).cell? ⟨q + 1, 1, none⟩ = some (.slice O1 i d1) from (blk_cell ((heap_alloc_old _ _ (blk_lt HPS.out.ks.p)).trans HPS.out.ks.p) 1).trans rfl)
              refine Shut.out hK _ _ hS (fun _ => hL) ?_
              clear hK K
              try simp only [Act.put, List.setIfInBounds_toArray, List.set_cons_zero, List.set_cons_succ]
              refine LateH.ready (rs := [5]) (by kernel_rfl) (by simp) (LateR.cons (g2 := true) (o := ⟨some 25, .call { callee := .builtin .append, args := #[.tmp 21, .tmp 24], argTypes := #[23, 23] }, 23, "bytes.go:43", #[⟨1, .data⟩, ⟨4, .data⟩, ⟨3, .chain⟩], none⟩) rfl (by rfl) (fun K hK => ?_) LateR.nil)
              refine op_app_run7 (by rfl) rfl rfl rfl HAPk.out ?_
              replace hL := Lib.hid cqk
              refine Shut.out hK _ _ hS (fun _ => hL) ?_
              clear hK K
              try simp only [Act.put, List.setIfInBounds_toArray, List.set_cons_zero, List.set_cons_succ]
              refine LateH.take (i := 6) (oi := ⟨some 26, .fieldAddr 25 (.tmp 3) 1, 0, "bytes.go:43", #[⟨0, .phase⟩, ⟨1, .phase⟩, ⟨2, .phase⟩, ⟨3, .phase⟩, ⟨4, .phase⟩, ⟨5, .phase⟩], none⟩) (v := ?_) rfl (by kernel_rfl) rfl (by kernel_rfl) (by kernel_rfl) (fun _ _ _ h => h) (Or.inl ⟨by rfl, ?_⟩) hS (fun _ => hL) ?_
              rotate_left
              · intro wv _; go_simp; try with_reducible rfl
              try simp only [Act.put, List.setIfInBounds_toArray, List.set_cons_zero, List.set_cons_succ]
              refine LateH.ready (rs := [7]) (by kernel_rfl) (by simp) (LateR.cons (g2 := false) (o := ⟨none, .store 23 (.tmp 26) (.tmp 25), 0, "bytes.go:43", #[⟨6, .data⟩, ⟨5, .data⟩, ⟨5, .chain⟩, ⟨0, .phase⟩, ⟨1, .phase⟩, ⟨2, .phase⟩, ⟨3, .phase⟩, ⟨4, .phase⟩, ⟨5, .phase⟩], none⟩) rfl (by rfl) (fun K hK => ?_) LateR.nil)
              go_simp
              replace hS := Lib.hid trivial
              refine Shut.out hK _ _ hS (fun h => nomatch h) ?_
              clear hK K
              try simp only [Act.put, List.setIfInBounds_toArray, List.set_cons_zero, List.set_cons_succ]
              refine LateH.done (by kernel_rfl) ?_ _
              refine NoPanic.normal ?_
              replace HPS := Lib.hid (HPS.out.to (HKSk.out.setp 1 (.slice Bk (i + 1) dk)))
              clear fpk cqk HAPk HKSk
              clear cp1
              generalize w7k.setCell ⟨q + 1, 1, none⟩ (.slice Bk (i + 1) dk) = wn at *
              replace HPS := Lib.hid HPS.out.drew
              have cp2 : wn.cell? ⟨q + 1, 2, none⟩ = some (.slice O2 i d2) := HPS.out.cell 2 rfl
              rcases num_cases r E u v bs k3 hn with ⟨y, k4, hm2, NM⟩ | ⟨e, he, hm2, NM⟩
              rotate_left
              · have NM2 := Lib.hid NM
                have HNE := Lib.hid he
                have HE := Lib.hid (show R = (noPg, 0, e) from HRR.out.symm.trans (prog_bad2 HC1.out (by rw [HCT.out, show c2 * 2 = (i * 2 + 2) + (c2 - i - 1) * 2 by omega]; exact many_stop ((many_to HMI.out).trans ((hm1 1 _).trans (hm2 0 _))) he) he))
                clear NM he
                go_wp2
                refine LateH.begin ((fun wv => Hid True)) ((fun wv => Hid (wv.cell? ⟨q + 1, 2, none⟩ = some (.slice O2 i d2)))) (fun j => j == 7) (by kernel_rfl) ?_
                have hS : Hid True := Lib.hid trivial
                have hL : Hid (wn.drew.cell? ⟨q + 1, 2, none⟩ = some (.slice O2 i d2)) := Lib.hid cp2
                refine LateH.take (i := 0) (oi := ⟨some 27, .fieldAddr 25 (.tmp 3) 2, 0, "bytes.go:44", #[], none⟩) (v := ?_) rfl (by kernel_rfl) rfl (by kernel_rfl) (by kernel_rfl) (fun _ _ _ h => h) (Or.inl ⟨by rfl, ?_⟩) hS (fun _ => hL) ?_
                rotate_left
                · intro wv _; go_simp; try with_reducible rfl
                try simp only [Act.put, List.setIfInBounds_toArray, List.set_cons_zero, List.set_cons_succ]
                refine LateH.takeL (i := 1) (oi := ⟨some 28, .load 23 (.tmp 27), 23, "bytes.go:44", #[⟨0, .data⟩], none⟩) (v := ?_) rfl (by kernel_rfl) rfl (by kernel_rfl) (by kernel_rfl) (by kernel_rfl) (fun _ _ _ h => h) (Or.inl ⟨by rfl, ?_⟩) hS (fun _ => hL) ?_
                rotate_left
                · intro wv hL; have hrun := hL.out; go_simp; try with_reducible rfl
                try simp only [Act.put, List.setIfInBounds_toArray, List.set_cons_zero, List.set_cons_succ]
                refine LateH.take (i := 2) (oi := ⟨some 29, .move (.tmp 0), 73, "bytes.go:44", #[], none⟩) (v := ?_) rfl (by kernel_rfl) rfl (by kernel_rfl) (by kernel_rfl) (fun _ _ _ h => h) (Or.inl ⟨by rfl, ?_⟩) hS (fun _ => hL) ?_
                rotate_left
                · intro wv _; go_simp; try with_reducible rfl
                try simp only [Act.put, List.setIfInBounds_toArray, List.set_cons_zero, List.set_cons_succ]
                refine LateH.ready (rs := [3]) (by kernel_rfl) (by simp) (LateR.cons (g2 := true) (o := ⟨some 30, .call { callee := .value (.func 50), args := #[.tmp 29], argTypes := #[73] }, 3, "bytes.go:44", #[⟨2, .data⟩], none⟩) rfl (by rfl) (fun K hK => ?_) LateR.nil)
                go_simp
                refine (NM2.out _ (HB.out.grownC HR.out HPS.out.g) HPS.out.rd).mono ?_; rintro e1 w5 ⟨rfl, hg⟩
                go_wp2_with fail
                rw [HE.out]
                exact ⟨rfl, ProgC.bad HNE.out (grown_trans HPS.out.g hg)⟩
              · have NM2 := Lib.hid NM
                have HM2 := Lib.hid (show manyS bs ((i + 1) * 2) k2 [] = (objsN (xk ++ [x]) (xs ++ [y]), k4, 0) by rw [show (i + 1) * 2 = i * 2 + 2 by omega, objsN_snoc _ _ _ _ (HLL.out.2.trans HLL.out.1.symm)]; exact (many_to HMI.out).trans ((hm1 1 _).trans ((hm2 0 _).trans (by rw [many_none, List.append_assoc]; rfl))))
                have HLN := Lib.hid (show (xk ++ [x]).length = i + 1 ∧ (xs ++ [y]).length = i + 1 from ⟨by simp [HLL.out.1], by simp [HLL.out.2]⟩)
                clear NM hm1 hm2 hlt
                go_wp2
                refine wp_region_noPanic ?_
                refine LateH.begin ((fun wv => Hid True)) ((fun wv => Hid (wv.cell? ⟨q + 1, 2, none⟩ = some (.slice O2 i d2)))) (fun j => j == 7) (by kernel_rfl) ?_
                have hS : Hid True := Lib.hid trivial
                have hL : Hid (wn.drew.cell? ⟨q + 1, 2, none⟩ = some (.slice O2 i d2)) := Lib.hid cp2
                refine LateH.take (i := 0) (oi := ⟨some 27, .fieldAddr 25 (.tmp 3) 2, 0, "bytes.go:44", #[], none⟩) (v := ?_) rfl (by kernel_rfl) rfl (by kernel_rfl) (by kernel_rfl) (fun _ _ _ h => h) (Or.inl ⟨by rfl, ?_⟩) hS (fun _ => hL) ?_
                rotate_left
                · intro wv _; go_simp; try with_reducible rfl
                try simp only [Act.put, List.setIfInBounds_toArray, List.set_cons_zero, List.set_cons_succ]
                refine LateH.takeL (i := 1) (oi := ⟨some 28, .load 23 (.tmp 27), 23, "bytes.go:44", #[⟨0, .data⟩], none⟩) (v := ?_) rfl (by kernel_rfl) rfl (by kernel_rfl) (by kernel_rfl) (by kernel_rfl) (fun _ _ _ h => h) (Or.inl ⟨by rfl, ?_⟩) hS (fun _ => hL) ?_
                rotate_left
                · intro wv hL; have hrun := hL.out; go_simp; try with_reducible rfl
                try simp only [Act.put, List.setIfInBounds_toArray, List.set_cons_zero, List.set_cons_succ]
                refine LateH.take (i := 2) (oi := ⟨some 29, .move (.tmp 0), 73, "bytes.go:44", #[], none⟩) (v := ?_) rfl (by kernel_rfl) rfl (by kernel_rfl) (by kernel_rfl) (fun _ _ _ h => h) (Or.inl ⟨by rfl, ?_⟩) hS (fun _ => hL) ?_
                rotate_left
                · intro wv _; go_simp; try with_reducible rfl
                try simp only [Act.put, List.setIfInBounds_toArray, List.set_cons_zero, List.set_cons_succ]
                refine LateH.ready (rs := [3]) (by kernel_rfl) (by simp) (LateR.cons (g2 := true) (o := ⟨some 30, .call { callee := .value (.func 50), args := #[.tmp 29], argTypes := #[73] }, 3, "bytes.go:44", #[⟨2, .data⟩], none⟩) rfl (by rfl) (fun K hK => ?_) LateR.nil)
                go_simp
                refine (NM2.out _ (HB.out.grownC HR.out HPS.out.g) HPS.out.rd).mono ?_; rintro e1 w5s ⟨rfl, hrd, hg⟩
                replace HPS := Lib.hid (HPS.out.num hrd hg)
                replace hL := Lib.hid (show w5s.cell? ⟨q + 1, 2, none⟩ = some (.slice O2 i d2) from HPS.out.cell 2 rfl)
                obtain ⟨hks, hls⟩ := HPS.out.ks.lit y
                obtain ⟨Bs, ds, w7s, aps, hkss, _⟩ := hks.appS hls hi1
                have HAPs := Lib.hid (aps 23); have HKSs := Lib.hid hkss
                have fps : w7s.frozen? ⟨q + 1, 2, none⟩ = false := blk_frozen HKSs.out.p 2
                have cqs : w7s.cell? ⟨q + 1, 2, none⟩ = some (.slice O2 i d2) := (blk_cell HKSs.out.p 2).trans rfl
                clear hrd hg aps hkss hks hls
                go_wp2_with fail
                refine Shut.out hK _ _ hS (fun _ => hL) ?_
                clear hK K
                try simp only [Act.put, List.setIfInBounds_toArray, List.set_cons_zero, List.set_cons_succ]
                refine LateH.ready (rs := [4]) (by kernel_rfl) (by simp) (LateR.cons (g2 := true) (o := ⟨some 31, .buildSlice 23 1 #[(0, .tmp 30)], 23, "bytes.go:44", #[⟨3, .data⟩], none⟩) rfl (by rfl) (fun K hK => ?_) LateR.nil)
                go_simp
                replace hL := Lib.hid (show (w5s.alloc (.cells #[.int .i64 y] 3)).cell? ⟨q + 1, 2, none⟩ = some (.slice O2 i d2) from (blk_cell ((heap_alloc_old _ _ (blk_lt HPS.out.ks.p)).trans HPS.out.ks.p) 2).trans rfl)
                refine Shut.out hK _ _ hS (fun _ => hL) ?_
                clear hK K
                try simp only [Act.put, List.setIfInBounds_toArray, List.set_cons_zero, List.set_cons_succ]
                refine LateH.ready (rs := [5]) (by kernel_rfl) (by simp) (LateR.cons (g2 := true) (o := ⟨some 32, .call { callee := .builtin .append, args := #[.tmp 28, .tmp 31], argTypes := #[23, 23] }, 23, "bytes.go:44", #[⟨1, .data⟩, ⟨4, .data⟩, ⟨3, .chain⟩], none⟩) rfl (by rfl) (fun K hK => ?_) LateR.nil)
                refine op_app_run7 (by rfl) rfl rfl rfl HAPs.out ?_
                replace hL := Lib.hid cqs
                refine Shut.out hK _ _ hS (fun _ => hL) ?_
                clear hK K
                try simp only [Act.put, List.setIfInBounds_toArray, List.set_cons_zero, List.set_cons_succ]
                refine LateH.take (i := 6) (oi := ⟨some 33, .fieldAddr 25 (.tmp 3) 2, 0, "bytes.go:44", #[⟨0, .phase⟩, ⟨1, .phase⟩, ⟨2, .phase⟩, ⟨3, .phase⟩, ⟨4, .phase⟩, ⟨5, .phase⟩], none⟩) (v := ?_) rfl (by kernel_rfl) rfl (by kernel_rfl) (by kernel_rfl) (fun _ _ _ h => h) (Or.inl ⟨by rfl, ?_⟩) hS (fun _ => hL) ?_
                rotate_left
                · intro wv _; go_simp; try with_reducible rfl
                try simp only [Act.put, List.setIfInBounds_toArray, List.set_cons_zero, List.set_cons_succ]
                refine LateH.ready (rs := [7]) (by kernel_rfl) (by simp) (LateR.cons (g2 := false) (o := ⟨none, .store 23 (.tmp 33) (.tmp 32), 0, "bytes.go:44", #[⟨6, .data⟩, ⟨5, .data⟩, ⟨5, .chain⟩, ⟨0, .phase⟩, ⟨1, .phase⟩, ⟨2, .phase⟩, ⟨3, .phase⟩, ⟨4, .phase⟩, ⟨5, .phase⟩], none⟩) rfl (by rfl) (fun K hK => ?_) LateR.nil)
                go_simp
                replace hS := Lib.hid trivial
                refine Shut.out hK _ _ hS (fun h => nomatch h) ?_
                clear hK K
                try simp only [Act.put, List.setIfInBounds_toArray, List.set_cons_zero, List.set_cons_succ]
                refine LateH.done (by kernel_rfl) ?_ _
                refine NoPanic.normal ?_
                replace HPS := Lib.hid (HPS.out.to (HKSs.out.setp 2 (.slice Bs (i + 1) ds)))
                clear fps cqs HAPs HKSs
                generalize w7s.setCell ⟨q + 1, 2, none⟩ (.slice Bs (i + 1) ds) = wm at *
                go_wp2
                go_roundw
                case rel => exact ⟨i + 1, dk, ds, Bk, Bs, k4, _, _, by go_num, by have := HLT.out; omega, HLN, HM2, HPS⟩
                case measure => have := HLT.out; simp [intOf]; omega
          · have ei : i = c2 := by omega
            have e1 : decide ((i : Int) < (c2 : Int)) = false := by simp; omega
            have e1n : decide (i < c2) = false := by simp; omega
            have HC2 := Lib.hid (show countS bs at1 8 2 = (objsN xk xs, at2, 0) by rw [HCT.out, ← ei]; exact HMI.out)
            have hi8 : i ≤ 8 := by omega
            clear ei hlt hi HMI HCT
            rcases num_cases r E u v bs at2 hn with ⟨x, b1, hm0, N0⟩ | ⟨e, he, hm0, N0⟩
            rotate_left
            · have M0 := Lib.hid N0
              have HNE := Lib.hid he
              have HE := Lib.hid (show R = (noPg, 0, e) from HRR.out.symm.trans (prog_bad3 HC1.out HC2.out (hm0 2 _) he))
              clear N0 he
              go_wp2_with fail
              refine (M0.out _ (HB.out.grownC HR.out HPS.out.g) HPS.out.rd).mono ?_
              rintro e1 wz ⟨rfl, hg⟩
              rw [HE.out]
              exact ⟨rfl, ProgC.bad HNE.out (grown_trans HPS.out.g hg)⟩
            · have M0 := Lib.hid N0
              clear N0
              go_wp2_with fail
              refine (M0.out _ (HB.out.grownC HR.out HPS.out.g) HPS.out.rd).mono ?_
              rintro e1 wa0 ⟨rfl, hrd, hg⟩
              replace HPS := Lib.hid (HPS.out.num hrd hg)
              clear hrd hg M0
              have gc0 : wa0.cell? ⟨q + 1, 3, none⟩ = some (.int .i64 0) := HPS.out.cell 3 rfl
              have gf0 : wa0.frozen? ⟨q + 1, 3, none⟩ = false := HPS.out.frozen 3
              obtain ⟨wb0, hwb0⟩ : ∃ W, wa0.setCell ⟨q + 1, 3, none⟩ (.int .i64 x) = W := ⟨_, rfl⟩
              replace HPS := Lib.hid (hwb0 ▸ HPS.out.to (HPS.out.ks.setp 3 (.int .i64 x)))
              rcases num_cases r E u v bs b1 hn with ⟨y, b2, hm1, N1⟩ | ⟨e, he, hm1, N1⟩
              rotate_left
              · have M1 := Lib.hid N1
                have HNE := Lib.hid he
                have HE := Lib.hid (show R = (noPg, 0, e) from HRR.out.symm.trans (prog_bad3 HC1.out HC2.out ((hm0 2 _).trans (hm1 1 _)) he))
                clear N1 he
                go_wp2_with fail
                refine (M1.out _ (HB.out.grownC HR.out HPS.out.g) HPS.out.rd).mono ?_
                rintro e1 wz ⟨rfl, hg⟩
                rw [HE.out]
                exact ⟨rfl, ProgC.bad HNE.out (grown_trans HPS.out.g hg)⟩
              · have M1 := Lib.hid N1
                clear N1
                go_wp2_with fail
                refine (M1.out _ (HB.out.grownC HR.out HPS.out.g) HPS.out.rd).mono ?_
                rintro e1 wa1 ⟨rfl, hrd, hg⟩
                replace HPS := Lib.hid (HPS.out.num hrd hg)
                clear hrd hg M1
                have gc1 : wa1.cell? ⟨q + 1, 4, none⟩ = some (.int .i64 0) := HPS.out.cell 4 rfl
                have gf1 : wa1.frozen? ⟨q + 1, 4, none⟩ = false := HPS.out.frozen 4
                obtain ⟨wb1, hwb1⟩ : ∃ W, wa1.setCell ⟨q + 1, 4, none⟩ (.int .i64 y) = W := ⟨_, rfl⟩
                replace HPS := Lib.hid (hwb1 ▸ HPS.out.to (HPS.out.ks.setp 4 (.int .i64 y)))
                rcases num_cases r E u v bs b2 hn with ⟨z, b3, hm2, N2⟩ | ⟨e, he, hm2, N2⟩
                rotate_left
                · have M2 := Lib.hid N2
                  have HNE := Lib.hid he
                  have HE := Lib.hid (show R = (noPg, 0, e) from HRR.out.symm.trans (prog_bad3 HC1.out HC2.out ((hm0 2 _).trans ((hm1 1 _).trans (hm2 0 _))) he))
                  clear N2 he
                  go_wp2_with fail
                  refine (M2.out _ (HB.out.grownC HR.out HPS.out.g) HPS.out.rd).mono ?_
                  rintro e1 wz ⟨rfl, hg⟩
                  rw [HE.out]
                  exact ⟨rfl, ProgC.bad HNE.out (grown_trans HPS.out.g hg)⟩
                · have M2 := Lib.hid N2
                  clear N2
                  go_wp2_with fail
                  refine (M2.out _ (HB.out.grownC HR.out HPS.out.g) HPS.out.rd).mono ?_
                  rintro e1 wa2 ⟨rfl, hrd, hg⟩
                  replace HPS := Lib.hid (HPS.out.num hrd hg)
                  clear hrd hg M2
                  have gc2 : wa2.cell? ⟨q + 1, 5, none⟩ = some (.int .i64 0) := HPS.out.cell 5 rfl
                  have gf2 : wa2.frozen? ⟨q + 1, 5, none⟩ = false := HPS.out.frozen 5
                  obtain ⟨wb2, hwb2⟩ : ∃ W, wa2.setCell ⟨q + 1, 5, none⟩ (.int .i64 z) = W := ⟨_, rfl⟩
                  replace HPS := Lib.hid (hwb2 ▸ HPS.out.to (HPS.out.ks.setp 5 (.int .i64 z)))
                  have HPE := Lib.hid (prog_end HC1.out HC2.out (HLL.out.2.trans HLL.out.1.symm) (show manyS bs 3 at2 [] = ([x, y, z], b3, 0) from (hm0 2 _).trans ((hm1 1 _).trans ((hm2 0 _).trans (many_none _ _ _)))))
                  have RT := rightL_any O j dd O1 i d1 O2 i d2 xc xk xs x y z wb2 (i4s_own HPS.out.ks.c) (is_own HPS.out.ks.k) (is_own HPS.out.ks.s) (by omega) (by omega) (by omega)
                  have gp0 : wb2.cell? ⟨q + 1, 0, none⟩ = some (.slice O j dd) := HPS.out.cell 0 rfl
                  have gp1 : wb2.cell? ⟨q + 1, 1, none⟩ = some (.slice O1 i d1) := HPS.out.cell 1 rfl
                  have gp2 : wb2.cell? ⟨q + 1, 2, none⟩ = some (.slice O2 i d2) := HPS.out.cell 2 rfl
                  have gp3 : wb2.cell? ⟨q + 1, 3, none⟩ = some (.int .i64 x) := HPS.out.cell 3 rfl
                  have gp4 : wb2.cell? ⟨q + 1, 4, none⟩ = some (.int .i64 y) := HPS.out.cell 4 rfl
                  have gp5 : wb2.cell? ⟨q + 1, 5, none⟩ = some (.int .i64 z) := HPS.out.cell 5 rfl
                  clear hm0 hm1 hm2
                  cases hrt : rightPg ⟨xc, xk, xs, x, y, z⟩
                  · rw [hrt] at RT
                    replace RT := Lib.hid RT
                    have HE := Lib.hid (show R = (noPg, 0, 3) from HRR.out.symm.trans (HPE.out.trans (by rw [hrt]; rfl)))
                    clear hrt
                    go_wp2_with fail
                    refine RT.out.mono ?_
                    rintro e1 w8 ⟨rfl, hb⟩
                    have HG8 := Lib.hid (grown_trans HPS.out.g (grown_below hb))
                    clear hb
                    go_wp2_with fail
                    refine (end_any _ _).mono ?_
                    rintro e1 w9 ⟨rfl, rfl⟩
                    rw [HE.out]
                    exact ⟨rfl, ProgC.bad (by decide) HG8.out⟩
                  · rw [hrt] at RT
                    replace RT := Lib.hid RT
                    have HE := Lib.hid (show R = (⟨xc, xk, xs, x, y, z⟩, b3, 0) from HRR.out.symm.trans (HPE.out.trans (by rw [hrt]; rfl)))
                    clear hrt
                    go_wp2_with fail
                    refine RT.out.mono ?_
                    rintro e1 w8 ⟨rfl, hb⟩
                    clear gp0 gp1 gp2 gp3 gp4 gp5
                    replace HPS := Lib.hid (HPS.out.num (HPS.out.rd.below hb) (grown_below hb))
                    clear hb RT
                    have gp0 : w8.cell? ⟨q + 1, 0, none⟩ = some (.slice O j dd) := HPS.out.cell 0 rfl
                    have gp1 : w8.cell? ⟨q + 1, 1, none⟩ = some (.slice O1 i d1) := HPS.out.cell 1 rfl
                    have gp2 : w8.cell? ⟨q + 1, 2, none⟩ = some (.slice O2 i d2) := HPS.out.cell 2 rfl
                    have gp3 : w8.cell? ⟨q + 1, 3, none⟩ = some (.int .i64 x) := HPS.out.cell 3 rfl
                    have gp4 : w8.cell? ⟨q + 1, 4, none⟩ = some (.int .i64 y) := HPS.out.cell 4 rfl
                    have gp5 : w8.cell? ⟨q + 1, 5, none⟩ = some (.int .i64 z) := HPS.out.cell 5 rfl
                    have gr0 : w8.cell? ⟨q, 0, none⟩ = some (.slice none 0 0) := (blk_cell HPS.out.rb 0).trans rfl
                    have gr1 : w8.cell? ⟨q, 1, none⟩ = some (.slice none 0 0) := (blk_cell HPS.out.rb 1).trans rfl
                    have gr2 : w8.cell? ⟨q, 2, none⟩ = some (.slice none 0 0) := (blk_cell HPS.out.rb 2).trans rfl
                    have gr3 : w8.cell? ⟨q, 3, none⟩ = some (.int .i64 0) := (blk_cell HPS.out.rb 3).trans rfl
                    have gr4 : w8.cell? ⟨q, 4, none⟩ = some (.int .i64 0) := (blk_cell HPS.out.rb 4).trans rfl
                    have gr5 : w8.cell? ⟨q, 5, none⟩ = some (.int .i64 0) := (blk_cell HPS.out.rb 5).trans rfl
                    have gz0 : w8.frozen? ⟨q, 0, none⟩ = false := blk_frozen HPS.out.rb 0
                    have gz1 : w8.frozen? ⟨q, 1, none⟩ = false := blk_frozen HPS.out.rb 1
                    have gz2 : w8.frozen? ⟨q, 2, none⟩ = false := blk_frozen HPS.out.rb 2
                    have gz3 : w8.frozen? ⟨q, 3, none⟩ = false := blk_frozen HPS.out.rb 3
                    have gz4 : w8.frozen? ⟨q, 4, none⟩ = false := blk_frozen HPS.out.rb 4
                    have gz5 : w8.frozen? ⟨q, 5, none⟩ = false := blk_frozen HPS.out.rb 5
                    go_wp2
                    have BZ : ((((((w8.setCell ⟨q, 0, none⟩ (.slice O j dd)).setCell ⟨q, 1, none⟩ (.slice O1 i d1)).setCell ⟨q, 2, none⟩ (.slice O2 i d2)).setCell ⟨q, 3, none⟩ (.int .i64 x)).setCell ⟨q, 4, none⟩ (.int .i64 y)).setCell ⟨q, 5, none⟩ (.int .i64 z)).heap[q]? = some (.cells #[.slice O j dd, .slice O1 i d1, .slice O2 i d2, .int .i64 x, .int .i64 y, .int .i64 z] 25) := (blk_set (j := 5) (blk_set (j := 4) (blk_set (j := 3) (blk_set (j := 2) (blk_set (j := 1) (blk_set (j := 0) HPS.out.rb (.slice O j dd)) (.slice O1 i d1)) (.slice O2 i d2)) (.int .i64 x)) (.int .i64 y)) (.int .i64 z))
                    have hq1 : w.heap.size ≤ q + 1 + 1 := by have := HPS.out.q0; omega
                    refine bodyPost_ret (results_cell Try.results38 (by rfl) (run_loadVar_row (P := Try.prog) _ q 25 25 _ (0, 0) _ BZ Try.underlying25 (by rfl) (by kernel_rfl))) rfl ?_
                    rw [HE.out]
                    exact Or.inr ⟨rfl, O, j, dd, O1, i, d1, O2, i, d2, rfl, ((((((HPS.out.rd.other (by have := HPS.out.rq; omega) 0 (.slice O j dd)).other (by have := HPS.out.rq; omega) 1 (.slice O1 i d1)).other (by have := HPS.out.rq; omega) 2 (.slice O2 i d2)).other (by have := HPS.out.rq; omega) 3 (.int .i64 x)).other (by have := HPS.out.rq; omega) 4 (.int .i64 y)).other (by have := HPS.out.rq; omega) 5 (.int .i64 z)), (grown_new (grown_new (grown_new (grown_new (grown_new (grown_new HPS.out.g (by have := HPS.out.q0; omega) 0 (.slice O j dd)) (by have := HPS.out.q0; omega) 1 (.slice O1 i d1)) (by have := HPS.out.q0; omega) 2 (.slice O2 i d2)) (by have := HPS.out.q0; omega) 3 (.int .i64 x)) (by have := HPS.out.q0; omega) 4 (.int .i64 y)) (by have := HPS.out.q0; omega) 5 (.int .i64 z)), own_base (own_apart (own_apart (own_apart (own_apart (own_apart (own_apart HPS.out.ks.c (k := q) (o := 0) (u := .slice O j dd) (by omega)) (k := q) (o := 1) (u := .slice O1 i d1) (by omega)) (k := q) (o := 2) (u := .slice O2 i d2) (by omega)) (k := q) (o := 3) (u := .int .i64 x) (by omega)) (k := q) (o := 4) (u := .int .i64 y) (by omega)) (k := q) (o := 5) (u := .int .i64 z) (by omega)) hq1, own_base (own_apart (own_apart (own_apart (own_apart (own_apart (own_apart HPS.out.ks.k (k := q) (o := 0) (u := .slice O j dd) (by omega)) (k := q) (o := 1) (u := .slice O1 i d1) (by omega)) (k := q) (o := 2) (u := .slice O2 i d2) (by omega)) (k := q) (o := 3) (u := .int .i64 x) (by omega)) (k := q) (o := 4) (u := .int .i64 y) (by omega)) (k := q) (o := 5) (u := .int .i64 z) (by omega)) hq1, own_base (own_apart (own_apart (own_apart (own_apart (own_apart (own_apart HPS.out.ks.s (k := q) (o := 0) (u := .slice O j dd) (by omega)) (k := q) (o := 1) (u := .slice O1 i d1) (by omega)) (k := q) (o := 2) (u := .slice O2 i d2) (by omega)) (k := q) (o := 3) (u := .int .i64 x) (by omega)) (k := q) (o := 4) (u := .int .i64 y) (by omega)) (k := q) (o := 5) (u := .int .i64 z) (by omega)) hq1⟩
end Go.Proofs.Ytkoodhnfphmbnaa
