/- The walk of TimerDues: it answers true, over any world; no condition. -/
import Derived.Test.YtehpfpphpffniaaTimS
namespace Go.Proofs.Ytehpfpphpffniaa
set_option linter.unusedVariables false
set_option linter.unusedSimpArgs false
open Go.RowKit
theorem due_split12 (h : List Tm) (now : Int) : ∃ d : List Tm, (dueH h now).2.1 = d.map Prod.snd ∧ sortH h = d ++ sortH (dueH h now).1 ∧ (∀ x ∈ d, x.1 ≤ now) ∧ ∀ x ∈ sortH (dueH h now).1, now < x.1 := by
  cases hr : rightH h
  · have h1 : dueH h now = (h, [], 1) := by unfold dueH; rw [if_pos hr]
    have h2 : sortH h = [] := by unfold sortH; rw [if_neg (by rw [hr]; simp)]
    rw [h1]
    exact ⟨[], rfl, rfl, by simp, by intro x hx; have hx : x ∈ sortH h := hx; rw [h2] at hx; simp at hx⟩
  · have h1 : dueH h now = ((dueF now (h.length + 1) h []).1, (dueF now (h.length + 1) h []).2, 0) := by unfold dueH; rw [if_neg (by rw [hr]; simp)]
    obtain ⟨_, d, g2, g3, g4, g5⟩ := due_ok (now := now) (out := []) (Nat.lt_succ_self h.length) (rt_iff.1 hr)
    rw [h1]
    exact ⟨d, by rw [g2]; rfl, g3, g4, g5⟩
theorem sort_len12 (h : List Tm) : (sortH h).length ≤ h.length := by
  cases hr : rightH h
  · unfold sortH; rw [if_neg (by rw [hr]; simp)]; simp
  · exact Nat.le_of_eq (sort_ok (rt_iff.1 hr)).2.1
theorem tm_drop_map (d s : List Tm) : (d ++ s).drop (d.map Prod.snd).length = s := by simp
set_option maxRecDepth 100000 in
set_option maxHeartbeats 8000000 in
theorem dues12_walk (A : Option Addr) (n c : Nat) (h : List Tm) (now : Int) (w : World) (hx : Tms w A n c h) :
    Calls Try.prog 4 #[.slice A n c, .int .i64 now] w fun e w' => e = .returned (.bool true) ∧ Below w.heap.size w w' := by
  have hlen := hx.len
  have RX := Lib.hid hx
  clear hx
  have HB := Lib.hid (And.intro (Below.refl w.heap.size w) (Nat.le_refl w.heap.size))
  by_cases hn : (30 : Int) < (n : Int)
  · have b0 : decide ((30 : Int) < (n : Int)) = true := decide_eq_true hn
    have b0n : decide (30 < n) = true := by simp; omega
    clear hn
    go_enter Try.func4, Try.ntmps4
    go_wp2_with fail
    refine (alive12 _).mono ?_
    rintro e w1 ⟨rfl, hb⟩
    replace RX := Lib.hid (Es.below RX.out hb)
    replace HB := Lib.hid (And.intro (HB.out.1.trans (hb.mono HB.out.2)) (Nat.le_trans HB.out.2 hb.size))
    clear hb
    go_wp2
    go_ret
    exact ⟨rfl, HB.out.1⟩
  · have b0 : decide ((30 : Int) < (n : Int)) = false := decide_eq_false hn
    have b0n : decide (30 < n) = false := by simp; omega
    have hn1 : n ≤ 30 := by omega
    clear hn
    obtain ⟨⟨al, tl, de⟩, hD⟩ : ∃ P, dueH h now = P := ⟨_, rfl⟩
    obtain ⟨ss, hS⟩ : ∃ P, sortH h = P := ⟨_, rfl⟩
    obtain ⟨sa, hA⟩ : ∃ P, sortH al = P := ⟨_, rfl⟩
    obtain ⟨d, d1, d2, d3, d4⟩ := due_split12 h now
    rw [hD] at d1 d2 d4
    simp only at d1 d2 d4
    rw [hS, hA] at d2
    rw [hA] at d4
    have hsl : ss.length ≤ 30 := by have := sort_len12 h; rw [hS] at this; omega
    have htl : tl.length ≤ 70 := by rw [d1]; have h1 := congrArg List.length d2; simp at h1 ⊢; omega
    have hal : al.length ≤ 70 := by have := due_len12 h now; rw [hD] at this; simp only at this; omega
    have hsa : sa.length ≤ 70 := by have h1 := congrArg List.length d2; simp at h1; omega
    have hs7 : ss.length ≤ 70 := by omega
    have hll : h.length ≤ 70 := by omega
    have HDS := Lib.hid (show ss.drop tl.length = sa from by rw [d1, d2]; exact tm_drop_map d sa)
    have HTS := Lib.hid (show tl.length ≤ ss.length from by rw [d1, d2]; simp)
    have HIN := Lib.hid (show ∀ i : Nat, i < tl.length → (tmAt ss i).1 ≤ now ∧ (tl.drop i = (tmAt ss i).2 :: tl.drop (i + 1)) from fun i hi => by
      have h1 : i < d.length := by rw [d1] at hi; simpa using hi
      have h2 : tmAt ss i = d[i] := by rw [d2, tmAt_get (by simp; omega), List.getElem_append_left h1]
      refine ⟨by rw [h2]; exact d3 _ (List.getElem_mem h1), ?_⟩
      rw [h2, d1, List.drop_eq_getElem_cons (by simpa using h1), List.getElem_map])
    have HOUT := Lib.hid (show ∀ i : Nat, tl.length ≤ i → i < ss.length → now < (tmAt ss i).1 from fun i h1 h2 => by
      have h3 : d.length ≤ i := by rw [d1] at h1; simpa using h1
      refine d4 _ ?_
      rw [d2, tmAt_get (by rw [← d2]; exact h2), List.getElem_append_right h3]
      exact List.getElem_mem _)
    have c1 := Lib.hid (show ∀ B m d W, Tms W B m d h → Calls Try.prog 18 #[.slice B m d, .int .i64 now] W (DW W al tl de) from fun B m d W hx => dueAs12 now hx (by have := hx.len; omega) hD)
    have c2 := Lib.hid (show ∀ B m d W, Tms W B m d h → Calls Try.prog 19 #[.slice B m d, .int .i64 now] W (DW W al tl de) from fun B m d W hx => by have hq := refDue12_any B m d h now W hx (by have := hx.len; omega); rw [hD] at hq; exact hq.mono fun _ _ hq => hq.as)
    have c3 := Lib.hid (show ∀ B m d W, Tms W B m d h → Calls Try.prog 21 #[.slice B m d] W (SW W ss) from fun B m d W hx => sortAs12 hx (by have := hx.len; omega) hS)
    have c4 := Lib.hid (show ∀ B m d W, Tms W B m d h → Calls Try.prog 22 #[.slice B m d] W (SW W ss) from fun B m d W hx => by have hq := refSorted12_any B m d h W hx (by have := hx.len; omega); rw [hS] at hq; exact hq.mono fun _ _ hq => hq.as)
    have c5 := Lib.hid (show ∀ B m d W, Tms W B m d al → Calls Try.prog 21 #[.slice B m d] W (SW W sa) from fun B m d W hx => sortAs12 hx (by have := hx.len; omega) hA)
    have c11 := Lib.hid (show ∀ W, Tms W A n c h → Calls Try.prog 8 #[.slice A n c] W (SW W h) from fun W hw => (refCopy12_any A n c h W hw (by omega)).mono fun _ _ hq => hq.as)
    have c12 := Lib.hid (show ∀ (xs : List Tm) (A B : Option Addr) (m d m2 d2 : Nat) W, xs.length ≤ 70 → Tms W A m d xs → Tms W B m2 d2 xs → Calls Try.prog 15 #[.slice A m d, .slice B m2 d2] W (YesT W true) from fun xs A B m d m2 d2 W hl h1 h2 => sameAs12 h1 h2 (by have := h1.len; omega) rfl)
    have c13 := Lib.hid (show ∀ (xs : List Int) (A B : Option Addr) (n c m d : Nat) W, Is W A n c xs → Is W B m d xs → xs.length ≤ 70 → Calls Try.prog 20 #[.slice A n c, .slice B m d] W (YesT W true) from fun xs A B n c m d W h1 h2 h3 => by have h := refInts_any A n c xs B m d xs W h1 h2 (by have := Is.len h1; omega); rw [decide_eq_true rfl] at h; exact h)
    clear hD hS hA d1 d2 d3 d4 d
    have HSL := Lib.hid hsl
    clear hsl
    go_enter Try.func4, Try.ntmps4
    go_wp2_with fail
    refine (alive12 _).mono ?_
    rintro e w1 ⟨rfl, hb⟩
    replace RX := Lib.hid (Es.below RX.out hb)
    replace HB := Lib.hid (And.intro (HB.out.1.trans (hb.mono HB.out.2)) (Nat.le_trans HB.out.2 hb.size))
    clear hb
    go_wp2_with fail
    refine (c11.out _ RX.out).mono ?_
    rintro e w2 ⟨B1, m1, d1, rfl, hrs, hb⟩
    replace RX := Lib.hid (Es.below RX.out hb)
    replace HB := Lib.hid (And.intro (HB.out.1.trans (hb.mono HB.out.2)) (Nat.le_trans HB.out.2 hb.size))
    clear hb
    have H1 := Lib.hid hrs
    clear hrs
    go_wp2_with fail
    refine (c1.out _ _ _ _ H1.out).mono ?_
    rintro e w3 ⟨B2, m2, d2, C2, k2, f2, rfl, hrs, his, hb⟩
    replace RX := Lib.hid (Es.below RX.out hb)
    replace H1 := Lib.hid (Es.below H1.out hb)
    replace HB := Lib.hid (And.intro (HB.out.1.trans (hb.mono HB.out.2)) (Nat.le_trans HB.out.2 hb.size))
    clear hb
    have H2 := Lib.hid hrs
    clear hrs
    have J2 := Lib.hid his
    clear his
    go_wp2_with fail
    refine (c2.out _ _ _ _ RX.out).mono ?_
    rintro e w4 ⟨B3, m3, d3, C3, k3, f3, rfl, hrs, his, hb⟩
    replace RX := Lib.hid (Es.below RX.out hb)
    replace H1 := Lib.hid (Es.below H1.out hb)
    replace H2 := Lib.hid (Es.below H2.out hb)
    replace J2 := Lib.hid (Es.below J2.out hb)
    replace HB := Lib.hid (And.intro (HB.out.1.trans (hb.mono HB.out.2)) (Nat.le_trans HB.out.2 hb.size))
    clear hb
    have H3 := Lib.hid hrs
    clear hrs
    have J3 := Lib.hid his
    clear his
    go_wp2_with fail
    refine (c12.out _ _ _ _ _ _ _ _ hal H2.out H3.out).mono ?_
    rintro e w5 ⟨rfl, hb⟩
    replace RX := Lib.hid (Es.below RX.out hb)
    replace H1 := Lib.hid (Es.below H1.out hb)
    replace H2 := Lib.hid (Es.below H2.out hb)
    replace J2 := Lib.hid (Es.below J2.out hb)
    replace H3 := Lib.hid (Es.below H3.out hb)
    replace J3 := Lib.hid (Es.below J3.out hb)
    replace HB := Lib.hid (And.intro (HB.out.1.trans (hb.mono HB.out.2)) (Nat.le_trans HB.out.2 hb.size))
    clear hb
    go_wp2_with fail
    refine (c13.out _ _ _ _ _ _ _ _ J2.out J3.out htl).mono ?_
    rintro e w6 ⟨rfl, hb⟩
    replace RX := Lib.hid (Es.below RX.out hb)
    replace H1 := Lib.hid (Es.below H1.out hb)
    replace H2 := Lib.hid (Es.below H2.out hb)
    replace J2 := Lib.hid (Es.below J2.out hb)
    replace H3 := Lib.hid (Es.below H3.out hb)
    replace J3 := Lib.hid (Es.below J3.out hb)
    replace HB := Lib.hid (And.intro (HB.out.1.trans (hb.mono HB.out.2)) (Nat.le_trans HB.out.2 hb.size))
    clear hb
    go_wp2_with fail
    refine (c3.out _ _ _ _ RX.out).mono ?_
    rintro e w7 ⟨B4, m4, d4, rfl, hrs, hb⟩
    replace RX := Lib.hid (Es.below RX.out hb)
    replace H1 := Lib.hid (Es.below H1.out hb)
    replace H2 := Lib.hid (Es.below H2.out hb)
    replace J2 := Lib.hid (Es.below J2.out hb)
    replace H3 := Lib.hid (Es.below H3.out hb)
    replace J3 := Lib.hid (Es.below J3.out hb)
    replace HB := Lib.hid (And.intro (HB.out.1.trans (hb.mono HB.out.2)) (Nat.le_trans HB.out.2 hb.size))
    clear hb
    have H4 := Lib.hid hrs
    clear hrs
    go_wp2_with fail
    refine (c4.out _ _ _ _ RX.out).mono ?_
    rintro e w8 ⟨B5, m5, d5, rfl, hrs, hb⟩
    replace RX := Lib.hid (Es.below RX.out hb)
    replace H1 := Lib.hid (Es.below H1.out hb)
    replace H2 := Lib.hid (Es.below H2.out hb)
    replace J2 := Lib.hid (Es.below J2.out hb)
    replace H3 := Lib.hid (Es.below H3.out hb)
    replace J3 := Lib.hid (Es.below J3.out hb)
    replace H4 := Lib.hid (Es.below H4.out hb)
    replace HB := Lib.hid (And.intro (HB.out.1.trans (hb.mono HB.out.2)) (Nat.le_trans HB.out.2 hb.size))
    clear hb
    have H5 := Lib.hid hrs
    clear hrs
    go_wp2_with fail
    refine (c12.out _ _ _ _ _ _ _ _ hs7 H4.out H5.out).mono ?_
    rintro e w9 ⟨rfl, hb⟩
    replace RX := Lib.hid (Es.below RX.out hb)
    replace H1 := Lib.hid (Es.below H1.out hb)
    replace H2 := Lib.hid (Es.below H2.out hb)
    replace J2 := Lib.hid (Es.below J2.out hb)
    replace H3 := Lib.hid (Es.below H3.out hb)
    replace J3 := Lib.hid (Es.below J3.out hb)
    replace H4 := Lib.hid (Es.below H4.out hb)
    replace H5 := Lib.hid (Es.below H5.out hb)
    replace HB := Lib.hid (And.intro (HB.out.1.trans (hb.mono HB.out.2)) (Nat.le_trans HB.out.2 hb.size))
    clear hb
    go_wp2_with fail
    refine (c12.out _ _ _ _ _ _ _ _ hll H1.out RX.out).mono ?_
    rintro e w10 ⟨rfl, hb⟩
    replace RX := Lib.hid (Es.below RX.out hb)
    replace H1 := Lib.hid (Es.below H1.out hb)
    replace H2 := Lib.hid (Es.below H2.out hb)
    replace J2 := Lib.hid (Es.below J2.out hb)
    replace H3 := Lib.hid (Es.below H3.out hb)
    replace J3 := Lib.hid (Es.below J3.out hb)
    replace H4 := Lib.hid (Es.below H4.out hb)
    replace H5 := Lib.hid (Es.below H5.out hb)
    replace HB := Lib.hid (And.intro (HB.out.1.trans (hb.mono HB.out.2)) (Nat.le_trans HB.out.2 hb.size))
    clear hb
    go_wp2_with fail
    refine (c3.out _ _ _ _ RX.out).mono ?_
    rintro e w11 ⟨B6, m6, d6, rfl, hrs, hb⟩
    replace RX := Lib.hid (Es.below RX.out hb)
    replace H1 := Lib.hid (Es.below H1.out hb)
    replace H2 := Lib.hid (Es.below H2.out hb)
    replace J2 := Lib.hid (Es.below J2.out hb)
    replace H3 := Lib.hid (Es.below H3.out hb)
    replace J3 := Lib.hid (Es.below J3.out hb)
    replace H4 := Lib.hid (Es.below H4.out hb)
    replace H5 := Lib.hid (Es.below H5.out hb)
    replace HB := Lib.hid (And.intro (HB.out.1.trans (hb.mono HB.out.2)) (Nat.le_trans HB.out.2 hb.size))
    clear hb
    have H6 := Lib.hid hrs
    clear hrs
    have HM6 := Lib.hid (Tms.len H6.out)
    have HK2 := Lib.hid (Is.len J2.out)
    have km : k2 ≤ m6 := by have := HM6.out; have := HK2.out; have := HTS.out; omega
    have m30 : m6 ≤ 30 := by have := HM6.out; have := HSL.out; omega
    clear hal htl hs7 hll hlen hn1 b0 b0n
    go_wp2
    go_loopw [13] (fun iv wr => ∃ (i : Nat), iv = .int .i64 (i : Int) ∧ i ≤ m6 ∧ Hid (Below w11.heap.size w11 wr)) (fun iv _ => m6 - (intOf iv).toNat)
    case atStart => exact ⟨0, rfl, by omega, Below.refl _ _⟩
    case round =>
      obtain ⟨i, rfl, hi, HBr⟩ := hrel
      have hb := HBr.out
      replace RX := Lib.hid (Es.below RX.out hb)
      replace H1 := Lib.hid (Es.below H1.out hb)
      replace H2 := Lib.hid (Es.below H2.out hb)
      replace J2 := Lib.hid (Es.below J2.out hb)
      replace H3 := Lib.hid (Es.below H3.out hb)
      replace J3 := Lib.hid (Es.below J3.out hb)
      replace H4 := Lib.hid (Es.below H4.out hb)
      replace H5 := Lib.hid (Es.below H5.out hb)
      replace H6 := Lib.hid (Es.below H6.out hb)
      replace HB := Lib.hid (And.intro (HB.out.1.trans (hb.mono HB.out.2)) (Nat.le_trans HB.out.2 hb.size))
      clear hb
      by_cases hlt : i < m6
      · have c1 : decide ((i : Int) < (m6 : Int)) = true := decide_eq_true (by omega)
        have c1n : decide (i < m6) = true := decide_eq_true hlt
        have i0 : (0 : Int) ≤ (i : Int) := by omega
        have i1 : (i : Int) < (m6 : Int) := by omega
        obtain ⟨b, off, rfl, _, g0, g1⟩ := Tms.look H6.out i hlt
        by_cases h2 : i < k2
        · have e1 : decide ((i : Int) < (k2 : Int)) = true := decide_eq_true (by omega)
          have e1n : decide (i < k2) = true := decide_eq_true h2
          have i2 : (i : Int) < (k2 : Int) := by omega
          obtain ⟨hq1, hq2⟩ := HIN.out i (by have := HK2.out; omega)
          obtain ⟨b9, o9, x9, hC, _, hc9, hd9⟩ := Is.look J2.out i h2
          rw [hq2] at hd9; injection hd9 with hx9 _
          obtain ⟨⟨tw, tk⟩, htk⟩ : ∃ x, tmAt ss i = x := ⟨_, rfl⟩
          rw [htk] at g0 g1 hq1 hx9
          simp only at g0 g1 hq1 hx9
          subst hx9; subst hC
          have e2 : decide (tw ≤ now) = true := decide_eq_true hq1
          have e3 : (tk != tk) = false := by simp
          clear htk hq1 hq2 h2 hlt
          go_wp2
          go_quiet (fail)
          go_wp2
          go_roundw
          case rel => exact ⟨i + 1, by go_num, by omega, bel_drewN HBr.out _⟩
          case measure => simp [intOf]; omega
        · have e1 : decide ((i : Int) < (k2 : Int)) = false := decide_eq_false (by omega)
          have e1n : decide (i < k2) = false := decide_eq_false h2
          have hq1 := HOUT.out i (by have := HK2.out; omega) (by have := HM6.out; omega)
          obtain ⟨⟨tw, tk⟩, htk⟩ : ∃ x, tmAt ss i = x := ⟨_, rfl⟩
          rw [htk] at g0 g1 hq1
          simp only at g0 g1 hq1
          have e2 : decide (tw ≤ now) = false := decide_eq_false (by omega)
          clear htk hq1 h2 hlt
          go_wp2
          go_quiet (fail)
          go_wp2
          go_roundw
          case rel => exact ⟨i + 1, by go_num, by omega, bel_drewN HBr.out _⟩
          case measure => simp [intOf]; omega
      · have c1 : decide ((i : Int) < (m6 : Int)) = false := decide_eq_false (by omega)
        have c1n : decide (i < m6) = false := decide_eq_false hlt
        obtain ⟨A8, c8, hsl, HTL⟩ := tms_drop (P := Try.prog) H6.out 22 unTms szTms (k2 : Int) k2 rfl km
        rw [← HK2.out, HDS.out] at HTL
        rw [HK2.out] at HTL
        replace HTL := Lib.hid HTL
        have HSL2 := Lib.hid hsl
        clear hi hlt hsl
        go_upto_region 16 with fail
        refine wp_region_noPanic ?_
        refine wp_region_held_drew (S := (fun wv => Below wr.heap.size wr wv)) (by kernel_rfl) ((Below.refl wr.heap.size wr).drew) (fun hS => ?_)
        refine wpAnyH_take (i := 0) (oi := ⟨some 102, .move (.tmp 6), 22, "law.go:63", #[], none⟩) (v := ?_) rfl (by kernel_rfl) (by kernel_rfl) (by kernel_rfl) (fun _ _ _ h => h) (Or.inl ⟨by rfl, ?_⟩) hS ?_
        rotate_left
        · intro wv _; go_simp; try with_reducible rfl
        try simp only [Act.put, List.setIfInBounds_toArray, List.set_cons_zero, List.set_cons_succ]
        refine wpAnyH_take (i := 2) (oi := ⟨some 104, .move (.tmp 12), 22, "law.go:63", #[], none⟩) (v := ?_) rfl (by kernel_rfl) (by kernel_rfl) (by kernel_rfl) (fun _ _ _ h => h) (Or.inl ⟨by rfl, ?_⟩) hS ?_
        rotate_left
        · intro wv _; go_simp; try with_reducible rfl
        try simp only [Act.put, List.setIfInBounds_toArray, List.set_cons_zero, List.set_cons_succ]
        refine wpAnyH_take (i := 3) (oi := ⟨some 105, .move (.tmp 7), 36, "law.go:63", #[], none⟩) (v := ?_) rfl (by kernel_rfl) (by kernel_rfl) (by kernel_rfl) (fun _ _ _ h => h) (Or.inl ⟨by rfl, ?_⟩) hS ?_
        rotate_left
        · intro wv _; go_simp; try with_reducible rfl
        try simp only [Act.put, List.setIfInBounds_toArray, List.set_cons_zero, List.set_cons_succ]
        refine wpAnyH_take (i := 4) (oi := ⟨some 106, .call { callee := .builtin .len, args := #[.tmp 105], argTypes := #[36] }, 3, "law.go:63", #[⟨3, .data⟩], none⟩) (v := ?_) rfl (by kernel_rfl) (by kernel_rfl) (by kernel_rfl) (fun _ _ _ h => h) (Or.inl ⟨by rfl, ?_⟩) hS ?_
        rotate_left
        · intro wv _; go_simp; try with_reducible rfl
        try simp only [Act.put, List.setIfInBounds_toArray, List.set_cons_zero, List.set_cons_succ]
        refine wpAnyH_take (i := 5) (oi := ⟨some 107, .slice 22 (.tmp 104) (some (.tmp 106)) none none, 22, "law.go:63", #[⟨2, .data⟩, ⟨4, .data⟩], none⟩) (v := ?_) rfl (by kernel_rfl) (by kernel_rfl) (by kernel_rfl) (fun _ _ _ h => h) (Or.inl ⟨by rfl, ?_⟩) hS ?_
        rotate_left
        · intro wv hS; have hrun := HSL2.out; go_simp; try with_reducible rfl
        try simp only [Act.put, List.setIfInBounds_toArray, List.set_cons_zero, List.set_cons_succ]
        refine wpAnyH_ready (rs := [1]) (by kernel_rfl) (by simp) (AllReadyH.cons (o := ⟨some 103, .call { callee := .value (.func 21), args := #[.tmp 102], argTypes := #[22] }, 22, "law.go:63", #[⟨0, .data⟩], none⟩) rfl (fun K hK => ?_) AllReadyH.nil)
        go_simp
        refine (c5.out _ _ _ _ (Es.below H2.out hS)).mono ?_; rintro e u1 ⟨B7, m7, d7, rfl, hrs, hb⟩
        have H7 := Lib.hid hrs
        have HT := Lib.hid (hS.trans (hb.mono hS.size))
        clear hrs hb
        go_wp2_with fail
        refine Shut.out hK _ _ (by first | exact hS | trivial) (fun _ => wpAnyH_up (S' := (fun wv => Below u1.heap.size u1 wv)) ?_ ?_)
        · exact fun wv h => HT.out.trans (h.mono HT.out.size)
        replace hS := (Below.refl u1.heap.size u1)
        clear hK K
        try simp only [Act.put, List.setIfInBounds_toArray, List.set_cons_zero, List.set_cons_succ]
        refine wpAnyH_ready (rs := [6]) (by kernel_rfl) (by simp) (AllReadyH.cons (o := ⟨some 108, .call { callee := .value (.func 15), args := #[.tmp 103, .tmp 107], argTypes := #[22, 22] }, 4, "law.go:63", #[⟨1, .data⟩, ⟨5, .data⟩, ⟨1, .chain⟩], none⟩) rfl (fun K hK => ?_) AllReadyH.nil)
        go_simp
        refine (c12.out _ _ _ _ _ _ _ _ hsa (Es.below H7.out hS) (Es.below HTL.out (HT.out.trans (hS.mono HT.out.size)))).mono ?_; rintro e u2 ⟨rfl, hb⟩
        replace hS := hS.trans (hb.mono hS.size)
        clear hb
        go_wp2_with fail
        refine Shut.out hK _ _ hS (fun _ => ?_)
        clear hK K
        try simp only [Act.put, List.setIfInBounds_toArray, List.set_cons_zero, List.set_cons_succ]
        refine wpAnyH_take (i := 7) (oi := ⟨some 4, .assign (.tmp 108), 4, "law.go:63", #[⟨6, .data⟩, ⟨6, .chain⟩, ⟨0, .phase⟩, ⟨1, .phase⟩, ⟨2, .phase⟩, ⟨3, .phase⟩, ⟨4, .phase⟩, ⟨5, .phase⟩, ⟨6, .phase⟩], none⟩) (v := ?_) rfl (by kernel_rfl) (by kernel_rfl) (by kernel_rfl) (fun _ _ _ h => h) (Or.inl ⟨by rfl, ?_⟩) hS ?_
        rotate_left
        · intro wv _; go_simp; try with_reducible rfl
        try simp only [Act.put, List.setIfInBounds_toArray, List.set_cons_zero, List.set_cons_succ]
        refine wpAnyH_done (by kernel_rfl) ?_ _
        refine NoPanic.normal ?_
        go_wp2
        go_ret
        exact ⟨rfl, HB.out.1.trans ((HT.out.trans (hS.mono HT.out.size)).mono HB.out.2)⟩
end Go.Proofs.Ytehpfpphpffniaa
