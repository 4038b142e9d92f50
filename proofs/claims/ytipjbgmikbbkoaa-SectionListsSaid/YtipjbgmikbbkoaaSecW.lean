/- SectionTells walked to its end: it answers true, over any world; no condition. -/
import Derived.Test.YtipjbgmikbbkoaaSecV
namespace Go.Proofs.Ytipjbgmikbbkoaa
set_option linter.unusedVariables false
set_option linter.unusedSimpArgs false
open Go.RowKit

theorem sum_set {H : List Int} {i : Nat} {x : Int} (hb : ∀ b ∈ H, 0 ≤ b ∧ b ≤ 255) (hi : i < H.length) (hx : 0 ≤ x ∧ x ≤ 255) (h : sumS (H.set i x) = sumS H) : x = H.getD i 0 := by
  have h1 := goes_lt H 4294967295 hb (by decide)
  have h2 := goes_lt (H.set i x) 4294967295 (by
    intro b hm
    rcases List.mem_or_eq_of_mem_set hm with h | h
    · exact hb b h
    · rw [h]; exact hx) (by decide)
  unfold sumS at h
  exact goes_set H i x 0 hb hi hx 4294967295 (by decide) (by omega)
theorem set_same {l : List Int} {i : Nat} (hi : i < l.length) : l.set i (l.getD i 0) = l := by
  simp [List.getD, List.getElem?_eq_getElem hi]
/-- a byte that is another one is told. -/
theorem tells_math (t : Int) (bs : List Int) (t0 : 1 ≤ t) (t1 : t ≤ 255) (hb : ∀ b ∈ bs, 0 ≤ b ∧ b ≤ 255) (hl : bs.length ≤ 65535) (i : Nat) (x : Int) (hx : 0 ≤ x ∧ x ≤ 255) (hi : i = 0 ∨ 1 + vs bs.length ≤ i) (hi2 : i < (secB (t, bs)).length) :
    (x = (secB (t, bs)).getD i 0 ∧ (secS ((secB (t, bs)).set i x) 0).2.2 = 0) ∨ (x ≠ (secB (t, bs)).getD i 0 ∧ (secS ((secB (t, bs)).set i x) 0).2.2 = 5) ∨ (x ≠ (secB (t, bs)).getD i 0 ∧ i = 0 ∧ x = 0 ∧ (secS ((secB (t, bs)).set i x) 0).2.2 = 3) := by
  have hH : ∀ b ∈ headS (t, bs), 0 ≤ b ∧ b ≤ 255 := by
    intro b hm
    exact secB_byte (s := (t, bs)) ⟨by omega, t1⟩ hb b (by rw [secB]; exact List.mem_append_left _ hm)
  have hDl := digs_len 4 (sumS (headS (t, bs)) : Nat)
  have hDn := num_sum (headS (t, bs))
  have hDb := digs_byte 4 (sumS (headS (t, bs)) : Nat)
  have hHl : (headS (t, bs)).length = 1 + vs bs.length + bs.length := by simp [headS, vb_len]; omega
  by_cases hxe : x = (secB (t, bs)).getD i 0
  · refine Or.inl ⟨hxe, ?_⟩
    rw [hxe, set_same hi2]
    have h := secS_back [] [] (t, bs) (by simp only; omega) hl
    simp only [List.nil_append, List.append_nil, List.length_nil] at h
    have h' : secS (secB (t, bs)) 0 = _ := h
    rw [h']
  · rw [secB_def] at hxe hi2 ⊢
    generalize digs (sumS (headS (t, bs)) : Nat) 4 = D at *
    by_cases hih : i < (headS (t, bs)).length
    · have hset : (headS (t, bs) ++ D).set i x = (headS (t, bs)).set i x ++ D := by rw [List.set_append, if_pos hih]
      have hget : (headS (t, bs) ++ D).getD i 0 = (headS (t, bs)).getD i 0 := by simp [List.getD, List.getElem?_append_left hih]
      rw [hget] at hxe ⊢
      rw [hset]
      have hne : num D ≠ (sumS ((headS (t, bs)).set i x) : Nat) := by
        rw [hDn]
        intro h
        exact hxe (sum_set hH hih hx (by omega))
      rcases hi with hi0 | hi0
      · subst hi0
        have e : (headS (t, bs)).set 0 x = x :: (vb bs.length ++ bs) := rfl
        rw [e] at hne ⊢
        by_cases hx0 : x = 0
        · refine Or.inr (Or.inr ⟨hxe, rfl, hx0, ?_⟩)
          have h := secS_zero (bs := x :: (vb bs.length ++ bs) ++ D) (j := 0) (by simp) (by simp [hx0])
          have h' : secS (x :: (vb bs.length ++ bs) ++ D) 0 = _ := h
          rw [h']
        · refine Or.inr (Or.inl ⟨hxe, ?_⟩)
          have h := gen_bad [] [] bs D x hx0 hl hDl hne
          simp only [List.nil_append, List.append_nil, List.length_nil] at h
          have h' : secS (x :: (vb bs.length ++ bs) ++ D) 0 = _ := h
          rw [h']
      · refine Or.inr (Or.inl ⟨hxe, ?_⟩)
        obtain ⟨j, hj⟩ : ∃ j, i = 1 + vs bs.length + j := ⟨i - (1 + vs bs.length), by omega⟩
        have e : (headS (t, bs)).set i x = t :: (vb (bs.set j x).length ++ bs.set j x) := by
          show (t :: (vb bs.length ++ bs)).set i x = _
          rw [hj, show 1 + vs bs.length + j = (vs bs.length + j) + 1 by omega, List.set_cons_succ, List.set_append, if_neg (by rw [vb_len]; omega), vb_len, List.length_set, show vs bs.length + j - vs bs.length = j by omega]
        rw [e] at hne ⊢
        have h := gen_bad [] [] (bs.set j x) D t (by omega) (by rw [List.length_set]; exact hl) hDl hne
        simp only [List.nil_append, List.append_nil, List.length_nil] at h
        have h' : secS (t :: (vb (bs.set j x).length ++ bs.set j x) ++ D) 0 = _ := h
        rw [h']
    · have hset : (headS (t, bs) ++ D).set i x = headS (t, bs) ++ D.set (i - (headS (t, bs)).length) x := by rw [List.set_append, if_neg hih]
      have hget : (headS (t, bs) ++ D).getD i 0 = D.getD (i - (headS (t, bs)).length) 0 := by simp [List.getD, List.getElem?_append_right (show (headS (t, bs)).length ≤ i by omega)]
      rw [List.length_append, hDl] at hi2
      rw [hget] at hxe ⊢
      rw [hset]
      refine Or.inr (Or.inl ⟨hxe, ?_⟩)
      have hd4 : i - (headS (t, bs)).length < D.length := by rw [hDl]; omega
      have hDb' : ∀ b ∈ D.set (i - (headS (t, bs)).length) x, 0 ≤ b ∧ b ≤ 255 := by
        intro b hm
        rcases List.mem_or_eq_of_mem_set hm with h | h
        · exact hDb b h
        · rw [h]; exact hx
      have hne : num (D.set (i - (headS (t, bs)).length) x) ≠ (sumS (headS (t, bs)) : Nat) := by
        rw [← hDn]
        intro h
        have h1 := digs_num4 _ hDb'
        rw [h, List.length_set] at h1
        have h2 := digs_num4 _ hDb
        have h3 := h1.symm.trans h2
        apply hxe
        have h4 := congrArg (fun l => l.getD (i - (headS (t, bs)).length) 0) h3
        simpa [List.getD, List.getElem?_set, hd4] using h4
      have h := gen_bad [] [] bs (D.set (i - (headS (t, bs)).length) x) t (by omega) hl (by rw [List.length_set]; exact hDl) hne
      simp only [List.nil_append, List.append_nil, List.length_nil] at h
      have h' : secS (t :: (vb bs.length ++ bs) ++ D.set (i - (headS (t, bs)).length) x) 0 = _ := h
      show (secS (t :: (vb bs.length ++ bs) ++ D.set (i - (headS (t, bs)).length) x) 0).2.2 = 5
      rw [h']
theorem Bs.stored {w : World} {g n c i : Nat} {bs : List Int} {x : Int} (h : Bs w (some ⟨g, 0, none⟩) n c bs) (hi : i < n) (h0 : 0 ≤ x) (h1 : x ≤ 255) : Bs (w.setCell ⟨g, i, none⟩ (.int .u8 x)) (some ⟨g, 0, none⟩) n c (bs.set i x) := by
  refine ⟨by rw [List.length_set]; exact h.len, h.cap, fun b hb => ?_, fun hn => ?_⟩
  · rcases List.mem_or_eq_of_mem_set hb with h2 | h2
    · exact h.byte b h2
    · subst h2; exact ⟨h0, h1⟩
  · obtain ⟨b, off, e, hb, hc⟩ := h.mem hn
    injection e with e; injection e with e1 e2; subst e1; subst e2
    refine ⟨g, 0, rfl, by simpa using hb, fun j hj => ?_⟩
    have hl := h.len
    by_cases hji : j = i
    · subst hji
      have hcj := hc j hj
      rw [Nat.zero_add] at hcj ⊢
      rw [World.cell?_setCell_same _ _ _ hcj]
      simp [List.getD, List.getElem?_set, show j < bs.length by omega]
    · rw [World.cell?_setCell_other _ _ _ _ (by intro h; injection h with _ h2 _; omega), hc j hj]
      simp [List.getD, List.getElem?_set, Ne.symm hji]

set_option maxHeartbeats 4000000 in
set_option maxRecDepth 100000 in
theorem tells_walk (t : Int) (B : Option Addr) (m d : Nat) (bs : List Int) (at_ x : Int) (w : World) (hb : Bs w B m d bs) (t0 : 0 ≤ t) (t1 : t ≤ 255) (a0 : 0 ≤ at_) (a1 : at_ ≤ 65535) (x0 : 0 ≤ x) (x1 : x ≤ 255) :
    Calls Try.prog 7 #[.agg #[.int .u8 t, .slice B m d], .int .u16 at_, .int .u8 x] w fun e w' => e = .returned (.bool true) ∧ Below w.heap.size w w' := by
  have h0 := hd0 w (o := .cells #[.int .u8 t, .slice B m d] 24)
  have p0 := heap_alloc_new w (.cells #[.int .u8 t, .slice B m d] 24)
  have H0 := Lib.hid h0; have P0 := Lib.hid p0
  have HB := Lib.hid (hb.below h0); have HLen := Lib.hid hb.len
  clear h0 p0 hb
  have AL := Lib.hid (secAlive_any (w.alloc (.cells #[.int .u8 t, .slice B m d] 24)))
  by_cases hz : t = 0
  · have hdz : (t == 0) = true := by simpa using hz
    clear hz
    go_enter Try.func7, Try.ntmps7
    go_wp2_with fail
    refine AL.out.mono ?_; rintro e w1 ⟨rfl, hw1⟩
    have H1 := Lib.hid (H0.out.trans (hw1.mono (by simp)))
    have p1 := (hw1.block _ (by simp)).trans P0.out
    have k0 := pair0 p1; have k1 := pair1 p1
    clear hw1 p1
    go_wp2
    go_ret
    exact ⟨rfl, H1.out⟩
  · have hdz : (t == 0) = false := by simpa using hz
    by_cases h1 : 500 < m
    · have hd1 : decide ((500 : Int) < (m : Int)) = true := by simp; omega
      go_enter Try.func7, Try.ntmps7
      go_wp2_with fail
      refine AL.out.mono ?_; rintro e w1 ⟨rfl, hw1⟩
      have H1 := Lib.hid (H0.out.trans (hw1.mono (by simp)))
      have p1 := (hw1.block _ (by simp)).trans P0.out
      have k0 := pair0 p1; have k1 := pair1 p1
      clear hw1 p1
      go_wp2
      go_ret
      exact ⟨rfl, H1.out⟩
    · have hd1 : decide ((500 : Int) < (m : Int)) = false := by simp; omega
      have hbyte := HB.out.byte
      have hlen := HLen.out
      have hap : appS [] (t, bs) = (secB (t, bs), 0) := by
        have := wrS_ok (s := (t, bs)) (by simp only; omega) (by simp only; omega)
        simp [appS, this]
      have hm := fun i hi hi2 => tells_math t bs (by omega) t1 hbyte (by omega) i x ⟨x0, x1⟩ hi hi2
      have hbl : (secB (t, bs)).length = 1 + vs m + m + 4 := by
        rw [secB_def, List.length_append, digs_len]
        show (t :: (vb bs.length ++ bs)).length + 4 = _
        rw [List.length_cons, List.length_append, vb_len, hlen]; omega
      have hsb := secB_byte (s := (t, bs)) ⟨t0, t1⟩ hbyte
      rw [hlen] at hm
      generalize secB (t, bs) = S at *
      have HAp := Lib.hid hap; have HM := Lib.hid hm; have HBl := Lib.hid hbl; have HSb := Lib.hid hsb
      have hv := vs_le 1 m (by omega)
      have hv0 := vs_pos m
      have hwm : IntKind.u64.wrap (m : Int) = m := by rw [IntKind.wrap_u64]; omega
      clear hap hm hbl hsb hbyte hlen
      go_enter Try.func7, Try.ntmps7
      go_wp2_with fail
      refine AL.out.mono ?_; rintro e w1 ⟨rfl, hw1⟩
      have H1 := Lib.hid (H0.out.trans (hw1.mono (by simp)))
      have p1 := (hw1.block _ (by simp)).trans P0.out
      have k0 := pair0 p1; have k1 := pair1 p1
      have P1 := Lib.hid p1; have HB1 := Lib.hid (HB.out.below hw1)
      clear hw1 p1
      have Q := append_any none 0 0 [] t B m d bs w1 (Bs.nil _ _ _) HB1.out (by omega) (by omega) t0 t1
      rw [HAp.out] at Q
      have Q := Lib.hid Q
      go_wp2_with fail
      refine Q.out.mono ?_; rintro e w2 ⟨A2, n2, c2, rfl, hb2, hw2⟩
      have H2 := Lib.hid (H1.out.trans (hw2.mono H1.out.size))
      have p2 := (hw2.block _ (heap_lt P1.out)).trans P1.out
      have HN2 := Lib.hid (show n2 = 1 + vs m + m + 4 by rw [← HBl.out]; exact hb2.len.symm)
      have HS2 := Lib.hid hb2; have P2 := Lib.hid p2
      have j0 := pair0 p2; have j1 := pair1 p2
      have R := Lib.hid (refBytes_any (m : Int) w2 (by omega) (by omega))
      clear hw2 p2 hb2 k0 k1 Q
      go_wp2_with fail
      refine R.out.mono ?_; rintro e w3 ⟨A3, n3, c3, rfl, hb3, hw3⟩
      rw [Int.toNat_natCast] at hb3
      have hn3 : n3 = vs m := by rw [← vb_len]; exact hb3.len.symm
      have H3 := Lib.hid (H2.out.trans (hw3.mono H2.out.size)); have HS3 := Lib.hid (HS2.out.below hw3)
      have p3 := (hw3.block _ (heap_lt P2.out)).trans P2.out
      have i0 := pair0 p3; have i1 := pair1 p3
      obtain ⟨v, hvv⟩ : ∃ v, vs m = v := ⟨_, rfl⟩
      rw [hvv] at hn3 HN2 hv hv0
      subst hn3
      have HV := Lib.hid hvv
      have HN2' : n2 = 1 + n3 + m + 4 := HN2.out
      have hcmp : ((n2 : Int) != 1 + (n3 : Int) + (m : Int) + 4) = false := by simp; omega
      obtain ⟨k, hk⟩ : ∃ k : Nat, at_.tmod (1 + (m : Int) + 4) = (k : Int) := ⟨(at_.tmod (1 + (m : Int) + 4)).toNat, by
        have := Int.tmod_nonneg (1 + (m : Int) + 4) a0; omega⟩
      have hk5 : k < m + 5 := by
        have h5 := Int.tmod_lt_of_pos at_ (show 0 < 1 + (m : Int) + 4 by omega)
        omega
      obtain ⟨i, hi⟩ : ∃ i : Nat, i = if k = 0 then 0 else k + n3 := ⟨_, rfl⟩
      have hi1 : i = 0 ∨ 1 + vs m ≤ i := by rw [hvv]; by_cases hk0 : k = 0 <;> simp [hk0] at hi <;> omega
      have hi2 : i < n2 := by by_cases hk0 : k = 0 <;> simp [hk0] at hi <;> omega
      have HI0 := Lib.hid (show k = 0 → i = 0 by intro h; simp [h] at hi; exact hi)
      have HI1 := Lib.hid (show 0 < k → i = k + n3 by intro h; rw [if_neg (by omega)] at hi; exact hi)
      have hmath := HM.out i hi1 (by rw [HBl.out, hvv]; omega)
      have HMath := Lib.hid hmath
      obtain ⟨i5, hi5, hz0, hz1, hz2⟩ := info_parts infoByte
      obtain ⟨A5, c5, w5, hap5, hown5, hb5, hw5⟩ := app_lit0 (P := Try.prog) w3 22 22 5 i5 _ Try.underlying22 hi5 hz0 hz1 hz2 rfl A2 n2 c2 S HS3.out (by omega)
      obtain ⟨g, hA5, hgr⟩ : ∃ g, A5 = some ⟨g, 0, none⟩ ∧ w3.heap.size ≤ g := by
        rcases hown5.2 with ⟨h5, _⟩ | ⟨g, cap, cur, h5, h6, _⟩
        · injection h5 with _ h5 _; omega
        · injection h5 with h5 _ _; exact ⟨g, h5, h6⟩
      subst hA5
      have hoc := hown5.cells (g := g) (by simp [Value.ownBlock]) i (.int .u8 (S.getD i 0)) (by
        have : i < S.length := by rw [HBl.out, hvv]; omega
        simp [List.getD, List.getElem?_eq_getElem this])
      rw [add_plain, Nat.zero_add] at hoc
      have hof : w5.frozen? ⟨g, i, none⟩ = false := by
        rcases hown5.2 with ⟨h5, _⟩ | ⟨g', cap, cur, h5, _, h7, _⟩
        · cases h5
        · injection h5 with h5 _ _; injection h5 with h5; injection h5 with h5 _; subst h5; exact row_z h7 i
      have hst := hb5.stored (i := i) (x := x) hi2 x0 x1
      have hw6 : Below w3.heap.size w3 (w5.setCell ⟨g, i, none⟩ (.int .u8 x)) := hw5.setCell (by simp only; omega) _
      have H6 := Lib.hid (H3.out.trans (hw6.mono H3.out.size)); have HS6 := Lib.hid (HS3.out.below hw6); have HO6 := Lib.hid hst
      have HP6 := Lib.hid ((hw6.block _ (heap_lt (hw3.block _ (heap_lt P2.out) ▸ P2.out))).trans ((hw3.block _ (heap_lt P2.out)).trans P2.out))
      have hib1 : (0 : Int) ≤ (i : Int) := by omega
      have hib2 : (i : Int) < (n2 : Int) := by omega
      have Q := Lib.hid (fun w7 h => secRead_any (some ⟨g, 0, none⟩) n2 c5 (S.set i x) 0 w7 h (by omega))
      obtain ⟨R, hR⟩ : ∃ R, secS (S.set i x) 0 = R := ⟨_, rfl⟩
      rw [hR] at Q HMath
      obtain ⟨bi, hbi⟩ : ∃ bi, S.getD i 0 = bi := ⟨_, rfl⟩
      rw [hbi] at HMath hoc
      have HBi := Lib.hid hbi
      obtain ⟨⟨u, body⟩, k', er⟩ := R
      have HN := Lib.hid HN2'
      have hn2s : n2 ≤ 1000 := by omega
      clear hw3 hb3 p3 j0 j1 R hown5 hb5 hw5 hi5 hz0 hz1 hz2 hst hw6 hi hi1 hmath hR hbi hvv HN2' hgr
      have hkk : (0 < k ∧ decide (0 < k) = true ∧ (k : Int) - 1 + (1 + (n3 : Int)) = (i : Int)) ∨ (k = 0 ∧ decide (0 < k) = false ∧ i = 0) := by
        rcases Nat.eq_zero_or_pos k with h | h
        · exact Or.inr ⟨h, by simp; omega, HI0.out h⟩
        · have := HI1.out h
          exact Or.inl ⟨h, by simpa using h, by omega⟩
      rcases hkk with ⟨hk0, hk1, hk2⟩ | ⟨hk0, hk1, hk2⟩
      · go_wp2_with (at_builtin; refine wpl_app_run rfl rfl rfl rfl hap5 ?_)
        clear hap5 hoc hof
        refine (Q.out _ HO6.out).mono ?_; rintro e w7 ⟨A7, n7, c7, rfl, hb7, _, hw7⟩
        have hw7' := hw7.trans ((hd0 w7 (o := .cells #[.int .u8 u, .slice A7 n7 c7] 24)).mono hw7.size)
        have H7 := Lib.hid (H6.out.trans (hw7'.mono H6.out.size)); have HS7 := HS6.out.below hw7'
        obtain ⟨b2, off2, y, hA2, hbl2, hcl2, y0, y1, _, hget2⟩ := HS7.look i hi2
        rw [HBi.out] at hget2
        subst hget2
        subst hA2
        have HCl := Lib.hid hcl2
        clear hb7 hw7 hw7' hbl2 HS7 H6 HS6 HO6 HP6
        rcases HMath.out with ⟨h8, h9⟩ | ⟨h8, h9⟩ | ⟨h8, h9, h10, h11⟩
        · have hq : (x == bi) = true := by simpa using h8
          have h9 : er = 0 := h9
          subst h9
          have hcl := HCl.out
          clear h8
          go_wp2
          go_ret
          exact ⟨rfl, H7.out⟩
        · have hq : (x == bi) = false := by simpa using h8
          have h9 : er = 5 := h9
          subst h9
          have hcl := HCl.out
          clear h8
          go_wp2
          go_ret
          exact ⟨by simp, H7.out⟩
        · omega
      · subst hk0; subst hk2
        go_wp2_with (at_builtin; refine wpl_app_run rfl rfl rfl rfl hap5 ?_)
        clear hap5 hoc hof
        refine (Q.out _ HO6.out).mono ?_; rintro e w7 ⟨A7, n7, c7, rfl, hb7, _, hw7⟩
        have hw7' := hw7.trans ((hd0 w7 (o := .cells #[.int .u8 u, .slice A7 n7 c7] 24)).mono hw7.size)
        have H7 := Lib.hid (H6.out.trans (hw7'.mono H6.out.size)); have HS7 := HS6.out.below hw7'
        obtain ⟨b2, off2, y, hA2, hbl2, hcl2, y0, y1, _, hget2⟩ := HS7.look 0 hi2
        rw [HBi.out] at hget2
        subst hget2
        subst hA2
        rw [Nat.add_zero] at hcl2
        have HCl := Lib.hid hcl2
        clear hb7 hw7 hw7' hbl2 HS7 H6 HS6 HO6 HP6
        rcases HMath.out with ⟨h8, h9⟩ | ⟨h8, h9⟩ | ⟨h8, h9, h10, h11⟩
        · have hq : (x == bi) = true := by simpa using h8
          have h9 : er = 0 := h9
          subst h9
          have hcl := HCl.out
          clear h8
          go_wp2
          go_ret
          exact ⟨rfl, H7.out⟩
        · have hq : (x == bi) = false := by simpa using h8
          have h9 : er = 5 := h9
          subst h9
          have hcl := HCl.out
          clear h8
          go_wp2
          go_ret
          exact ⟨by simp, H7.out⟩
        · have hq : (x == bi) = false := by simpa using h8
          have hx0 : (x == 0) = true := by simpa using h10
          have h11 : er = 3 := h11
          subst h11
          have hcl := HCl.out
          clear h8 h10 h9
          go_wp2
          go_ret
          exact ⟨by simp, H7.out⟩
end Go.Proofs.Ytipjbgmikbbkoaa
