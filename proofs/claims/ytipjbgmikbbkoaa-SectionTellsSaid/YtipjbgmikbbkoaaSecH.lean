/- What written and Append (the program's and the document's own) answer; for bytes and a body up to 8192 and 8192. -/
import Derived.Test.YtipjbgmikbbkoaaSecG
namespace Go.Proofs.Ytipjbgmikbbkoaa
set_option linter.unusedVariables false
set_option linter.unusedSimpArgs false
open Go.RowKit

theorem sz_le4 (x : Nat) (h : x < 4294967296) : sz x ≤ 4 := by unfold sz; have := dg_lt 3 (x / 256) (by omega); omega
theorem sumS_lt (bs : List Int) : sumS bs < 4294967296 := by unfold sumS; omega
theorem putS_sum (bs : List Int) : putS bs (sumS bs : Nat) 4 = (bs ++ digs (sumS bs : Nat) 4, 0) := by
  have h := sumS_lt bs
  have hf : fitsB ((sumS bs : Nat) : Int) 4 = true := fits_yes (by decide) (by decide) (by have := sz_le4 _ h; rw [Int.toNat_natCast]; omega)
  rw [putS, if_neg (by decide), if_neg (by simp [hf])]; rfl
theorem headS_len (s : Int × List Int) (h : s.2.length ≤ 65535) : (headS s).length ≤ s.2.length + 4 := by
  have h1 := vs_le 2 s.2.length (by omega)
  simp only [headS, List.length_cons, List.length_append, vb_len]; omega
theorem post_mk {w w' : World} {bs bs' : List Int} {e e' : Int} (h : (bs, e) = (bs', e')) {A : Option Addr} {n c : Nat} (hb : Bs w' A n c bs) (hw : Below w.heap.size w w') :
    BytesPost w bs' [.int .i64 e'] (.returned (.tuple #[.slice A n c, .int .i64 e])) w' := by
  injection h with h1 h2; subst h1; subst h2; exact ⟨A, n, c, rfl, hb, hw⟩

theorem written_any (t : Int) (A : Option Addr) (n c : Nat) (bs : List Int) (w : World) (hb : Bs w A n c bs) (hn : n ≤ 8192) (t0 : 0 ≤ t) (t1 : t ≤ 255) :
    Calls Try.prog 21 #[.agg #[.int .u8 t, .slice A n c]] w (BytesPost w (wrS (t, bs)).1 [.int .i64 (wrS (t, bs)).2]) := by
  have hlen := hb.len
  by_cases h0 : t = 0
  · have R := Lib.hid (show (([] : List Int), (3 : Int)) = wrS (t, bs) by simp [wrS, h0])
    have hd : (t == 0) = true := by simpa using h0
    clear hb hlen h0
    go_enter Try.func21, Try.ntmps21
    go_wp2
    go_ret2
    exact post_mk R.out (Bs.nil _ _ _) ((Below.refl _ _).alloc (Nat.le_refl _) _)
  · have hd : (t == 0) = false := by simpa using h0
    have hl65 : ¬ (65535 : Int) < (n : Int) := by omega
    have hl66 : decide ((65535 : Int) < (n : Int)) = false := by simpa using hl65
    have R := Lib.hid (show (secB (t, bs), (0 : Int)) = wrS (t, bs) by simp only [wrS]; rw [if_neg h0, if_neg (by omega)])
    have hhl := headS_len (t, bs) (by simp only; omega)
    have HH : Hid (headS (t, bs) = [t] ++ vb n ++ bs) := by show _ = _; simp [headS, hlen]
    have HP := Lib.hid (putS_sum (headS (t, bs)))
    have HD := Lib.hid (secB_def (t, bs))
    have hw : IntKind.u64.wrap (n : Int) = n := by rw [IntKind.wrap_u64]; omega
    have hs := sumS_lt (headS (t, bs))
    have hsw : IntKind.u64.wrap ((sumS (headS (t, bs)) : Nat) : Int) = (sumS (headS (t, bs)) : Nat) := by rw [IntKind.wrap_u64]; omega
    obtain ⟨sm, hsm⟩ : ∃ sm, sumS (headS (t, bs)) = sm := ⟨_, rfl⟩
    obtain ⟨H, hH⟩ : ∃ H, headS (t, bs) = H := ⟨_, rfl⟩
    rw [hsm] at hs hsw
    have HSM := Lib.hid hsm; have HHH := Lib.hid hH
    rw [hH] at hhl
    have hhl2 : H.length ≤ 8200 := by simp only at hhl; omega
    have HHL := Lib.hid hhl2
    have HB := Lib.hid hb; have HLen := Lib.hid hlen; have H0 := Lib.hid h0
    have hc1 := (Below.refl w.heap.size w).alloc (Nat.le_refl _) (.cells #[.int .u8 t, .slice A n c] 24)
    have hh1 := heap_alloc_new w (.cells #[.int .u8 t, .slice A n c] 24)
    have HC1 := Lib.hid hc1; have HH1 := Lib.hid hh1
    have k0 := pair0 hh1; have k1 := pair1 hh1
    clear hb hlen h0 hsm hH hhl hhl2 hc1 hh1
    go_enter Try.func21, Try.ntmps21
    go_wp2_with fail
    have hnew : Bs ((w.alloc (.cells #[.int .u8 t, .slice A n c] 24)).alloc (.cells #[.int .u8 t] 5)) (some ⟨w.heap.size + 1, 0, none⟩) 1 1 [t] := by
      have h := Bs.new_ (w.alloc (.cells #[.int .u8 t, .slice A n c] 24)) 5 [t] (by simpa using ⟨t0, t1⟩) (q := 1) rfl
      have e : (w.alloc (.cells #[.int .u8 t, .slice A n c] 24)).heap.size = w.heap.size + 1 := by simp
      rw [e] at h; exact h
    have hb2 : Below w.heap.size w ((w.alloc (.cells #[.int .u8 t, .slice A n c] 24)).alloc (.cells #[.int .u8 t] 5)) := HC1.out.alloc (by simp) _
    have hp2 : ((w.alloc (.cells #[.int .u8 t, .slice A n c] 24)).alloc (.cells #[.int .u8 t] 5)).heap[w.heap.size]? = some (.cells #[.int .u8 t, .slice A n c] 24) := (heap_alloc_old _ _ (by simp)).trans HH1.out
    generalize (w.alloc (.cells #[.int .u8 t, .slice A n c] 24)).alloc (.cells #[.int .u8 t] 5) = w2 at *
    clear k0 k1 HC1 HH1
    have P2 := Lib.hid hp2; have B2 := Lib.hid hb2
    refine (varAppend_any _ 1 1 [t] n w2 hnew (by omega) (by omega) (by omega)).mono ?_; rintro e w3 ⟨A3, n3, c3, rfl, hb3, hw3⟩
    rw [Int.toNat_natCast] at hb3
    have hp3 := (hw3.block _ (heap_lt P2.out)).trans P2.out
    have k0 := pair0 hp3; have k1 := pair1 hp3
    have P3 := Lib.hid hp3; have B3 := Lib.hid (B2.out.trans (hw3.mono B2.out.size)); have HB3 := Lib.hid hb3
    clear hp2 hb2 hnew hb3 hw3 hp3
    go_wp2_with fail
    have hv := vs_le 2 n (by omega)
    have hl3 := HB3.out.len
    rw [List.length_append, vb_len, List.length_singleton] at hl3
    refine (concat_two _ A3 A n3 c3 n c _ _ _ (heap_alloc_new w3 _) (HB3.out.alloc _) ((HB.out.below B3.out).alloc _) (by omega)).mono ?_; rintro e w4 ⟨A4, n4, c4, rfl, hb4, hw4⟩
    rw [← HH.out, HHH.out] at hb4
    have hw4' : Below w3.heap.size w3 w4 := ((Below.refl _ _).alloc (Nat.le_refl _) _).trans (hw4.mono (by simp))
    have B4 := Lib.hid (B3.out.trans (hw4'.mono B3.out.size)); have HB4 := Lib.hid hb4
    have HL4 := Lib.hid hb4.len
    clear hb4 hw4 hw4' k0 k1 hv hl3
    go_wp2_with fail
    have hn4 : n4 ≤ 8200 := by rw [← HL4.out]; exact HHL.out
    refine (sum_any A4 n4 c4 H w4 HB4.out (by omega)).mono ?_; rintro e w5 ⟨rfl, hw5⟩
    rw [show sumS H = sm by rw [← HHH.out]; exact HSM.out]
    have B5 := Lib.hid (B4.out.trans (hw5.mono B4.out.size)); have HB5 := Lib.hid (HB4.out.below hw5)
    clear hw5
    go_wp2_with fail
    refine (put_any A4 n4 c4 H sm 4 w5 HB5.out (by omega) (by omega) (by omega)).mono ?_
    have e1 : putS H (sm : Int) 4 = wrS (t, bs) := by
      rw [← R.out, HD.out, ← HHH.out, ← HSM.out, HP.out]
    rw [e1]
    rintro e w6 ⟨A6, n6, c6, rfl, hb6, hw6⟩
    have B6 := Lib.hid (B5.out.trans (hw6.mono B5.out.size)); have HB6 := Lib.hid hb6
    clear hb6 hw6 e1
    go_wp2_with fail
    go_ret2
    exact ⟨_, _, _, rfl, HB6.out, B6.out⟩

theorem append_any (A : Option Addr) (n c : Nat) (xs : List Int) (t : Int) (B : Option Addr) (m d : Nat) (bs : List Int) (w : World) (ha : Bs w A n c xs) (hb : Bs w B m d bs) (hn : n ≤ 8192) (hm : m ≤ 8192) (t0 : 0 ≤ t) (t1 : t ≤ 255) :
    Calls Try.prog 9 #[.slice A n c, .agg #[.int .u8 t, .slice B m d]] w (BytesPost w (appS xs (t, bs)).1 [.int .i64 (appS xs (t, bs)).2]) := by
  have hlen := hb.len
  have hc1 := (Below.refl w.heap.size w).alloc (Nat.le_refl _) (.cells #[.int .u8 t, .slice B m d] 24)
  have HC1 := Lib.hid hc1; have HA1 := Lib.hid (ha.below hc1)
  have W := Lib.hid (written_any t B m d bs _ (hb.below hc1) hm t0 t1)
  have hwl : (wrS (t, bs)).2 = 0 → (secB (t, bs)).length ≤ 8204 := by
    intro _
    have := headS_len (t, bs) (by simp only; omega)
    simp only [secB, List.length_append, digs_len]; simp only at this; omega
  clear ha hb
  by_cases h0 : (wrS (t, bs)).2 = 0
  · have hw2 : wrS (t, bs) = (secB (t, bs), 0) := by
      unfold wrS at h0 ⊢
      split at h0
      · cases h0
      · split at h0
        · cases h0
        · rename_i h1 h2; rw [if_neg h1, if_neg h2]
    have HAP := Lib.hid (show (xs ++ secB (t, bs), (0 : Int)) = appS xs (t, bs) by simp [appS, h0])
    have HWL := Lib.hid (hwl h0)
    have HW2 := Lib.hid hw2
    clear hlen h0 hw2 hwl hc1
    go_enter Try.func9, Try.ntmps9
    go_wp2_with fail
    refine W.out.mono ?_; rw [HW2.out]; rintro e w2 ⟨A2, n2, c2, rfl, hb2, hw2⟩
    have B2 := Lib.hid (HC1.out.trans (hw2.mono (by simp))); have HA2 := Lib.hid (HA1.out.below hw2); have HB2 := Lib.hid hb2
    have hn2 : n2 ≤ 8204 := by rw [← hb2.len]; exact HWL.out
    clear hb2 hw2
    go_wp2_with fail
    refine (concat_two _ A A2 n c n2 c2 _ _ _ (heap_alloc_new w2 _) (HA2.out.alloc _) (HB2.out.alloc _) (by omega)).mono ?_; rintro e w4 ⟨A4, n4, c4, rfl, hb4, hw4⟩
    have hw4' : Below w2.heap.size w2 w4 := ((Below.refl _ _).alloc (Nat.le_refl _) _).trans (hw4.mono (by simp))
    have B4 := Lib.hid (B2.out.trans (hw4'.mono B2.out.size)); have HB4 := Lib.hid hb4
    clear hb4 hw4 hw4'
    go_wp2_with fail
    go_ret2
    exact post_mk HAP.out HB4.out B4.out
  · obtain ⟨k, hk⟩ : ∃ k, (wrS (t, bs)).2 = k := ⟨_, rfl⟩
    have hk0 : (k != 0) = true := by rw [← hk]; simpa using h0
    have hw2 : wrS (t, bs) = ([], k) := by
      unfold wrS at hk h0 ⊢
      split at hk
      · rename_i h1; rw [if_pos h1, ← hk]
      · rename_i h1
        split at hk
        · rename_i h2; rw [if_neg h1, if_pos h2, ← hk]
        · rename_i h2; rw [if_neg h1, if_neg h2] at h0; exact absurd rfl h0
    have HAP := Lib.hid (show (([] : List Int), k) = appS xs (t, bs) by simp only [appS]; rw [if_pos h0, hk])
    have HW2 := Lib.hid hw2
    clear hlen h0 hw2 hwl hc1 hk
    go_enter Try.func9, Try.ntmps9
    go_wp2_with fail
    refine W.out.mono ?_; rw [HW2.out]; rintro e w2 ⟨A2, n2, c2, rfl, hb2, hw2⟩
    have B2 := Lib.hid (HC1.out.trans (hw2.mono (by simp)))
    clear hb2 hw2
    go_wp2_with fail
    go_ret2
    exact post_mk HAP.out (Bs.nil _ _ _) B2.out

theorem refAppend_any (A : Option Addr) (n c : Nat) (xs : List Int) (t : Int) (B : Option Addr) (m d : Nat) (bs : List Int) (w : World) (ha : Bs w A n c xs) (hb : Bs w B m d bs) (hn : n ≤ 8192) (hm : m ≤ 8192) (t0 : 0 ≤ t) (t1 : t ≤ 255) :
    Calls Try.prog 10 #[.slice A n c, .agg #[.int .u8 t, .slice B m d]] w (BytesPost w (appS xs (t, bs)).1 [.int .i64 (appS xs (t, bs)).2]) := by
  have hlen := hb.len
  by_cases h0 : t = 0
  · have R := Lib.hid (show (([] : List Int), (3 : Int)) = appS xs (t, bs) by simp [appS, wrS, h0])
    have hd : (t == 0) = true := by simpa using h0
    clear ha hb hlen h0
    go_enter Try.func10, Try.ntmps10
    go_wp2
    go_ret2
    exact post_mk R.out (Bs.nil _ _ _) ((Below.refl _ _).alloc (Nat.le_refl _) _)
  · have hd : (t == 0) = false := by simpa using h0
    have hl65 : ¬ (65535 : Int) < (m : Int) := by omega
    have hl66 : decide ((65535 : Int) < (m : Int)) = false := by simpa using hl65
    have R := Lib.hid (show (xs ++ secB (t, bs), (0 : Int)) = appS xs (t, bs) by
      have : wrS (t, bs) = (secB (t, bs), 0) := by simp only [wrS]; rw [if_neg h0, if_neg (by omega)]
      simp [appS, this])
    have hhl := headS_len (t, bs) (by simp only; omega)
    have HH : Hid (headS (t, bs) = [t] ++ vb m ++ bs) := by show _ = _; simp [headS, hlen]
    have HP := Lib.hid (putS_sum (headS (t, bs)))
    have HD := Lib.hid (secB_def (t, bs))
    have hw : IntKind.u64.wrap (m : Int) = m := by rw [IntKind.wrap_u64]; omega
    have hs := sumS_lt (headS (t, bs))
    have hsw : IntKind.u64.wrap ((sumS (headS (t, bs)) : Nat) : Int) = (sumS (headS (t, bs)) : Nat) := by rw [IntKind.wrap_u64]; omega
    obtain ⟨sm, hsm⟩ : ∃ sm, sumS (headS (t, bs)) = sm := ⟨_, rfl⟩
    obtain ⟨H, hH⟩ : ∃ H, headS (t, bs) = H := ⟨_, rfl⟩
    rw [hsm] at hs hsw
    have HSM := Lib.hid hsm; have HHH := Lib.hid hH
    rw [hH] at hhl
    have hhl2 : H.length ≤ 8200 := by simp only at hhl; omega
    have HHL := Lib.hid hhl2
    have HA := Lib.hid ha; have HB := Lib.hid hb; have HLen := Lib.hid hlen; have H0 := Lib.hid h0
    have hc1 := (Below.refl w.heap.size w).alloc (Nat.le_refl _) (.cells #[.int .u8 t, .slice B m d] 24)
    have hh1 := heap_alloc_new w (.cells #[.int .u8 t, .slice B m d] 24)
    have HC1 := Lib.hid hc1; have HH1 := Lib.hid hh1
    have k0 := pair0 hh1; have k1 := pair1 hh1
    clear ha hb hlen h0 hsm hH hhl hhl2 hc1 hh1
    go_enter Try.func10, Try.ntmps10
    go_wp2_with fail
    have hnew : Bs ((w.alloc (.cells #[.int .u8 t, .slice B m d] 24)).alloc (.cells #[.int .u8 t] 5)) (some ⟨w.heap.size + 1, 0, none⟩) 1 1 [t] := by
      have h := Bs.new_ (w.alloc (.cells #[.int .u8 t, .slice B m d] 24)) 5 [t] (by simpa using ⟨t0, t1⟩) (q := 1) rfl
      have e : (w.alloc (.cells #[.int .u8 t, .slice B m d] 24)).heap.size = w.heap.size + 1 := by simp
      rw [e] at h; exact h
    have hb2 : Below w.heap.size w ((w.alloc (.cells #[.int .u8 t, .slice B m d] 24)).alloc (.cells #[.int .u8 t] 5)) := HC1.out.alloc (by simp) _
    have hp2 : ((w.alloc (.cells #[.int .u8 t, .slice B m d] 24)).alloc (.cells #[.int .u8 t] 5)).heap[w.heap.size]? = some (.cells #[.int .u8 t, .slice B m d] 24) := (heap_alloc_old _ _ (by simp)).trans HH1.out
    generalize (w.alloc (.cells #[.int .u8 t, .slice B m d] 24)).alloc (.cells #[.int .u8 t] 5) = w2 at *
    clear k0 k1 HC1 HH1
    have P2 := Lib.hid hp2; have B2 := Lib.hid hb2
    refine (refVarAppend_own _ 1 1 [t] m w2 hnew (by omega) (by omega) (by omega)).mono ?_; rintro e w3 ⟨A3, n3, c3, rfl, ho3, hb3, hw3⟩
    rw [Int.toNat_natCast] at hb3 ho3
    have hp3 := (hw3.block _ (heap_lt P2.out)).trans P2.out
    have k0 := pair0 hp3; have k1 := pair1 hp3
    have hv := vs_le 2 m (by omega)
    have hl3 := hb3.len
    rw [List.length_append, vb_len, List.length_singleton] at hl3
    obtain ⟨i5, hi5, hz0, hz1, hz2⟩ := info_parts infoByte
    have B3 := Lib.hid (B2.out.trans (hw3.mono B2.out.size))
    obtain ⟨v4, w4, hap4, hown4, hgr4, hbase4⟩ := app_own (P := Try.prog) w3 w2.heap.size 22 22 5 i5 _ Try.underlying22 hi5 hz0 hz1 hz2 rfl _ n3 _ ho3 B m d _ (HB.out.below B3.out) (by omega) hw3.size
    rw [← HH.out, HHH.out] at hown4
    obtain ⟨A4, c4, rfl, hb4⟩ := Bs.of_own hown4 (by
      intro b hbm
      rw [← HHH.out, HH.out] at hbm
      rcases List.mem_append.1 hbm with h | h
      · exact hb3.byte b h
      · exact HB.out.byte b h)
    have hb24 := (B2.out.trans (hw3.mono B2.out.size)).grown hgr4 B3.out.size (fun k hk => Nat.le_trans B2.out.size (ho3.lt k hk).1)
    have B4 := Lib.hid hb24; have HB4 := Lib.hid hb4
    obtain ⟨n4, hn4⟩ : ∃ n4, n3 + m = n4 := ⟨_, rfl⟩
    rw [hn4] at hap4 HB4
    have hn4' : n4 ≤ 8200 := by omega
    clear hp2 hb2 hnew hb3 ho3 hw3 hp3 hv hl3 hown4 hgr4 hbase4 hb4 hb24 hi5 hz0 hz1 hz2 hn4
    go_wp2_with (at_builtin; refine wpl_app_run rfl rfl rfl rfl hap4 ?_)
    clear hap4 k0 k1
    refine (refSum_any A4 n4 c4 H w4 HB4.out (by omega)).mono ?_
    rw [show sumS H = sm by rw [← HHH.out]; exact HSM.out]
    rintro e w5 ⟨rfl, rfl⟩
    go_wp2_with fail
    refine (refPut_any A4 n4 c4 H sm 4 _ HB4.out (by omega) (by omega) (by omega)).mono ?_
    have e1 : putS H (sm : Int) 4 = (secB (t, bs), 0) := by
      rw [HD.out, ← HHH.out, ← HSM.out, HP.out]
    rw [e1]
    rintro e w6 ⟨A6, n6, c6, rfl, hb6, hw6⟩
    have B6 := Lib.hid (B4.out.trans (hw6.mono B4.out.size)); have HB6 := Lib.hid hb6
    clear hw6 e1
    have hl6 := headS_len (t, bs) (by have := HLen.out; simp only; omega)
    have hn6 : n6 ≤ 8204 := by rw [← hb6.len, HD.out, List.length_append, digs_len]; have := HLen.out; simp only at hl6; omega
    obtain ⟨i5, hi5, hz0, hz1, hz2⟩ := info_parts infoByte
    obtain ⟨A7, c7, w7, hap7, hown7, hb7, hw7⟩ := app_lit0 (P := Try.prog) w6 22 22 5 i5 _ Try.underlying22 hi5 hz0 hz1 hz2 rfl A n c _ (HA.out.below B6.out) (by omega)
    obtain ⟨v8, w8, hap8, hown8, hgr8, hbase8⟩ := app_own (P := Try.prog) w7 w6.heap.size 22 22 5 i5 _ Try.underlying22 hi5 hz0 hz1 hz2 rfl _ n xs hown7 A6 n6 c6 _ (HB6.out.below hw7) (by omega) hw7.size
    have hxb := HA.out.byte
    obtain ⟨A8, c8, rfl, hb8⟩ := Bs.of_own hown8 (by
      intro b hbm
      rcases List.mem_append.1 hbm with h | h
      · exact hxb b h
      · exact HB6.out.byte b h)
    have B8 := Lib.hid (B6.out.trans ((hw7.grown hgr8 hw7.size (fun k hk => (hown7.lt k hk).1)).mono B6.out.size)); have HB8 := Lib.hid hb8
    clear hb6 hl6 hi5 hz0 hz1 hz2 hown7 hb7 hw7 hown8 hgr8 hbase8 hxb hb8
    go_wp2_with (at_builtin; first | (refine wpl_app_run rfl rfl rfl rfl hap7 ?_; clear hap7) | (refine wpl_app_run rfl rfl rfl rfl hap8 ?_; clear hap8))
    go_ret2
    exact post_mk R.out HB8.out B8.out
end Go.Proofs.Ytipjbgmikbbkoaa
