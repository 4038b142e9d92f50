/- What the document's own Down of layer 12 answers; for lists of up to 16384. -/
import Derived.Test.YtehpfpphpffniaaTimC
namespace Go.Proofs.Ytehpfpphpffniaa
set_option linter.unusedVariables false
set_option linter.unusedSimpArgs false
open Go.RowKit
theorem bestC_end {h : List Tm} {b m : Nat} (he : h.length ≤ b + m + 1) : ∀ j : Nat, bestC h b (m + j) = bestC h b m
  | 0 => rfl
  | j + 1 => by
    show (if b + (m + j) + 1 < h.length ∧ _ then _ else bestC h b (m + j)) = _
    rw [if_neg (by omega)]
    exact bestC_end he j
set_option maxRecDepth 100000 in
set_option maxHeartbeats 8000000 in
theorem refDown_any (A : Option Addr) (n c f i : Nat) (h : List Tm) (w : World) (hx : Tms w A n c h) (hn : n ≤ 16384) (hi : i < n) (hf : n ≤ f + i) :
    Calls Try.prog 41 #[.slice A n c, .int .i64 (i : Int)] w (OwnT w (downT f h i)) := by
  have hlen : h.length = n := hx.len
  have hcp := refCopy12_any A n c h w hx hn
  have HF := Lib.hid (fun (a1 a2 b1 b2 : Int) (W : World) => refBefore_any a1 a2 b1 b2 W)
  obtain ⟨R, hR⟩ : ∃ R, downT f h i = R := ⟨_, rfl⟩
  rw [hR]
  have HR := Lib.hid hR
  have HF0 := Lib.hid hf
  have HL := Lib.hid hlen
  clear hR hx hf hlen
  go_enter Try.func41, Try.ntmps41
  go_wp2_with fail
  refine hcp.mono ?_
  rintro e w1 ⟨B, n1, d, rfl, hown, hb⟩
  obtain ⟨hn1, hn2⟩ := own_n12 hown
  rw [HL.out] at hn2; subst hn2
  obtain ⟨g, rfl⟩ := own_some12 hown (by omega)
  have HT := Lib.hid (TB.mk hown hb)
  clear hown hb hcp hn1
  go_wp2
  go_loopw [1, 6, 7] (fun iv bv kv wr => ∃ (k : Nat), iv = .int .i64 (k : Int) ∧ k < n1 ∧ Hid (∃ (f2 : Nat) (h2 : List Tm), n1 ≤ f2 + k ∧ downT f2 h2 k = R ∧ TB w wr g n1 d h2)) (fun iv _ _ _ => n1 - (intOf iv).toNat)
  case atStart => exact ⟨i, rfl, hi, f, h, HF0.out, HR.out, HT.out⟩
  case round =>
    clear HT HR HF0 hi
    obtain ⟨k, rfl, hk, HX⟩ := hrel
    obtain ⟨f2, h2, hf2, hR, hT⟩ := HX.out
    clear HX
    obtain ⟨f3, rfl⟩ : ∃ f3, f2 = f3 + 1 := ⟨f2 - 1, by omega⟩
    unfold downT at hR
    have hl2 := hT.len
    rw [hl2] at hR
    have HL2 := Lib.hid hl2
    have HT := Lib.hid hT
    clear hT hl2
    have k0 : (0 : Int) ≤ (k : Int) := by omega
    have k1 : (k : Int) < (n1 : Int) := by omega
    have HK := Lib.hid hk
    by_cases h0 : 4 * k + 1 < n1
    · have c0 : decide (4 * (k : Int) + 1 < (n1 : Int)) = true := by simp; omega
      have c0n : decide (4 * k + 1 < n1) = true := by simp; omega
      rw [if_pos h0] at hR
      obtain ⟨j, hj⟩ : ∃ j, 4 * k + 1 = j := ⟨_, rfl⟩
      have HR := Lib.hid hR
      have HF3 := Lib.hid hf2
      clear hR hf2
      go_wp2
      obtain ⟨wo, hwo⟩ : ∃ x, x = wr := ⟨_, rfl⟩
      subst hwo
      go_loopw [6, 7] (fun bv kv wr => ∃ (b k2 : Nat), bv = .int .i64 (b : Int) ∧ kv = .int .i64 (k2 : Int) ∧ b < n1 ∧ k2 ≤ n1 ∧ k2 ≤ 4 * k + 5 ∧ k < b ∧ Hid (∃ m : Nat, m ≤ 3 ∧ k2 = 4 * k + 2 + m ∧ bestC h2 (4 * k + 1) m = b) ∧ Hid (TB w wr g n1 d h2)) (fun _ kv _ => n1 - (intOf kv).toNat)
      case atStart => exact ⟨4 * k + 1, 4 * k + 2, by go_num, by go_num, by omega, by omega, by omega, by omega, Lib.hid ⟨0, by omega, rfl, rfl⟩, HT⟩
      case round =>
        clear HT
        obtain ⟨b, k2, rfl, rfl, hb1, hk2, hk3, hkb, HM, HT⟩ := hrel
        have b0 : (0 : Int) ≤ (b : Int) := by omega
        have b1 : (b : Int) < (n1 : Int) := by omega
        have HB := Lib.hid hb1
        obtain ⟨⟨vw, vk⟩, hv⟩ : ∃ x, tmAt h2 b = x := ⟨_, rfl⟩
        have VT := Lib.hid hv
        clear hv
        by_cases h1 : k2 < n1
        · have c1 : decide ((k2 : Int) < (n1 : Int)) = true := by simp; omega
          have c1n : decide (k2 < n1) = true := by simp; omega
          by_cases h3 : k2 ≤ 4 * k + 4
          · have c2 : decide ((k2 : Int) ≤ 4 * (k : Int) + 4) = true := by simp; omega
            have c2n : decide (k2 ≤ 4 * k + 4) = true := by simp; omega
            have q0 : (0 : Int) ≤ (k2 : Int) := by omega
            have q1 : (k2 : Int) < (n1 : Int) := by omega
            have HQ := Lib.hid h1
            obtain ⟨⟨uw, uk⟩, hu⟩ : ∃ x, tmAt h2 k2 = x := ⟨_, rfl⟩
            have UT := Lib.hid hu
            have BF := Lib.hid (fun W => HF.out uw uk vw vk W)
            obtain ⟨m, m1, m2, m3⟩ := HM.out
            have hbm : bestC h2 (4 * k + 1) (m + 1) = if befT (uw, uk) (vw, vk) then k2 else b := by
              have hkm : 4 * k + 1 + m + 1 = k2 := by omega
              show (if 4 * k + 1 + m + 1 < h2.length ∧ befT (tmAt h2 (4 * k + 1 + m + 1)) (tmAt h2 (bestC h2 (4 * k + 1) m)) then 4 * k + 1 + m + 1 else bestC h2 (4 * k + 1) m) = _
              rw [m3, hkm, hu, VT.out, HL2.out]
              by_cases h9 : befT (uw, uk) (vw, vk)
              · rw [if_pos ⟨h1, h9⟩, if_pos h9]
              · rw [if_neg (fun h => h9 h.2), if_neg h9]
            clear hu m3
            by_cases hb : befT (uw, uk) (vw, vk)
            · rw [decide_eq_true hb] at BF
              replace BF := Lib.hid BF.out
              rw [if_pos hb] at hbm
              have HM2 := Lib.hid (show ∃ m2 : Nat, m2 ≤ 3 ∧ k2 + 1 = 4 * k + 2 + m2 ∧ bestC h2 (4 * k + 1) m2 = k2 from ⟨m + 1, by omega, by omega, hbm⟩)
              have HK2 := Lib.hid (show k < k2 by omega)
              clear hbm hb m1 m2 HM
              go_upto_region 7 with fail
              refine wp_region_noPanic ?_
              refine wp_region_held_drew (S := (fun wv => Hid (TB w wv g n1 d h2))) (by kernel_rfl) (Lib.hid HT.out.drew) (fun hS => ?_)
              refine wpAnyH_take (i := 0) (oi := ⟨some 34, .move (.tmp 5), 22, "ref.go:59", #[], none⟩) (v := ?_) rfl (by kernel_rfl) (by kernel_rfl) (by kernel_rfl) (fun _ _ _ h => h) (Or.inl ⟨by rfl, ?_⟩) hS ?_
              rotate_left
              · intro wv _; go_simp; try with_reducible rfl
              try simp only [Act.put, List.setIfInBounds_toArray, List.set_cons_zero, List.set_cons_succ]
              refine wpAnyH_take (i := 1) (oi := ⟨some 35, .move (.tmp 7), 3, "ref.go:59", #[], none⟩) (v := ?_) rfl (by kernel_rfl) (by kernel_rfl) (by kernel_rfl) (fun _ _ _ h => h) (Or.inl ⟨by rfl, ?_⟩) hS ?_
              rotate_left
              · intro wv _; go_simp; try with_reducible rfl
              try simp only [Act.put, List.setIfInBounds_toArray, List.set_cons_zero, List.set_cons_succ]
              refine wpAnyH_take (i := 2) (oi := ⟨some 36, .indexAddr 22 (.tmp 34) (.tmp 35), 0, "ref.go:59", #[⟨0, .data⟩, ⟨1, .data⟩], none⟩) (v := ?_) rfl (by kernel_rfl) (by kernel_rfl) (by kernel_rfl) (fun _ _ _ h => h) (Or.inl ⟨by rfl, ?_⟩) hS ?_
              rotate_left
              · intro wv _; go_simp; try with_reducible rfl
              try simp only [Act.put, List.setIfInBounds_toArray, List.set_cons_zero, List.set_cons_succ]
              refine wpAnyH_take (i := 3) (oi := ⟨some 37, .load 24 (.tmp 36), 24, "ref.go:59", #[⟨2, .data⟩], none⟩) (v := .agg (([.int .i64 uw, .int .i64 uk] : List Value)).toArray) rfl (by kernel_rfl) (by kernel_rfl) (by kernel_rfl) (fun _ _ _ h => h) (yieldsIf_load_mid (by rfl) _ _ (by rfl) (g) (k2 * 2) (by rfl) (([.int .i64 uw, .int .i64 uk] : List Value)) _ (fun wv hS => hS.out.rng k2 HQ.out UT.out) Try.underlying24 (by rfl) (by kernel_rfl)) hS ?_
              try simp only [Act.put, List.setIfInBounds_toArray, List.set_cons_zero, List.set_cons_succ]
              refine wpAnyH_take (i := 4) (oi := ⟨some 38, .move (.tmp 5), 22, "ref.go:59", #[], none⟩) (v := ?_) rfl (by kernel_rfl) (by kernel_rfl) (by kernel_rfl) (fun _ _ _ h => h) (Or.inl ⟨by rfl, ?_⟩) hS ?_
              rotate_left
              · intro wv _; go_simp; try with_reducible rfl
              try simp only [Act.put, List.setIfInBounds_toArray, List.set_cons_zero, List.set_cons_succ]
              refine wpAnyH_take (i := 5) (oi := ⟨some 39, .move (.tmp 6), 3, "ref.go:59", #[], none⟩) (v := ?_) rfl (by kernel_rfl) (by kernel_rfl) (by kernel_rfl) (fun _ _ _ h => h) (Or.inl ⟨by rfl, ?_⟩) hS ?_
              rotate_left
              · intro wv _; go_simp; try with_reducible rfl
              try simp only [Act.put, List.setIfInBounds_toArray, List.set_cons_zero, List.set_cons_succ]
              refine wpAnyH_take (i := 6) (oi := ⟨some 40, .indexAddr 22 (.tmp 38) (.tmp 39), 0, "ref.go:59", #[⟨4, .data⟩, ⟨5, .data⟩], none⟩) (v := ?_) rfl (by kernel_rfl) (by kernel_rfl) (by kernel_rfl) (fun _ _ _ h => h) (Or.inl ⟨by rfl, ?_⟩) hS ?_
              rotate_left
              · intro wv _; go_simp; try with_reducible rfl
              try simp only [Act.put, List.setIfInBounds_toArray, List.set_cons_zero, List.set_cons_succ]
              refine wpAnyH_take (i := 7) (oi := ⟨some 41, .load 24 (.tmp 40), 24, "ref.go:59", #[⟨6, .data⟩], none⟩) (v := .agg (([.int .i64 vw, .int .i64 vk] : List Value)).toArray) rfl (by kernel_rfl) (by kernel_rfl) (by kernel_rfl) (fun _ _ _ h => h) (yieldsIf_load_mid (by rfl) _ _ (by rfl) (g) (b * 2) (by rfl) (([.int .i64 vw, .int .i64 vk] : List Value)) _ (fun wv hS => hS.out.rng b HB.out VT.out) Try.underlying24 (by rfl) (by kernel_rfl)) hS ?_
              try simp only [Act.put, List.setIfInBounds_toArray, List.set_cons_zero, List.set_cons_succ]
              refine wpAnyH_ready (rs := [8]) (by kernel_rfl) (by simp) (AllReadyH.cons (o := ⟨some 42, .call { callee := .value (.func 23), args := #[.tmp 37, .tmp 41], argTypes := #[24, 24] }, 4, "ref.go:59", #[⟨3, .data⟩, ⟨7, .data⟩], none⟩) rfl (fun K hK => ?_) AllReadyH.nil)
              go_simp
              refine (BF.out _).mono ?_; rintro e wa ⟨rfl, hbb⟩
              replace hS := Lib.hid (hS.out.step hbb)
              clear hbb
              go_wp2_with fail
              refine Shut.out hK _ _ hS (fun _ => ?_)
              clear hK K
              try simp only [Act.put, List.setIfInBounds_toArray, List.set_cons_zero, List.set_cons_succ]
              refine wpAnyH_done (by kernel_rfl) ?_ _
              refine NoPanic.normal ?_
              go_wp2
              go_roundw
              case rel => exact ⟨k2, k2 + 1, rfl, by go_num, by omega, by omega, by omega, by have := HK2.out; omega, HM2, hS⟩
              case measure => simp [intOf]; omega
            · rw [decide_eq_false hb] at BF
              replace BF := Lib.hid BF.out
              rw [if_neg hb] at hbm
              have HM2 := Lib.hid (show ∃ m2 : Nat, m2 ≤ 3 ∧ k2 + 1 = 4 * k + 2 + m2 ∧ bestC h2 (4 * k + 1) m2 = b from ⟨m + 1, by omega, by omega, hbm⟩)
              have HK2 := Lib.hid (show k < k2 by omega)
              clear hbm hb m1 m2 HM
              go_upto_region 7 with fail
              refine wp_region_noPanic ?_
              refine wp_region_held_drew (S := (fun wv => Hid (TB w wv g n1 d h2))) (by kernel_rfl) (Lib.hid HT.out.drew) (fun hS => ?_)
              refine wpAnyH_take (i := 0) (oi := ⟨some 34, .move (.tmp 5), 22, "ref.go:59", #[], none⟩) (v := ?_) rfl (by kernel_rfl) (by kernel_rfl) (by kernel_rfl) (fun _ _ _ h => h) (Or.inl ⟨by rfl, ?_⟩) hS ?_
              rotate_left
              · intro wv _; go_simp; try with_reducible rfl
              try simp only [Act.put, List.setIfInBounds_toArray, List.set_cons_zero, List.set_cons_succ]
              refine wpAnyH_take (i := 1) (oi := ⟨some 35, .move (.tmp 7), 3, "ref.go:59", #[], none⟩) (v := ?_) rfl (by kernel_rfl) (by kernel_rfl) (by kernel_rfl) (fun _ _ _ h => h) (Or.inl ⟨by rfl, ?_⟩) hS ?_
              rotate_left
              · intro wv _; go_simp; try with_reducible rfl
              try simp only [Act.put, List.setIfInBounds_toArray, List.set_cons_zero, List.set_cons_succ]
              refine wpAnyH_take (i := 2) (oi := ⟨some 36, .indexAddr 22 (.tmp 34) (.tmp 35), 0, "ref.go:59", #[⟨0, .data⟩, ⟨1, .data⟩], none⟩) (v := ?_) rfl (by kernel_rfl) (by kernel_rfl) (by kernel_rfl) (fun _ _ _ h => h) (Or.inl ⟨by rfl, ?_⟩) hS ?_
              rotate_left
              · intro wv _; go_simp; try with_reducible rfl
              try simp only [Act.put, List.setIfInBounds_toArray, List.set_cons_zero, List.set_cons_succ]
              refine wpAnyH_take (i := 3) (oi := ⟨some 37, .load 24 (.tmp 36), 24, "ref.go:59", #[⟨2, .data⟩], none⟩) (v := .agg (([.int .i64 uw, .int .i64 uk] : List Value)).toArray) rfl (by kernel_rfl) (by kernel_rfl) (by kernel_rfl) (fun _ _ _ h => h) (yieldsIf_load_mid (by rfl) _ _ (by rfl) (g) (k2 * 2) (by rfl) (([.int .i64 uw, .int .i64 uk] : List Value)) _ (fun wv hS => hS.out.rng k2 HQ.out UT.out) Try.underlying24 (by rfl) (by kernel_rfl)) hS ?_
              try simp only [Act.put, List.setIfInBounds_toArray, List.set_cons_zero, List.set_cons_succ]
              refine wpAnyH_take (i := 4) (oi := ⟨some 38, .move (.tmp 5), 22, "ref.go:59", #[], none⟩) (v := ?_) rfl (by kernel_rfl) (by kernel_rfl) (by kernel_rfl) (fun _ _ _ h => h) (Or.inl ⟨by rfl, ?_⟩) hS ?_
              rotate_left
              · intro wv _; go_simp; try with_reducible rfl
              try simp only [Act.put, List.setIfInBounds_toArray, List.set_cons_zero, List.set_cons_succ]
              refine wpAnyH_take (i := 5) (oi := ⟨some 39, .move (.tmp 6), 3, "ref.go:59", #[], none⟩) (v := ?_) rfl (by kernel_rfl) (by kernel_rfl) (by kernel_rfl) (fun _ _ _ h => h) (Or.inl ⟨by rfl, ?_⟩) hS ?_
              rotate_left
              · intro wv _; go_simp; try with_reducible rfl
              try simp only [Act.put, List.setIfInBounds_toArray, List.set_cons_zero, List.set_cons_succ]
              refine wpAnyH_take (i := 6) (oi := ⟨some 40, .indexAddr 22 (.tmp 38) (.tmp 39), 0, "ref.go:59", #[⟨4, .data⟩, ⟨5, .data⟩], none⟩) (v := ?_) rfl (by kernel_rfl) (by kernel_rfl) (by kernel_rfl) (fun _ _ _ h => h) (Or.inl ⟨by rfl, ?_⟩) hS ?_
              rotate_left
              · intro wv _; go_simp; try with_reducible rfl
              try simp only [Act.put, List.setIfInBounds_toArray, List.set_cons_zero, List.set_cons_succ]
              refine wpAnyH_take (i := 7) (oi := ⟨some 41, .load 24 (.tmp 40), 24, "ref.go:59", #[⟨6, .data⟩], none⟩) (v := .agg (([.int .i64 vw, .int .i64 vk] : List Value)).toArray) rfl (by kernel_rfl) (by kernel_rfl) (by kernel_rfl) (fun _ _ _ h => h) (yieldsIf_load_mid (by rfl) _ _ (by rfl) (g) (b * 2) (by rfl) (([.int .i64 vw, .int .i64 vk] : List Value)) _ (fun wv hS => hS.out.rng b HB.out VT.out) Try.underlying24 (by rfl) (by kernel_rfl)) hS ?_
              try simp only [Act.put, List.setIfInBounds_toArray, List.set_cons_zero, List.set_cons_succ]
              refine wpAnyH_ready (rs := [8]) (by kernel_rfl) (by simp) (AllReadyH.cons (o := ⟨some 42, .call { callee := .value (.func 23), args := #[.tmp 37, .tmp 41], argTypes := #[24, 24] }, 4, "ref.go:59", #[⟨3, .data⟩, ⟨7, .data⟩], none⟩) rfl (fun K hK => ?_) AllReadyH.nil)
              go_simp
              refine (BF.out _).mono ?_; rintro e wa ⟨rfl, hbb⟩
              replace hS := Lib.hid (hS.out.step hbb)
              clear hbb
              go_wp2_with fail
              refine Shut.out hK _ _ hS (fun _ => ?_)
              clear hK K
              try simp only [Act.put, List.setIfInBounds_toArray, List.set_cons_zero, List.set_cons_succ]
              refine wpAnyH_done (by kernel_rfl) ?_ _
              refine NoPanic.normal ?_
              go_wp2
              go_roundw
              case rel => exact ⟨b, k2 + 1, rfl, by go_num, by omega, by omega, by omega, by have := HK2.out; omega, HM2, hS⟩
              case measure => simp [intOf]; omega
          · have c2 : decide ((k2 : Int) ≤ 4 * (k : Int) + 4) = false := by simp; omega
            have c2n : decide (k2 ≤ 4 * k + 4) = false := by simp; omega
            have hb3 : bestC h2 (4 * k + 1) 3 = b := by
              obtain ⟨m, m1, m2, m3⟩ := HM.out
              have h8 : m = 3 := by omega
              subst h8
              exact m3
            have HB3 := Lib.hid hb3
            clear hb3
            have hR := HR.out
            rw [HB3.out] at hR
            clear HR HM HB3
            obtain ⟨⟨tw, tk⟩, ht⟩ : ∃ x, tmAt h2 k = x := ⟨_, rfl⟩
            rw [VT.out, ht] at hR
            have AT := Lib.hid ht
            clear ht
            have BF := Lib.hid (fun W => HF.out vw vk tw tk W)
            by_cases hb : befT (vw, vk) (tw, tk)
            · rw [if_pos hb] at hR
              have HR := Lib.hid hR
              rw [decide_eq_true hb] at BF
              replace BF := Lib.hid BF.out
              have hkb9 := Lib.hid hkb
              clear hR hb
              go_upto_region 9 with fail
              refine wp_region_noPanic ?_
              refine wp_region_held_drew (S := (fun wv => Hid (TB w wv g n1 d h2))) (by kernel_rfl) (Lib.hid HT.out.drew) (fun hS => ?_)
              refine wpAnyH_take (i := 0) (oi := ⟨some 44, .move (.tmp 5), 22, "ref.go:63", #[], none⟩) (v := ?_) rfl (by kernel_rfl) (by kernel_rfl) (by kernel_rfl) (fun _ _ _ h => h) (Or.inl ⟨by rfl, ?_⟩) hS ?_
              rotate_left
              · intro wv _; go_simp; try with_reducible rfl
              try simp only [Act.put, List.setIfInBounds_toArray, List.set_cons_zero, List.set_cons_succ]
              refine wpAnyH_take (i := 1) (oi := ⟨some 45, .move (.tmp 6), 3, "ref.go:63", #[], none⟩) (v := ?_) rfl (by kernel_rfl) (by kernel_rfl) (by kernel_rfl) (fun _ _ _ h => h) (Or.inl ⟨by rfl, ?_⟩) hS ?_
              rotate_left
              · intro wv _; go_simp; try with_reducible rfl
              try simp only [Act.put, List.setIfInBounds_toArray, List.set_cons_zero, List.set_cons_succ]
              refine wpAnyH_take (i := 2) (oi := ⟨some 46, .indexAddr 22 (.tmp 44) (.tmp 45), 0, "ref.go:63", #[⟨0, .data⟩, ⟨1, .data⟩], none⟩) (v := ?_) rfl (by kernel_rfl) (by kernel_rfl) (by kernel_rfl) (fun _ _ _ h => h) (Or.inl ⟨by rfl, ?_⟩) hS ?_
              rotate_left
              · intro wv _; go_simp; try with_reducible rfl
              try simp only [Act.put, List.setIfInBounds_toArray, List.set_cons_zero, List.set_cons_succ]
              refine wpAnyH_take (i := 3) (oi := ⟨some 47, .load 24 (.tmp 46), 24, "ref.go:63", #[⟨2, .data⟩], none⟩) (v := .agg (([.int .i64 vw, .int .i64 vk] : List Value)).toArray) rfl (by kernel_rfl) (by kernel_rfl) (by kernel_rfl) (fun _ _ _ h => h) (yieldsIf_load_mid (by rfl) _ _ (by rfl) (g) (b * 2) (by rfl) (([.int .i64 vw, .int .i64 vk] : List Value)) _ (fun wv hS => hS.out.rng b HB.out VT.out) Try.underlying24 (by rfl) (by kernel_rfl)) hS ?_
              try simp only [Act.put, List.setIfInBounds_toArray, List.set_cons_zero, List.set_cons_succ]
              refine wpAnyH_take (i := 4) (oi := ⟨some 48, .move (.tmp 5), 22, "ref.go:63", #[], none⟩) (v := ?_) rfl (by kernel_rfl) (by kernel_rfl) (by kernel_rfl) (fun _ _ _ h => h) (Or.inl ⟨by rfl, ?_⟩) hS ?_
              rotate_left
              · intro wv _; go_simp; try with_reducible rfl
              try simp only [Act.put, List.setIfInBounds_toArray, List.set_cons_zero, List.set_cons_succ]
              refine wpAnyH_take (i := 5) (oi := ⟨some 49, .move (.tmp 1), 3, "ref.go:63", #[], none⟩) (v := ?_) rfl (by kernel_rfl) (by kernel_rfl) (by kernel_rfl) (fun _ _ _ h => h) (Or.inl ⟨by rfl, ?_⟩) hS ?_
              rotate_left
              · intro wv _; go_simp; try with_reducible rfl
              try simp only [Act.put, List.setIfInBounds_toArray, List.set_cons_zero, List.set_cons_succ]
              refine wpAnyH_take (i := 6) (oi := ⟨some 50, .indexAddr 22 (.tmp 48) (.tmp 49), 0, "ref.go:63", #[⟨4, .data⟩, ⟨5, .data⟩], none⟩) (v := ?_) rfl (by kernel_rfl) (by kernel_rfl) (by kernel_rfl) (fun _ _ _ h => h) (Or.inl ⟨by rfl, ?_⟩) hS ?_
              rotate_left
              · intro wv _; go_simp; try with_reducible rfl
              try simp only [Act.put, List.setIfInBounds_toArray, List.set_cons_zero, List.set_cons_succ]
              refine wpAnyH_take (i := 7) (oi := ⟨some 51, .load 24 (.tmp 50), 24, "ref.go:63", #[⟨6, .data⟩], none⟩) (v := .agg (([.int .i64 tw, .int .i64 tk] : List Value)).toArray) rfl (by kernel_rfl) (by kernel_rfl) (by kernel_rfl) (fun _ _ _ h => h) (yieldsIf_load_mid (by rfl) _ _ (by rfl) (g) (k * 2) (by rfl) (([.int .i64 tw, .int .i64 tk] : List Value)) _ (fun wv hS => hS.out.rng k HK.out AT.out) Try.underlying24 (by rfl) (by kernel_rfl)) hS ?_
              try simp only [Act.put, List.setIfInBounds_toArray, List.set_cons_zero, List.set_cons_succ]
              refine wpAnyH_ready (rs := [8]) (by kernel_rfl) (by simp) (AllReadyH.cons (o := ⟨some 52, .call { callee := .value (.func 23), args := #[.tmp 47, .tmp 51], argTypes := #[24, 24] }, 4, "ref.go:63", #[⟨3, .data⟩, ⟨7, .data⟩], none⟩) rfl (fun K hK => ?_) AllReadyH.nil)
              go_simp
              refine (BF.out _).mono ?_; rintro e wa ⟨rfl, hbb⟩
              replace hS := Lib.hid (hS.out.step hbb)
              clear hbb
              go_wp2_with fail
              refine Shut.out hK _ _ hS (fun _ => ?_)
              clear hK K
              try simp only [Act.put, List.setIfInBounds_toArray, List.set_cons_zero, List.set_cons_succ]
              refine wpAnyH_take (i := 9) (oi := ⟨some 53, .unOp .not 4 (.tmp 52), 4, "ref.go:63", #[⟨8, .data⟩], none⟩) (v := ?_) rfl (by kernel_rfl) (by kernel_rfl) (by kernel_rfl) (fun _ _ _ h => h) (Or.inl ⟨by rfl, ?_⟩) hS ?_
              rotate_left
              · intro wv _; go_simp; try with_reducible rfl
              try simp only [Act.put, List.setIfInBounds_toArray, List.set_cons_zero, List.set_cons_succ]
              refine wpAnyH_done (by kernel_rfl) ?_ _
              refine NoPanic.normal ?_
              clear HT
              have HT := Lib.hid hS.out
              clear hS
              go_upto_region 11 with fail
              obtain ⟨a0, a1⟩ := HT.out.at k HK.out
              obtain ⟨d0, d1⟩ := HT.out.at b HB.out
              rw [AT.out] at a0 a1; rw [VT.out] at d0 d1
              simp only at a0 a1 d0 d1
              have ff0 := HT.out.own.frozenAt (k * 2)
              have ff1 := HT.out.own.frozenAt (k * 2 + 1)
              have ff2 := HT.out.own.frozenAt (b * 2)
              have ff3 := HT.out.own.frozenAt (b * 2 + 1)
              go_region
              go_wp2
              go_roundw
              case rel => exact ⟨b, rfl, HB.out, f3, swapT h2 k b, by have := HF3.out; have := hkb9.out; omega, HR.out, by unfold swapT; rw [AT.out, VT.out]; exact (HT.out.drew.set k HK.out vw vk).set b HB.out tw tk⟩
              case measure => simp [intOf]; omega
            · rw [if_neg hb] at hR
              subst hR
              rw [decide_eq_false hb] at BF
              replace BF := Lib.hid BF.out
              clear hb
              go_upto_region 9 with fail
              refine wp_region_noPanic ?_
              refine wp_region_held_drew (S := (fun wv => Hid (TB w wv g n1 d h2))) (by kernel_rfl) (Lib.hid HT.out.drew) (fun hS => ?_)
              refine wpAnyH_take (i := 0) (oi := ⟨some 44, .move (.tmp 5), 22, "ref.go:63", #[], none⟩) (v := ?_) rfl (by kernel_rfl) (by kernel_rfl) (by kernel_rfl) (fun _ _ _ h => h) (Or.inl ⟨by rfl, ?_⟩) hS ?_
              rotate_left
              · intro wv _; go_simp; try with_reducible rfl
              try simp only [Act.put, List.setIfInBounds_toArray, List.set_cons_zero, List.set_cons_succ]
              refine wpAnyH_take (i := 1) (oi := ⟨some 45, .move (.tmp 6), 3, "ref.go:63", #[], none⟩) (v := ?_) rfl (by kernel_rfl) (by kernel_rfl) (by kernel_rfl) (fun _ _ _ h => h) (Or.inl ⟨by rfl, ?_⟩) hS ?_
              rotate_left
              · intro wv _; go_simp; try with_reducible rfl
              try simp only [Act.put, List.setIfInBounds_toArray, List.set_cons_zero, List.set_cons_succ]
              refine wpAnyH_take (i := 2) (oi := ⟨some 46, .indexAddr 22 (.tmp 44) (.tmp 45), 0, "ref.go:63", #[⟨0, .data⟩, ⟨1, .data⟩], none⟩) (v := ?_) rfl (by kernel_rfl) (by kernel_rfl) (by kernel_rfl) (fun _ _ _ h => h) (Or.inl ⟨by rfl, ?_⟩) hS ?_
              rotate_left
              · intro wv _; go_simp; try with_reducible rfl
              try simp only [Act.put, List.setIfInBounds_toArray, List.set_cons_zero, List.set_cons_succ]
              refine wpAnyH_take (i := 3) (oi := ⟨some 47, .load 24 (.tmp 46), 24, "ref.go:63", #[⟨2, .data⟩], none⟩) (v := .agg (([.int .i64 vw, .int .i64 vk] : List Value)).toArray) rfl (by kernel_rfl) (by kernel_rfl) (by kernel_rfl) (fun _ _ _ h => h) (yieldsIf_load_mid (by rfl) _ _ (by rfl) (g) (b * 2) (by rfl) (([.int .i64 vw, .int .i64 vk] : List Value)) _ (fun wv hS => hS.out.rng b HB.out VT.out) Try.underlying24 (by rfl) (by kernel_rfl)) hS ?_
              try simp only [Act.put, List.setIfInBounds_toArray, List.set_cons_zero, List.set_cons_succ]
              refine wpAnyH_take (i := 4) (oi := ⟨some 48, .move (.tmp 5), 22, "ref.go:63", #[], none⟩) (v := ?_) rfl (by kernel_rfl) (by kernel_rfl) (by kernel_rfl) (fun _ _ _ h => h) (Or.inl ⟨by rfl, ?_⟩) hS ?_
              rotate_left
              · intro wv _; go_simp; try with_reducible rfl
              try simp only [Act.put, List.setIfInBounds_toArray, List.set_cons_zero, List.set_cons_succ]
              refine wpAnyH_take (i := 5) (oi := ⟨some 49, .move (.tmp 1), 3, "ref.go:63", #[], none⟩) (v := ?_) rfl (by kernel_rfl) (by kernel_rfl) (by kernel_rfl) (fun _ _ _ h => h) (Or.inl ⟨by rfl, ?_⟩) hS ?_
              rotate_left
              · intro wv _; go_simp; try with_reducible rfl
              try simp only [Act.put, List.setIfInBounds_toArray, List.set_cons_zero, List.set_cons_succ]
              refine wpAnyH_take (i := 6) (oi := ⟨some 50, .indexAddr 22 (.tmp 48) (.tmp 49), 0, "ref.go:63", #[⟨4, .data⟩, ⟨5, .data⟩], none⟩) (v := ?_) rfl (by kernel_rfl) (by kernel_rfl) (by kernel_rfl) (fun _ _ _ h => h) (Or.inl ⟨by rfl, ?_⟩) hS ?_
              rotate_left
              · intro wv _; go_simp; try with_reducible rfl
              try simp only [Act.put, List.setIfInBounds_toArray, List.set_cons_zero, List.set_cons_succ]
              refine wpAnyH_take (i := 7) (oi := ⟨some 51, .load 24 (.tmp 50), 24, "ref.go:63", #[⟨6, .data⟩], none⟩) (v := .agg (([.int .i64 tw, .int .i64 tk] : List Value)).toArray) rfl (by kernel_rfl) (by kernel_rfl) (by kernel_rfl) (fun _ _ _ h => h) (yieldsIf_load_mid (by rfl) _ _ (by rfl) (g) (k * 2) (by rfl) (([.int .i64 tw, .int .i64 tk] : List Value)) _ (fun wv hS => hS.out.rng k HK.out AT.out) Try.underlying24 (by rfl) (by kernel_rfl)) hS ?_
              try simp only [Act.put, List.setIfInBounds_toArray, List.set_cons_zero, List.set_cons_succ]
              refine wpAnyH_ready (rs := [8]) (by kernel_rfl) (by simp) (AllReadyH.cons (o := ⟨some 52, .call { callee := .value (.func 23), args := #[.tmp 47, .tmp 51], argTypes := #[24, 24] }, 4, "ref.go:63", #[⟨3, .data⟩, ⟨7, .data⟩], none⟩) rfl (fun K hK => ?_) AllReadyH.nil)
              go_simp
              refine (BF.out _).mono ?_; rintro e wa ⟨rfl, hbb⟩
              replace hS := Lib.hid (hS.out.step hbb)
              clear hbb
              go_wp2_with fail
              refine Shut.out hK _ _ hS (fun _ => ?_)
              clear hK K
              try simp only [Act.put, List.setIfInBounds_toArray, List.set_cons_zero, List.set_cons_succ]
              refine wpAnyH_take (i := 9) (oi := ⟨some 53, .unOp .not 4 (.tmp 52), 4, "ref.go:63", #[⟨8, .data⟩], none⟩) (v := ?_) rfl (by kernel_rfl) (by kernel_rfl) (by kernel_rfl) (fun _ _ _ h => h) (Or.inl ⟨by rfl, ?_⟩) hS ?_
              rotate_left
              · intro wv _; go_simp; try with_reducible rfl
              try simp only [Act.put, List.setIfInBounds_toArray, List.set_cons_zero, List.set_cons_succ]
              refine wpAnyH_done (by kernel_rfl) ?_ _
              refine NoPanic.normal ?_
              clear HT
              have HT := Lib.hid hS.out
              clear hS
              go_wp2
              go_ret
              exact HT.out.out
        · have en : k2 = n1 := by omega
          have c1 : decide ((k2 : Int) < (n1 : Int)) = false := by simp; omega
          have c1n : decide (k2 < n1) = false := by simp; omega
          have hb3 : bestC h2 (4 * k + 1) 3 = b := by
            obtain ⟨m, m1, m2, m3⟩ := HM.out
            have h9 := bestC_end (h := h2) (b := 4 * k + 1) (m := m) (by rw [HL2.out]; omega) (3 - m)
            rw [show m + (3 - m) = 3 by omega] at h9
            rw [h9]
            exact m3
          have HB3 := Lib.hid hb3
          clear hb3
          have hR := HR.out
          rw [HB3.out] at hR
          clear HR HM HB3
          obtain ⟨⟨tw, tk⟩, ht⟩ : ∃ x, tmAt h2 k = x := ⟨_, rfl⟩
          rw [VT.out, ht] at hR
          have AT := Lib.hid ht
          clear ht
          have BF := Lib.hid (fun W => HF.out vw vk tw tk W)
          by_cases hb : befT (vw, vk) (tw, tk)
          · rw [if_pos hb] at hR
            have HR := Lib.hid hR
            rw [decide_eq_true hb] at BF
            replace BF := Lib.hid BF.out
            have hkb9 := Lib.hid hkb
            clear hR hb
            go_upto_region 9 with fail
            refine wp_region_noPanic ?_
            refine wp_region_held_drew (S := (fun wv => Hid (TB w wv g n1 d h2))) (by kernel_rfl) (Lib.hid HT.out.drew) (fun hS => ?_)
            refine wpAnyH_take (i := 0) (oi := ⟨some 44, .move (.tmp 5), 22, "ref.go:63", #[], none⟩) (v := ?_) rfl (by kernel_rfl) (by kernel_rfl) (by kernel_rfl) (fun _ _ _ h => h) (Or.inl ⟨by rfl, ?_⟩) hS ?_
            rotate_left
            · intro wv _; go_simp; try with_reducible rfl
            try simp only [Act.put, List.setIfInBounds_toArray, List.set_cons_zero, List.set_cons_succ]
            refine wpAnyH_take (i := 1) (oi := ⟨some 45, .move (.tmp 6), 3, "ref.go:63", #[], none⟩) (v := ?_) rfl (by kernel_rfl) (by kernel_rfl) (by kernel_rfl) (fun _ _ _ h => h) (Or.inl ⟨by rfl, ?_⟩) hS ?_
            rotate_left
            · intro wv _; go_simp; try with_reducible rfl
            try simp only [Act.put, List.setIfInBounds_toArray, List.set_cons_zero, List.set_cons_succ]
            refine wpAnyH_take (i := 2) (oi := ⟨some 46, .indexAddr 22 (.tmp 44) (.tmp 45), 0, "ref.go:63", #[⟨0, .data⟩, ⟨1, .data⟩], none⟩) (v := ?_) rfl (by kernel_rfl) (by kernel_rfl) (by kernel_rfl) (fun _ _ _ h => h) (Or.inl ⟨by rfl, ?_⟩) hS ?_
            rotate_left
            · intro wv _; go_simp; try with_reducible rfl
            try simp only [Act.put, List.setIfInBounds_toArray, List.set_cons_zero, List.set_cons_succ]
            refine wpAnyH_take (i := 3) (oi := ⟨some 47, .load 24 (.tmp 46), 24, "ref.go:63", #[⟨2, .data⟩], none⟩) (v := .agg (([.int .i64 vw, .int .i64 vk] : List Value)).toArray) rfl (by kernel_rfl) (by kernel_rfl) (by kernel_rfl) (fun _ _ _ h => h) (yieldsIf_load_mid (by rfl) _ _ (by rfl) (g) (b * 2) (by rfl) (([.int .i64 vw, .int .i64 vk] : List Value)) _ (fun wv hS => hS.out.rng b HB.out VT.out) Try.underlying24 (by rfl) (by kernel_rfl)) hS ?_
            try simp only [Act.put, List.setIfInBounds_toArray, List.set_cons_zero, List.set_cons_succ]
            refine wpAnyH_take (i := 4) (oi := ⟨some 48, .move (.tmp 5), 22, "ref.go:63", #[], none⟩) (v := ?_) rfl (by kernel_rfl) (by kernel_rfl) (by kernel_rfl) (fun _ _ _ h => h) (Or.inl ⟨by rfl, ?_⟩) hS ?_
            rotate_left
            · intro wv _; go_simp; try with_reducible rfl
            try simp only [Act.put, List.setIfInBounds_toArray, List.set_cons_zero, List.set_cons_succ]
            refine wpAnyH_take (i := 5) (oi := ⟨some 49, .move (.tmp 1), 3, "ref.go:63", #[], none⟩) (v := ?_) rfl (by kernel_rfl) (by kernel_rfl) (by kernel_rfl) (fun _ _ _ h => h) (Or.inl ⟨by rfl, ?_⟩) hS ?_
            rotate_left
            · intro wv _; go_simp; try with_reducible rfl
            try simp only [Act.put, List.setIfInBounds_toArray, List.set_cons_zero, List.set_cons_succ]
            refine wpAnyH_take (i := 6) (oi := ⟨some 50, .indexAddr 22 (.tmp 48) (.tmp 49), 0, "ref.go:63", #[⟨4, .data⟩, ⟨5, .data⟩], none⟩) (v := ?_) rfl (by kernel_rfl) (by kernel_rfl) (by kernel_rfl) (fun _ _ _ h => h) (Or.inl ⟨by rfl, ?_⟩) hS ?_
            rotate_left
            · intro wv _; go_simp; try with_reducible rfl
            try simp only [Act.put, List.setIfInBounds_toArray, List.set_cons_zero, List.set_cons_succ]
            refine wpAnyH_take (i := 7) (oi := ⟨some 51, .load 24 (.tmp 50), 24, "ref.go:63", #[⟨6, .data⟩], none⟩) (v := .agg (([.int .i64 tw, .int .i64 tk] : List Value)).toArray) rfl (by kernel_rfl) (by kernel_rfl) (by kernel_rfl) (fun _ _ _ h => h) (yieldsIf_load_mid (by rfl) _ _ (by rfl) (g) (k * 2) (by rfl) (([.int .i64 tw, .int .i64 tk] : List Value)) _ (fun wv hS => hS.out.rng k HK.out AT.out) Try.underlying24 (by rfl) (by kernel_rfl)) hS ?_
            try simp only [Act.put, List.setIfInBounds_toArray, List.set_cons_zero, List.set_cons_succ]
            refine wpAnyH_ready (rs := [8]) (by kernel_rfl) (by simp) (AllReadyH.cons (o := ⟨some 52, .call { callee := .value (.func 23), args := #[.tmp 47, .tmp 51], argTypes := #[24, 24] }, 4, "ref.go:63", #[⟨3, .data⟩, ⟨7, .data⟩], none⟩) rfl (fun K hK => ?_) AllReadyH.nil)
            go_simp
            refine (BF.out _).mono ?_; rintro e wa ⟨rfl, hbb⟩
            replace hS := Lib.hid (hS.out.step hbb)
            clear hbb
            go_wp2_with fail
            refine Shut.out hK _ _ hS (fun _ => ?_)
            clear hK K
            try simp only [Act.put, List.setIfInBounds_toArray, List.set_cons_zero, List.set_cons_succ]
            refine wpAnyH_take (i := 9) (oi := ⟨some 53, .unOp .not 4 (.tmp 52), 4, "ref.go:63", #[⟨8, .data⟩], none⟩) (v := ?_) rfl (by kernel_rfl) (by kernel_rfl) (by kernel_rfl) (fun _ _ _ h => h) (Or.inl ⟨by rfl, ?_⟩) hS ?_
            rotate_left
            · intro wv _; go_simp; try with_reducible rfl
            try simp only [Act.put, List.setIfInBounds_toArray, List.set_cons_zero, List.set_cons_succ]
            refine wpAnyH_done (by kernel_rfl) ?_ _
            refine NoPanic.normal ?_
            clear HT
            have HT := Lib.hid hS.out
            clear hS
            go_upto_region 11 with fail
            obtain ⟨a0, a1⟩ := HT.out.at k HK.out
            obtain ⟨d0, d1⟩ := HT.out.at b HB.out
            rw [AT.out] at a0 a1; rw [VT.out] at d0 d1
            simp only at a0 a1 d0 d1
            have ff0 := HT.out.own.frozenAt (k * 2)
            have ff1 := HT.out.own.frozenAt (k * 2 + 1)
            have ff2 := HT.out.own.frozenAt (b * 2)
            have ff3 := HT.out.own.frozenAt (b * 2 + 1)
            go_region
            go_wp2
            go_roundw
            case rel => exact ⟨b, rfl, HB.out, f3, swapT h2 k b, by have := HF3.out; have := hkb9.out; omega, HR.out, by unfold swapT; rw [AT.out, VT.out]; exact (HT.out.drew.set k HK.out vw vk).set b HB.out tw tk⟩
            case measure => simp [intOf]; omega
          · rw [if_neg hb] at hR
            subst hR
            rw [decide_eq_false hb] at BF
            replace BF := Lib.hid BF.out
            clear hb
            go_upto_region 9 with fail
            refine wp_region_noPanic ?_
            refine wp_region_held_drew (S := (fun wv => Hid (TB w wv g n1 d h2))) (by kernel_rfl) (Lib.hid HT.out.drew) (fun hS => ?_)
            refine wpAnyH_take (i := 0) (oi := ⟨some 44, .move (.tmp 5), 22, "ref.go:63", #[], none⟩) (v := ?_) rfl (by kernel_rfl) (by kernel_rfl) (by kernel_rfl) (fun _ _ _ h => h) (Or.inl ⟨by rfl, ?_⟩) hS ?_
            rotate_left
            · intro wv _; go_simp; try with_reducible rfl
            try simp only [Act.put, List.setIfInBounds_toArray, List.set_cons_zero, List.set_cons_succ]
            refine wpAnyH_take (i := 1) (oi := ⟨some 45, .move (.tmp 6), 3, "ref.go:63", #[], none⟩) (v := ?_) rfl (by kernel_rfl) (by kernel_rfl) (by kernel_rfl) (fun _ _ _ h => h) (Or.inl ⟨by rfl, ?_⟩) hS ?_
            rotate_left
            · intro wv _; go_simp; try with_reducible rfl
            try simp only [Act.put, List.setIfInBounds_toArray, List.set_cons_zero, List.set_cons_succ]
            refine wpAnyH_take (i := 2) (oi := ⟨some 46, .indexAddr 22 (.tmp 44) (.tmp 45), 0, "ref.go:63", #[⟨0, .data⟩, ⟨1, .data⟩], none⟩) (v := ?_) rfl (by kernel_rfl) (by kernel_rfl) (by kernel_rfl) (fun _ _ _ h => h) (Or.inl ⟨by rfl, ?_⟩) hS ?_
            rotate_left
            · intro wv _; go_simp; try with_reducible rfl
            try simp only [Act.put, List.setIfInBounds_toArray, List.set_cons_zero, List.set_cons_succ]
            refine wpAnyH_take (i := 3) (oi := ⟨some 47, .load 24 (.tmp 46), 24, "ref.go:63", #[⟨2, .data⟩], none⟩) (v := .agg (([.int .i64 vw, .int .i64 vk] : List Value)).toArray) rfl (by kernel_rfl) (by kernel_rfl) (by kernel_rfl) (fun _ _ _ h => h) (yieldsIf_load_mid (by rfl) _ _ (by rfl) (g) (b * 2) (by rfl) (([.int .i64 vw, .int .i64 vk] : List Value)) _ (fun wv hS => hS.out.rng b HB.out VT.out) Try.underlying24 (by rfl) (by kernel_rfl)) hS ?_
            try simp only [Act.put, List.setIfInBounds_toArray, List.set_cons_zero, List.set_cons_succ]
            refine wpAnyH_take (i := 4) (oi := ⟨some 48, .move (.tmp 5), 22, "ref.go:63", #[], none⟩) (v := ?_) rfl (by kernel_rfl) (by kernel_rfl) (by kernel_rfl) (fun _ _ _ h => h) (Or.inl ⟨by rfl, ?_⟩) hS ?_
            rotate_left
            · intro wv _; go_simp; try with_reducible rfl
            try simp only [Act.put, List.setIfInBounds_toArray, List.set_cons_zero, List.set_cons_succ]
            refine wpAnyH_take (i := 5) (oi := ⟨some 49, .move (.tmp 1), 3, "ref.go:63", #[], none⟩) (v := ?_) rfl (by kernel_rfl) (by kernel_rfl) (by kernel_rfl) (fun _ _ _ h => h) (Or.inl ⟨by rfl, ?_⟩) hS ?_
            rotate_left
            · intro wv _; go_simp; try with_reducible rfl
            try simp only [Act.put, List.setIfInBounds_toArray, List.set_cons_zero, List.set_cons_succ]
            refine wpAnyH_take (i := 6) (oi := ⟨some 50, .indexAddr 22 (.tmp 48) (.tmp 49), 0, "ref.go:63", #[⟨4, .data⟩, ⟨5, .data⟩], none⟩) (v := ?_) rfl (by kernel_rfl) (by kernel_rfl) (by kernel_rfl) (fun _ _ _ h => h) (Or.inl ⟨by rfl, ?_⟩) hS ?_
            rotate_left
            · intro wv _; go_simp; try with_reducible rfl
            try simp only [Act.put, List.setIfInBounds_toArray, List.set_cons_zero, List.set_cons_succ]
            refine wpAnyH_take (i := 7) (oi := ⟨some 51, .load 24 (.tmp 50), 24, "ref.go:63", #[⟨6, .data⟩], none⟩) (v := .agg (([.int .i64 tw, .int .i64 tk] : List Value)).toArray) rfl (by kernel_rfl) (by kernel_rfl) (by kernel_rfl) (fun _ _ _ h => h) (yieldsIf_load_mid (by rfl) _ _ (by rfl) (g) (k * 2) (by rfl) (([.int .i64 tw, .int .i64 tk] : List Value)) _ (fun wv hS => hS.out.rng k HK.out AT.out) Try.underlying24 (by rfl) (by kernel_rfl)) hS ?_
            try simp only [Act.put, List.setIfInBounds_toArray, List.set_cons_zero, List.set_cons_succ]
            refine wpAnyH_ready (rs := [8]) (by kernel_rfl) (by simp) (AllReadyH.cons (o := ⟨some 52, .call { callee := .value (.func 23), args := #[.tmp 47, .tmp 51], argTypes := #[24, 24] }, 4, "ref.go:63", #[⟨3, .data⟩, ⟨7, .data⟩], none⟩) rfl (fun K hK => ?_) AllReadyH.nil)
            go_simp
            refine (BF.out _).mono ?_; rintro e wa ⟨rfl, hbb⟩
            replace hS := Lib.hid (hS.out.step hbb)
            clear hbb
            go_wp2_with fail
            refine Shut.out hK _ _ hS (fun _ => ?_)
            clear hK K
            try simp only [Act.put, List.setIfInBounds_toArray, List.set_cons_zero, List.set_cons_succ]
            refine wpAnyH_take (i := 9) (oi := ⟨some 53, .unOp .not 4 (.tmp 52), 4, "ref.go:63", #[⟨8, .data⟩], none⟩) (v := ?_) rfl (by kernel_rfl) (by kernel_rfl) (by kernel_rfl) (fun _ _ _ h => h) (Or.inl ⟨by rfl, ?_⟩) hS ?_
            rotate_left
            · intro wv _; go_simp; try with_reducible rfl
            try simp only [Act.put, List.setIfInBounds_toArray, List.set_cons_zero, List.set_cons_succ]
            refine wpAnyH_done (by kernel_rfl) ?_ _
            refine NoPanic.normal ?_
            clear HT
            have HT := Lib.hid hS.out
            clear hS
            go_wp2
            go_ret
            exact HT.out.out
    · have c0 : decide (4 * (k : Int) + 1 < (n1 : Int)) = false := by simp; omega
      have c0n : decide (4 * k + 1 < n1) = false := by simp; omega
      rw [if_neg h0] at hR
      subst hR
      go_wp2
      go_ret
      exact HT.out.out
end Go.Proofs.Ytehpfpphpffniaa
