/- What the document's own Read answers; for bytes up to 16384. -/
import Derived.Test.YtipjbgmikbbkoaaSecK
namespace Go.Proofs.Ytipjbgmikbbkoaa
set_option linter.unusedVariables false
set_option linter.unusedSimpArgs false
open Go.RowKit

theorem cutS_arg {bs : List Int} {k m : Int} (h : k < 0 ∨ (bs.length : Int) < k) : cutS bs k m = ([], 0, 1) := by unfold cutS; rw [if_pos (by omega)]
theorem secS_arg {bs : List Int} {k : Int} (h : k < 0 ∨ (bs.length : Int) < k) : secS bs k = ((0, []), 0, 1) :=
  secS_tag (p := (0, 0, 1)) (tagS_err (p := (0, 0, 1)) (takeS_err (by omega) (cutS_arg h) (by decide)) (by decide)) (by decide)
theorem secS_end {bs : List Int} : secS bs (bs.length : Nat) = ((0, []), 0, 2) :=
  secS_tag (p := (0, 0, 2)) (tagS_err (p := (0, 0, 2)) (takeS_err (by omega) (by unfold cutS; rw [if_neg (by omega), if_pos (by omega)]) (by decide)) (by decide)) (by decide)
theorem tagS_here {bs : List Int} {j : Nat} (h : j < bs.length) : takeS bs j 1 = (bs.getD j 0, ((j + 1 : Nat) : Int), 0) := by
  have := takeS_mk bs j 1 (by omega) (by omega) (by omega)
  rw [take_one bs j h, num_one] at this; exact this
theorem secS_zero {bs : List Int} {j : Nat} (h : j < bs.length) (h0 : bs.getD j 0 = 0) : secS bs j = ((0, []), 0, 3) :=
  secS_tag (p := (0, 0, 3)) (tagS_zero (tagS_here h) rfl h0) (by decide)
theorem tagS_some {bs : List Int} {j : Nat} (h : j < bs.length) (h0 : bs.getD j 0 ≠ 0) : tagS bs j = (bs.getD j 0, ((j + 1 : Nat) : Int), 0) := tagS_ok (tagS_here h) rfl h0

theorem refRead_end {w W : World} {x y : Value} {bs : List Int} {at_ k' e t : Int} {body : List Int} {A2 : Option Addr} {n2 c2 : Nat} {tmps : Array Value} (h : secS bs at_ = ((t, body), k', e)) (hp : W.heap[w.heap.size]? = some (.cells #[x, y] 24)) (hbw : Below w.heap.size w W)
    (hb : Bs W A2 n2 c2 body) (hf : Fresh (w.heap.size + 1) A2 n2) (h4 : tmps.getD 4 undef = .pointer (some ⟨w.heap.size, 0, none⟩)) (h5 : tmps.getD 5 undef = .int .i64 k') (h6 : tmps.getD 6 undef = .int .i64 e) :
    bodyPost Try.prog Try.f12 (SecPost w (secS bs at_)) Exit.ret { tmps := tmps, defers := [] } ((W.setCell ⟨w.heap.size, 0, none⟩ (.int .u8 t)).setCell ⟨w.heap.size, 1, none⟩ (.slice A2 n2 c2)) := by
  have hp' := heap_pair hp (.int .u8 t) (.slice A2 n2 c2)
  have hne : ∀ (hn : 0 < n2) a, A2 = some a → some a.block ≠ some w.heap.size := fun hn a ha => by
    obtain ⟨b, off, e1, e2⟩ := hf hn
    rw [ha] at e1; injection e1 with e1; subst e1
    simp at e2 ⊢; omega
  refine bodyPost_ret (results_css Try.results12 h4 (load_sec hp')) rfl ?_
  rw [h]
  exact ⟨A2, n2, c2, by rw [h5, h6], (hb.grownF (grown_setCell _ _ _ _) hne).grownF (grown_setCell _ _ _ _) hne, hf.mono (by omega), (hbw.setCell (by simp) _).setCell (by simp) _⟩

theorem refRead_end0 {w W : World} {bs : List Int} {at_ e : Int} {tmps : Array Value} (h : secS bs at_ = ((0, []), 0, e)) (hp : W.heap[w.heap.size]? = some (.cells #[.int .u8 0, .slice none 0 0] 24)) (hbw : Below w.heap.size w W)
    (h4 : tmps.getD 4 undef = .pointer (some ⟨w.heap.size, 0, none⟩)) (h5 : tmps.getD 5 undef = .int .i64 0) (h6 : tmps.getD 6 undef = .int .i64 e) :
    bodyPost Try.prog Try.f12 (SecPost w (secS bs at_)) Exit.ret { tmps := tmps, defers := [] } W := by
  refine bodyPost_ret (results_css Try.results12 h4 (load_sec hp)) rfl ?_
  rw [h]
  exact ⟨none, 0, 0, by rw [h5, h6], Bs.nil _ _ _, Fresh.zero, hbw⟩
set_option maxHeartbeats 1000000 in
theorem refSecRead_any (A : Option Addr) (n c : Nat) (bs : List Int) (at_ : Int) (w : World) (hb : Bs w A n c bs) (hn : n ≤ 16384) :
    Calls Try.prog 12 #[.slice A n c, .int .i64 at_] w (SecPost w (secS bs at_)) := by
  have hlen := hb.len
  have hp0 := heap_alloc_new w (.cells #[.int .u8 0, .slice none 0 0] 24)
  have hw0 := hd0 w (o := .cells #[.int .u8 0, .slice none 0 0] 24)
  have HP0 := Lib.hid hp0; have HW0 := Lib.hid hw0
  clear hp0 hw0
  by_cases h1 : at_ < 0
  · have R := Lib.hid (secS_arg (bs := bs) (k := at_) (Or.inl h1))
    clear hlen hb
    go_enter Try.func12, Try.ntmps12
    go_wp2
    refine refRead_end0 R.out HP0.out HW0.out ?_ ?_ ?_ <;> rfl
  · by_cases h2 : (n : Int) < at_
    · have R := Lib.hid (secS_arg (bs := bs) (k := at_) (Or.inr (by rw [hlen]; exact h2)))
      have hd : decide ((n : Int) < at_) = true := by simpa using h2
      clear hlen hb
      go_enter Try.func12, Try.ntmps12
      go_wp2
      refine refRead_end0 R.out HP0.out HW0.out ?_ ?_ ?_ <;> rfl
    · have hd : decide ((n : Int) < at_) = false := by simpa using h2
      obtain ⟨j, rfl⟩ : ∃ j : Nat, at_ = j := ⟨at_.toNat, by omega⟩
      by_cases h3 : j = n
      · subst h3
        have R := Lib.hid (show secS bs (j : Int) = ((0, []), 0, 2) by rw [← hlen]; exact secS_end)
        clear hlen hb
        go_enter Try.func12, Try.ntmps12
        go_wp2
        refine refRead_end0 R.out HP0.out HW0.out ?_ ?_ ?_ <;> rfl
      · have hj : j < n := by omega
        have hd3 : (j == n) = false := by simpa using h3
        have hd3' : ((j : Int) == (n : Int)) = false := by simp; omega
        obtain ⟨b, off, t, hA, hbl, hc, t0, t1, _, hget⟩ := hb.look j hj
        subst hA
        have hbl0 : b < (w.alloc (.cells #[.int .u8 0, .slice none 0 0] 24)).heap.size := by simp; omega
        have hc0 : (w.alloc (.cells #[.int .u8 0, .slice none 0 0] 24)).cell? ⟨b, off + j, none⟩ = some (.int .u8 t) := (HW0.out.cell (p := ⟨_, _, none⟩) hbl).trans hc
        have hjl : j < bs.length := by omega
        by_cases h4 : t = 0
        · subst h4
          have R := Lib.hid (secS_zero hjl hget)
          clear hlen hb hget hjl
          go_enter Try.func12, Try.ntmps12
          go_wp2
          refine refRead_end0 R.out HP0.out HW0.out ?_ ?_ ?_ <;> rfl
        · have hd4 : (t == 0) = false := by simpa using h4
          have hT := tagS_some hjl (by rw [hget]; exact h4)
          rw [hget] at hT
          have HT := Lib.hid hT; have HGet := Lib.hid hget; have HB := Lib.hid hb; have HJL := Lib.hid hjl; have HLen := Lib.hid hlen; have HBL := Lib.hid hbl; have HCj := Lib.hid hc
          clear hb hget hjl hlen hbl hc
          have HB0 := Lib.hid (HB.out.below HW0.out)
          have hwj : (j : Int) + 1 = ((j + 1 : Nat) : Int) := by omega
          have VR := Lib.hid (fun w2 h2 => refVarRead_any (some ⟨b, off, none⟩) n c bs ((j + 1 : Nat) : Int) w2 h2 hn)
          rw [← hwj] at VR
          have HWJ := Lib.hid hwj
          clear hwj
          by_cases h5 : (readS bs ((j + 1 : Nat) : Int)).2.2 = 0
          · obtain ⟨x, k1, hx⟩ : ∃ x k1, readS bs ((j + 1 : Nat) : Int) = (x, k1, 0) := ⟨(readS bs ((j + 1 : Nat) : Int)).1, (readS bs ((j + 1 : Nat) : Int)).2.1, Prod.ext rfl (Prod.ext rfl h5)⟩
            have hx0 := (readS_range bs ((j + 1 : Nat) : Int) HB.out.byte).1
            rw [hx] at hx0
            have HX := Lib.hid (show readS bs ((j : Int) + 1) = (x, k1, 0) by rw [HWJ.out]; exact hx)
            clear h5
            by_cases h6 : 65535 < x
            · have R := Lib.hid (secS_body HT.out rfl (bodyS_err (lenS_long hx rfl h6) (by decide)) (by decide))
              have hd6 : decide (65535 < x) = true := by simpa using h6
              clear hx hx0
              go_enter Try.func12, Try.ntmps12
              go_wp2_with fail
              refine (VR.out _ HB0.out).mono ?_; rw [HX.out]; rintro e w2 ⟨rfl, rfl⟩
              go_wp2_with fail
              refine refRead_end0 R.out HP0.out HW0.out ?_ ?_ ?_ <;> rfl
            · have hd6 : decide (65535 < x) = false := by simpa using h6
              have hxw : IntKind.i64.wrap x = x := by rw [IntKind.wrap_i64]; omega
              have hL := lenS_ok hx rfl h6
              have HC := Lib.hid (fun w2 h2 => refCut_new (some ⟨b, off, none⟩) n c bs k1 x w2 h2 hn)
              have hb1 : bodyS bs ((j + 1 : Nat) : Int) = cutS bs k1 x := bodyS_ok hL rfl
              obtain ⟨q, hq⟩ : ∃ q, cutS bs k1 x = q := ⟨_, rfl⟩
              rw [hq] at hb1
              by_cases h7 : q.2.2 = 0
              · obtain ⟨body, k2, e0⟩ := q
                simp only at h7; subst h7
                obtain ⟨y, m, hq2, _, hm, hl2, _, _⟩ := bodyS_inv (k := j + 1) HB.out.byte (by have := HJL.out; omega) hb1 rfl
                injection hq2 with hq3 hq4; injection hq4 with hq4 _
                obtain ⟨k2n, hk2n⟩ : ∃ k2n : Nat, j + 1 + m + y = k2n := ⟨_, rfl⟩
                rw [hk2n] at hq4 hl2
                subst hq4
                have hjk : j < k2n := by omega
                have HT2 := Lib.hid (fun w2 h2 => refTake_any (some ⟨b, off, none⟩) n c bs k2n 4 w2 h2 hn)
                obtain ⟨q2, hq5⟩ : ∃ q2, takeS bs (k2n : Int) 4 = q2 := ⟨_, rfl⟩
                have HQ := Lib.hid hq; have HQ5 := Lib.hid hq5; have HB1 := Lib.hid hb1
                clear hq hx hx0 hL hq3 hk2n hm
                by_cases h8 : q2.2.2 = 0
                · obtain ⟨v, k3, e0⟩ := q2
                  simp only at h8; subst h8
                  obtain ⟨_, _, e4, e5, _, _, e6, e7, e77⟩ := takeS_inv hq5
                  have hv0 : 0 ≤ v ∧ v ≤ 18446744073709551615 := by
                    have h9 : ∀ z ∈ (bs.drop k2n).take 4, 0 ≤ z ∧ z ≤ 255 := fun z hz => HB.out.byte z (List.mem_of_mem_drop (List.mem_of_mem_take hz))
                    have e8 := takeS_mk bs k2n 4 (by omega) (by omega) (by omega)
                    have e9 : v = num ((bs.drop k2n).take 4) := by
                      have e10 := e8.symm.trans hq5
                      injection e10 with e11 _; exact e11.symm
                    have := num_nonneg _ h9; have := num_lt 8 ((bs.drop k2n).take 4) (by simp; omega) h9
                    have e12 : (256 : Int) ^ 8 = 18446744073709551616 := by decide
                    omega
                  have hss : ((k2n : Int) - (j : Int)).toNat = k2n - j := by omega
                  have hslt := sumS_lt ((bs.drop j).take (k2n - j))
                  obtain ⟨sm, hsm⟩ : ∃ sm, sumS ((bs.drop j).take (k2n - j)) = sm := ⟨_, rfl⟩
                  rw [hsm] at hslt
                  have hsw : IntKind.u64.wrap (sm : Int) = (sm : Int) := by rw [IntKind.wrap_u64]; omega
                  have HSM := Lib.hid (fun w2 A2 c2 (h : Bs w2 A2 (k2n - j) c2 ((bs.drop j).take (k2n - j))) => refSum_any A2 (k2n - j) c2 _ w2 h (by have := HLen.out; omega))
                  rw [hsm] at HSM
                  obtain ⟨sv, hsv⟩ : ∃ sv : Int, (sm : Int) = sv := ⟨_, rfl⟩
                  have HSV := Lib.hid hsv
                  by_cases h9 : sv = v
                  · have hd9 : (sv != v) = false := by simpa using h9
                    have R := Lib.hid (secS_ok HT.out rfl HB1.out rfl HQ5.out rfl (by rw [show ((((body, (k2n : Int), (0 : Int)) : List Int × Int × Int).2.1) - (j : Int)).toNat = k2n - j from hss, Int.toNat_natCast, hsm]; exact h9.symm.trans hsv.symm))
                    clear hq5 e4 e5 e6 e7 e77 hsm hb1 h9
                    go_enter Try.func12, Try.ntmps12
                    go_wp2_with fail
                    refine (VR.out _ HB0.out).mono ?_; rw [HX.out]; rintro e w2 ⟨rfl, rfl⟩
                    go_wp2_with fail
                    refine (HC.out _ HB0.out).mono ?_; rw [HQ.out]; rintro e w3 ⟨A3, n3, c3, rfl, hb3, hw3, hf3⟩
                    have hw3' := HW0.out.trans (hw3.mono HW0.out.size)
                    have HW3 := Lib.hid hw3'; have HP3 := Lib.hid ((hw3.block _ (by simp)).trans HP0.out)
                    have HB3 := Lib.hid hb3; have HF3 := Lib.hid (hf3.mono (m' := w.heap.size + 1) (by simp))
                    clear hb3 hw3 hf3 hw3'
                    go_wp2_with fail
                    refine (HT2.out _ (HB.out.below HW3.out)).mono ?_; rw [HQ5.out]; rintro e w4 ⟨rfl, hw4⟩
                    have HW4 := Lib.hid (HW3.out.trans (hw4.mono HW3.out.size)); have HP4 := Lib.hid ((hw4.block _ (heap_lt HP3.out)).trans HP3.out)
                    have HB4 := Lib.hid (HB3.out.below hw4)
                    have k0 := pair0 HP4.out; have k1 := pair1 HP4.out; have z0 := row_z HP4.out 0; have z1 := row_z HP4.out 1
                    obtain ⟨A5, c5, hsl, hb5⟩ := (HB.out.below HW4.out).slice 22 undBytes sizeByte (j : Int) (k2n : Int) j (k2n - j) rfl (by omega) (by have := HLen.out; omega)
                    have HB5 := Lib.hid hb5
                    have hcj : w4.cell? ⟨b, off + j, none⟩ = some (.int .u8 t) := (HW4.out.cell (p := ⟨_, _, none⟩) HBL.out).trans HCj.out
                    clear hw4 hb5
                    go_wp2_with fail
                    refine (HSM.out _ _ _ HB5.out).mono ?_; rintro e w5 ⟨rfl, rfl⟩
                    rw [hsv] at hsw
                    simp only [hsv]
                    go_wp2_with fail
                    refine refRead_end R.out HP4.out HW4.out HB4.out HF3.out ?_ ?_ ?_ <;> rfl
                  · have hd9 : (sv != v) = true := by simpa using h9
                    have R := Lib.hid (secS_sum HT.out rfl HB1.out rfl HQ5.out rfl (by rw [show ((((body, (k2n : Int), (0 : Int)) : List Int × Int × Int).2.1) - (j : Int)).toNat = k2n - j from hss, Int.toNat_natCast, hsm]; exact fun h => h9 (hsv.symm.trans h.symm)))
                    clear hq5 e4 e5 e6 e7 e77 hsm hb1 h9
                    go_enter Try.func12, Try.ntmps12
                    go_wp2_with fail
                    refine (VR.out _ HB0.out).mono ?_; rw [HX.out]; rintro e w2 ⟨rfl, rfl⟩
                    go_wp2_with fail
                    refine (HC.out _ HB0.out).mono ?_; rw [HQ.out]; rintro e w3 ⟨A3, n3, c3, rfl, hb3, hw3, hf3⟩
                    have hw3' := HW0.out.trans (hw3.mono HW0.out.size)
                    have HW3 := Lib.hid hw3'; have HP3 := Lib.hid ((hw3.block _ (by simp)).trans HP0.out)
                    have HB3 := Lib.hid hb3; have HF3 := Lib.hid (hf3.mono (m' := w.heap.size + 1) (by simp))
                    clear hb3 hw3 hf3 hw3'
                    go_wp2_with fail
                    refine (HT2.out _ (HB.out.below HW3.out)).mono ?_; rw [HQ5.out]; rintro e w4 ⟨rfl, hw4⟩
                    have HW4 := Lib.hid (HW3.out.trans (hw4.mono HW3.out.size)); have HP4 := Lib.hid ((hw4.block _ (heap_lt HP3.out)).trans HP3.out)
                    have HB4 := Lib.hid (HB3.out.below hw4)
                    have k0 := pair0 HP4.out; have k1 := pair1 HP4.out; have z0 := row_z HP4.out 0; have z1 := row_z HP4.out 1
                    obtain ⟨A5, c5, hsl, hb5⟩ := (HB.out.below HW4.out).slice 22 undBytes sizeByte (j : Int) (k2n : Int) j (k2n - j) rfl (by omega) (by have := HLen.out; omega)
                    have HB5 := Lib.hid hb5
                    have hcj : w4.cell? ⟨b, off + j, none⟩ = some (.int .u8 t) := (HW4.out.cell (p := ⟨_, _, none⟩) HBL.out).trans HCj.out
                    clear hw4 hb5
                    go_wp2_with fail
                    refine (HSM.out _ _ _ HB5.out).mono ?_; rintro e w5 ⟨rfl, rfl⟩
                    rw [hsv] at hsw
                    simp only [hsv]
                    go_wp2_with fail
                    refine refRead_end R.out HP4.out HW4.out (Bs.nil _ _ _) Fresh.zero ?_ ?_ ?_ <;> rfl
                · have R := Lib.hid (secS_short HT.out rfl HB1.out rfl HQ5.out h8)
                  obtain ⟨v, k3, e0⟩ := q2
                  have hd8 : (e0 != 0) = true := by simpa using h8
                  clear hq5 hb1 h8
                  go_enter Try.func12, Try.ntmps12
                  go_wp2_with fail
                  refine (VR.out _ HB0.out).mono ?_; rw [HX.out]; rintro e w2 ⟨rfl, rfl⟩
                  go_wp2_with fail
                  refine (HC.out _ HB0.out).mono ?_; rw [HQ.out]; rintro e w3 ⟨A3, n3, c3, rfl, hb3, hw3, hf3⟩
                  have hw3' := HW0.out.trans (hw3.mono HW0.out.size)
                  have HW3 := Lib.hid hw3'; have HP3 := Lib.hid ((hw3.block _ (by simp)).trans HP0.out)
                  clear hb3 hw3 hf3 hw3'
                  go_wp2_with fail
                  refine (HT2.out _ (HB.out.below HW3.out)).mono ?_; rw [HQ5.out]; rintro e w4 ⟨rfl, hw4⟩
                  have HW4 := Lib.hid (HW3.out.trans (hw4.mono HW3.out.size)); have HP4 := Lib.hid ((hw4.block _ (heap_lt HP3.out)).trans HP3.out)
                  have k0 := pair0 HP4.out; have k1 := pair1 HP4.out; have z0 := row_z HP4.out 0; have z1 := row_z HP4.out 1
                  clear hw4
                  go_wp2_with fail
                  refine refRead_end R.out HP4.out HW4.out (Bs.nil _ _ _) Fresh.zero ?_ ?_ ?_ <;> rfl
              · have R := Lib.hid (secS_body HT.out rfl hb1 h7)
                obtain ⟨body, k2, e0⟩ := q
                have hd7 : (e0 != 0) = true := by simpa using h7
                have HQ := Lib.hid hq
                clear hq hx hx0 hL hb1 h7
                go_enter Try.func12, Try.ntmps12
                go_wp2_with fail
                refine (VR.out _ HB0.out).mono ?_; rw [HX.out]; rintro e w2 ⟨rfl, rfl⟩
                go_wp2_with fail
                refine (HC.out _ HB0.out).mono ?_; rw [HQ.out]; rintro e w3 ⟨A3, n3, c3, rfl, hb3, hw3, hf3⟩
                have hw3' := HW0.out.trans (hw3.mono HW0.out.size)
                have HW3 := Lib.hid hw3'; have HP3 := Lib.hid ((hw3.block _ (by simp)).trans HP0.out)
                have k0 := pair0 HP3.out; have k1 := pair1 HP3.out; have z0 := row_z HP3.out 0; have z1 := row_z HP3.out 1
                clear hb3 hw3 hf3 hw3'
                go_wp2_with fail
                refine refRead_end R.out HP3.out HW3.out (Bs.nil _ _ _) Fresh.zero ?_ ?_ ?_ <;> rfl
          · have R := Lib.hid (secS_body HT.out rfl (bodyS_err (lenS_err rfl h5) h5) h5)
            obtain ⟨p, hp⟩ : ∃ p, readS bs ((j + 1 : Nat) : Int) = p := ⟨_, rfl⟩
            simp only [hp] at R
            have HX := Lib.hid (show readS bs ((j : Int) + 1) = p by rw [HWJ.out]; exact hp)
            rw [hp] at h5
            obtain ⟨x, k1, e0⟩ := p
            have hd5 : (e0 != 0) = true := by simpa using h5
            clear hp h5
            go_enter Try.func12, Try.ntmps12
            go_wp2_with fail
            refine (VR.out _ HB0.out).mono ?_; rw [HX.out]; rintro e w2 ⟨rfl, rfl⟩
            go_wp2_with fail
            refine refRead_end0 R.out HP0.out HW0.out ?_ ?_ ?_ <;> rfl
end Go.Proofs.Ytipjbgmikbbkoaa
