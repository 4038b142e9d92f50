/- What the document's own List answers; for bytes up to 16384. -/
import Derived.Test.YtipjbgmikbbkoaaSecL
namespace Go.Proofs.Ytipjbgmikbbkoaa
set_option linter.unusedVariables false
set_option linter.unusedSimpArgs false
open Go.RowKit

theorem lastT_get (acc : List (Int × List Int)) (l : Nat) (h : acc.length = l + 1) : (acc.getD l (0, [])).1 = lastT acc := by
  unfold lastT
  rw [List.getLast?_eq_getElem?, h]
  simp [List.getD, List.getElem?_eq_getElem (show l < acc.length by omega)]
set_option maxHeartbeats 2000000 in
theorem refSecList_any (A : Option Addr) (n c : Nat) (bs : List Int) (w : World) (hb : Bs w A n c bs) (hn : n ≤ 16384) :
    Calls Try.prog 14 #[.slice A n c] w (ListPost w (listS bs)) := by
  obtain ⟨R, hR⟩ : ∃ R, listS bs = R := ⟨_, rfl⟩
  have hlen := hb.len
  have HL := Lib.hid (show listA bs n 0 [] = R by rw [← hR, listS, hlen])
  rw [hR]
  have HB := Lib.hid hb; have HLen := Lib.hid hlen
  clear hb hlen hR
  go_enter Try.func14, Try.ntmps14
  go_wp2
  go_loopw [4, 5] (fun v t wr => ∃ (k f : Nat) (acc : List (Int × List Int)) (A3 : Option Addr) (q c3 : Nat), k ≤ n ∧ n ≤ k + f ∧ q ≤ k ∧ t = .int .i64 (k : Int) ∧ v = .slice A3 q c3 ∧ Below w.heap.size w wr ∧ OwnSs wr w.heap.size (.slice A3 q c3) acc ∧ Hid (acc.length = q) ∧ Hid (listA bs f k acc = R)) (fun _ t _ => n - (intOf t).toNat)
  case atStart => exact ⟨0, n, [], none, 0, 0, by omega, by omega, by simp, rfl, rfl, Below.refl _ _, OwnSs.nil _ _, rfl, HL.out⟩
  case round =>
    obtain ⟨k, f, acc, A3, q, c3, hk, hf, hal, rfl, rfl, hbl, hos, hq, hd⟩ := hrel
    have HBl := Lib.hid hbl; have HOs := Lib.hid hos; have HD := Lib.hid hd; have HQ := Lib.hid hq
    clear hbl hos hd hq
    by_cases hlt : k < n
    · obtain ⟨f, rfl⟩ : ∃ f', f = f' + 1 := ⟨f - 1, by omega⟩
      have hd1 : decide ((k : Int) < (n : Int)) = true := by simpa using hlt
      have hkl : k < bs.length := by rw [HLen.out]; exact hlt
      have N := refSecRead_any A n c bs (k : Int) wr (HB.out.below HBl.out) hn
      by_cases he : (secS bs k).2.2 = 0
      · obtain ⟨s, k', hp⟩ : ∃ s k', secS bs (k : Int) = (s, k', 0) := ⟨(secS bs k).1, (secS bs k).2.1, Prod.ext rfl (Prod.ext rfl he)⟩
        obtain ⟨j, q4, _, hj, hjq, hq4, hk', _, _, _, _, s1, s2⟩ := secS_inv HB.out.byte hp
        obtain ⟨kn, hkn⟩ : ∃ kn : Nat, q4 + 4 = kn := ⟨_, rfl⟩
        rw [hkn] at hk' hq4
        subst hk'
        have hkk : k < kn := by omega
        have hknn : kn ≤ n := by rw [← HLen.out]; exact hq4
        rw [hp] at N
        obtain ⟨t, body⟩ := s
        simp only at s1 s2
        have HP := Lib.hid hp; have N := Lib.hid N
        clear hp hj hjq hq4 hkn
        rcases Nat.eq_zero_or_pos q with h0 | h0
        · subst h0
          obtain rfl : acc = [] := List.eq_nil_of_length_eq_zero HQ.out.out
          have HE := Lib.hid (show listA bs f kn ([] ++ [(t, body)]) = R by rw [← HD.out.out, listA_next hkl HP.out (by rw [lastT_nil]; simp only; omega)])
          clear he hkl
          go_wp2_with fail
          refine N.out.mono ?_; rintro e w2 ⟨A2, n2, c2, rfl, hb2, hf2, hw2⟩
          have hos2 := HOs.out.turn (q := none) (grown_below hw2) (by simp)
          have hsz := HBl.out.size; have hsz2 := hw2.size
          have HNe := Lib.hid (show 0 < n2 → ∀ a, A2 = some a → w.heap.size ≤ a.block ∧ wr.heap.size ≤ a.block from fun hn a ha => by
            obtain ⟨b, off, e1, e2⟩ := hf2 hn
            rw [ha] at e1; injection e1 with e1; subst e1
            exact ⟨by simp only; omega, e2⟩)
          have HOs3 := Lib.hid (hos2.turn (q := none) (grown_alloc (World.grownBy.refl w2 none) (.cells #[.int .u8 t, .slice A2 n2 c2] 24)) (by simp))
          have HB3 := Lib.hid (hb2.alloc (.cells #[.int .u8 t, .slice A2 n2 c2] 24))
          have hp3 := heap_alloc_new w2 (.cells #[.int .u8 t, .slice A2 n2 c2] 24)
          have HP3 := Lib.hid hp3
          have HBW3 := Lib.hid (show Below w.heap.size w (w2.alloc (.cells #[.int .u8 t, .slice A2 n2 c2] 24)) from (HBl.out.trans (hw2.mono hsz)).alloc (by omega) _)
          have HCL := Lib.hid (show Below wr.heap.size wr (w2.alloc (.cells #[.int .u8 t, .slice A2 n2 c2] 24)) from hw2.alloc hsz2 _)
          clear hb2 hf2 hw2 hos2 hsz hsz2 hp3
          go_wp2_with fail
          generalize w2.heap.size = sb at *
          generalize w2.alloc (.cells #[.int .u8 t, .slice A2 n2 c2] 24) = w3 at *
          have k0 := pair0 HP3.out; have k1 := pair1 HP3.out
          have hg0 : decide ((0 : Int) < ((0 : Nat) : Int)) = false := by decide
          go_quiet (fail)
          clear k0 k1
          have HP4 := Lib.hid (show (w3.drewN nq).heap[sb]? = some (.cells #[.int .u8 t, .slice A2 n2 c2] 24) from HP3.out)
          have HB4 := Lib.hid (HB3.out.drewN nq)
          have HBW4 := Lib.hid (show Below w.heap.size w (w3.drewN nq) from ⟨HBW3.out.os, HBW3.out.tape, HBW3.out.output, HBW3.out.size, HBW3.out.block⟩)
          have HOs4 := Lib.hid (HOs3.out.turn (q := none) (grown_drewN (World.grownBy.refl w3 none) nq) (by simp))
          generalize w3.drewN nq = w4 at *
          have k0 := pair0 HP4.out; have k1 := pair1 HP4.out
          obtain ⟨v5, w5, hap, hos5, hg5, A5, n5, c5, rfl⟩ := HOs4.out.app HBW4.out.size (by have := HQ.out.out; omega) (t := t) (body := body) HB4.out ⟨by omega, s2⟩ (fun hn a ha => ⟨(HNe.out hn a ha).1, fun h => by
            have h1 := (HOs.out.block _ h.symm).2
            have h2 := (HNe.out hn a ha).2
            omega⟩) 32
          have HBW5 := Lib.hid (HBW4.out.grown hg5 HBW4.out.size (fun k hk => (HOs.out.block _ hk).1))
          obtain ⟨A6, n6, c6, e6, hss6⟩ := hos5.ss
          have hn6 := hss6.len
          injection e6 with e6 e7 e8
          subst e6; subst e7; subst e8
          rw [List.length_append, List.length_singleton] at hn6
          have HN6 := Lib.hid hn6; have HOs5 := Lib.hid hos5
          clear hos5 hg5 hss6 hn6
          go_wp2_with (at_builtin; refine wpl_app_run rfl rfl rfl rfl hap ?_)
          go_roundw
          case rel => exact ⟨kn, f, _, _, _, _, hknn, by omega, by have := HN6.out; have := HQ.out.out; omega, rfl, rfl, HBW5.out, HOs5.out, (by show _ = _; have := HN6.out; rw [List.length_append, List.length_singleton]; exact this), HE.out⟩
          case measure => simp [intOf]; omega
        · obtain ⟨l, hl⟩ : ∃ l, q = l + 1 := ⟨q - 1, by omega⟩
          have hlw : IntKind.i64.wrap ((q : Int) - 1) = (l : Int) := by rw [IntKind.wrap_i64]; omega
          have hlb : (0 : Int) ≤ (l : Int) ∧ (l : Int) < (q : Int) := by omega
          obtain ⟨hlb1, hlb2⟩ := hlb
          have hg0 : decide ((0 : Int) < (q : Int)) = true := by simpa using h0
          obtain ⟨A7, n7, c7, e7, hss7⟩ := HOs.out.ss
          injection e7 with e7 e8 e9
          subst e7; subst e8; subst e9
          obtain ⟨g, off, s7, B7, m7, d7, hA7, hg7, hc7, hc8, _, _, _, hgd⟩ := hss7.look l (by omega)
          have hla : s7.1 = lastT acc := by rw [← lastT_get acc l (by rw [HQ.out.out]; exact hl), hgd]
          obtain ⟨la, hla2⟩ : ∃ la, lastT acc = la := ⟨_, rfl⟩
          rw [hla, hla2] at hc7
          have HLa := Lib.hid hla2; have HL := Lib.hid hl; have HC7 := Lib.hid hc7; have HG7 := Lib.hid hg7
          subst hA7
          clear hss7 hc8 hgd hla hla2 hl hc7 hg7
          by_cases ht : t ≤ la
          · have HE := Lib.hid (show R = ([], 3) by rw [← HD.out.out, listA_form hkl HP.out (by rw [HLa.out]; exact ht)])
            have hd2 : decide (t ≤ la) = true := by simpa using ht
            clear he hkl
            go_wp2_with fail
            refine N.out.mono ?_; rintro e w2 ⟨A2, n2, c2, rfl, hb2, hf2, hw2⟩
            have hos2 := HOs.out.turn (q := none) (grown_below hw2) (by simp)
            have hsz := HBl.out.size; have hsz2 := hw2.size
            have HNe := Lib.hid (show 0 < n2 → ∀ a, A2 = some a → w.heap.size ≤ a.block ∧ wr.heap.size ≤ a.block from fun hn a ha => by
              obtain ⟨b, off, e1, e2⟩ := hf2 hn
              rw [ha] at e1; injection e1 with e1; subst e1
              exact ⟨by simp only; omega, e2⟩)
            have HOs3 := Lib.hid (hos2.turn (q := none) (grown_alloc (World.grownBy.refl w2 none) (.cells #[.int .u8 t, .slice A2 n2 c2] 24)) (by simp))
            have HB3 := Lib.hid (hb2.alloc (.cells #[.int .u8 t, .slice A2 n2 c2] 24))
            have hp3 := heap_alloc_new w2 (.cells #[.int .u8 t, .slice A2 n2 c2] 24)
            have HP3 := Lib.hid hp3
            have HBW3 := Lib.hid (show Below w.heap.size w (w2.alloc (.cells #[.int .u8 t, .slice A2 n2 c2] 24)) from (HBl.out.trans (hw2.mono hsz)).alloc (by omega) _)
            have HCL := Lib.hid (show Below wr.heap.size wr (w2.alloc (.cells #[.int .u8 t, .slice A2 n2 c2] 24)) from hw2.alloc hsz2 _)
            clear hb2 hf2 hw2 hos2 hsz hsz2 hp3
            go_wp2_with fail
            generalize w2.heap.size = sb at *
            generalize w2.alloc (.cells #[.int .u8 t, .slice A2 n2 c2] 24) = w3 at *
            have k0 := pair0 HP3.out; have k1 := pair1 HP3.out
            have hcl : w3.cell? ⟨g, off + l * 2, none⟩ = some (.int .u8 la) := (HCL.out.cell (p := ⟨_, _, none⟩) HG7.out).trans HC7.out
            go_quiet (fail)
            go_wp2
            go_ret2
            rw [HE.out]
            exact ⟨none, 0, 0, rfl, Ss.nil _ _ _, ⟨HBW3.out.os, HBW3.out.tape, HBW3.out.output, HBW3.out.size, HBW3.out.block⟩⟩
          · have HE := Lib.hid (show listA bs f kn (acc ++ [(t, body)]) = R by rw [← HD.out.out, listA_next hkl HP.out (by rw [HLa.out]; exact ht)])
            have hd2 : decide (t ≤ la) = false := by simpa using ht
            clear he hkl
            go_wp2_with fail
            refine N.out.mono ?_; rintro e w2 ⟨A2, n2, c2, rfl, hb2, hf2, hw2⟩
            have hos2 := HOs.out.turn (q := none) (grown_below hw2) (by simp)
            have hsz := HBl.out.size; have hsz2 := hw2.size
            have HNe := Lib.hid (show 0 < n2 → ∀ a, A2 = some a → w.heap.size ≤ a.block ∧ wr.heap.size ≤ a.block from fun hn a ha => by
              obtain ⟨b, off, e1, e2⟩ := hf2 hn
              rw [ha] at e1; injection e1 with e1; subst e1
              exact ⟨by simp only; omega, e2⟩)
            have HOs3 := Lib.hid (hos2.turn (q := none) (grown_alloc (World.grownBy.refl w2 none) (.cells #[.int .u8 t, .slice A2 n2 c2] 24)) (by simp))
            have HB3 := Lib.hid (hb2.alloc (.cells #[.int .u8 t, .slice A2 n2 c2] 24))
            have hp3 := heap_alloc_new w2 (.cells #[.int .u8 t, .slice A2 n2 c2] 24)
            have HP3 := Lib.hid hp3
            have HBW3 := Lib.hid (show Below w.heap.size w (w2.alloc (.cells #[.int .u8 t, .slice A2 n2 c2] 24)) from (HBl.out.trans (hw2.mono hsz)).alloc (by omega) _)
            have HCL := Lib.hid (show Below wr.heap.size wr (w2.alloc (.cells #[.int .u8 t, .slice A2 n2 c2] 24)) from hw2.alloc hsz2 _)
            clear hb2 hf2 hw2 hos2 hsz hsz2 hp3
            go_wp2_with fail
            generalize w2.heap.size = sb at *
            generalize w2.alloc (.cells #[.int .u8 t, .slice A2 n2 c2] 24) = w3 at *
            have k0 := pair0 HP3.out; have k1 := pair1 HP3.out
            have hcl : w3.cell? ⟨g, off + l * 2, none⟩ = some (.int .u8 la) := (HCL.out.cell (p := ⟨_, _, none⟩) HG7.out).trans HC7.out
            go_quiet (fail)
            clear k0 k1 hcl
            have HP4 := Lib.hid (show (w3.drewN nq).heap[sb]? = some (.cells #[.int .u8 t, .slice A2 n2 c2] 24) from HP3.out)
            have HB4 := Lib.hid (HB3.out.drewN nq)
            have HBW4 := Lib.hid (show Below w.heap.size w (w3.drewN nq) from ⟨HBW3.out.os, HBW3.out.tape, HBW3.out.output, HBW3.out.size, HBW3.out.block⟩)
            have HOs4 := Lib.hid (HOs3.out.turn (q := none) (grown_drewN (World.grownBy.refl w3 none) nq) (by simp))
            generalize w3.drewN nq = w4 at *
            have k0 := pair0 HP4.out; have k1 := pair1 HP4.out
            obtain ⟨v5, w5, hap, hos5, hg5, A5, n5, c5, rfl⟩ := HOs4.out.app HBW4.out.size (by have := HQ.out.out; omega) (t := t) (body := body) HB4.out ⟨by omega, s2⟩ (fun hn a ha => ⟨(HNe.out hn a ha).1, fun h => by
              have h1 := (HOs.out.block _ h.symm).2
              have h2 := (HNe.out hn a ha).2
              omega⟩) 32
            have HBW5 := Lib.hid (HBW4.out.grown hg5 HBW4.out.size (fun k hk => (HOs.out.block _ hk).1))
            obtain ⟨A6, n6, c6, e6, hss6⟩ := hos5.ss
            have hn6 := hss6.len
            injection e6 with e6 e7 e8
            subst e6; subst e7; subst e8
            rw [List.length_append, List.length_singleton] at hn6
            have HN6 := Lib.hid hn6; have HOs5 := Lib.hid hos5
            clear hos5 hg5 hss6 hn6
            go_wp2_with (at_builtin; refine wpl_app_run rfl rfl rfl rfl hap ?_)
            go_roundw
            case rel => exact ⟨kn, f, _, _, _, _, hknn, by omega, by have := HN6.out; have := HQ.out.out; omega, rfl, rfl, HBW5.out, HOs5.out, (by show _ = _; have := HN6.out; rw [List.length_append, List.length_singleton]; exact this), HE.out⟩
            case measure => simp [intOf]; omega
      · have HE := Lib.hid (show R = ([], (secS bs k).2.2) by rw [← HD.out.out, listA_err hkl he])
        have h0 := secS_err0 rfl he
        obtain ⟨e0, he0⟩ : ∃ e0, (secS bs k).2.2 = e0 := ⟨_, rfl⟩
        rw [show secS bs (k : Int) = ((0, []), 0, e0) from Prod.ext h0.1 (Prod.ext h0.2 he0)] at N
        have HE2 := Lib.hid (show R = ([], e0) by rw [HE.out, he0])
        have hd3 : (e0 != 0) = true := by rw [← he0]; simpa using he
        have N := Lib.hid N
        clear HE h0 he0 he hkl
        go_wp2_with fail
        refine N.out.mono ?_; rintro e w2 ⟨A2, n2, c2, rfl, hb2, hf2, hw2⟩
        have HBW3 := Lib.hid (show Below w.heap.size w (w2.alloc (.cells #[.int .u8 0, .slice A2 n2 c2] 24)) from (HBl.out.trans (hw2.mono HBl.out.size)).alloc (Nat.le_trans HBl.out.size hw2.size) _)
        clear hb2 hf2 hw2
        go_wp2_with fail
        go_ret2
        rw [HE2.out]
        exact ⟨none, 0, 0, rfl, Ss.nil _ _ _, HBW3.out⟩
    · have HE := Lib.hid (show R = (acc, 0) by rw [← HD.out.out, listA_end (by rw [HLen.out]; omega)])
      have hd1 : decide ((k : Int) < (n : Int)) = false := by simpa using hlt
      obtain ⟨A4, n4, c4, e4, hss⟩ := HOs.out.ss
      injection e4 with e4 e5 e6
      subst e4; subst e5; subst e6
      have HSS := Lib.hid hss
      clear hss
      go_wp2
      go_ret2
      rw [HE.out]
      exact ⟨_, _, _, rfl, HSS.out, HBl.out⟩
end Go.Proofs.Ytipjbgmikbbkoaa
