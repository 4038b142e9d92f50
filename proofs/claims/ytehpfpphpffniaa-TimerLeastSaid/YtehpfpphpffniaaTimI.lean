/- What the document's own Due of layer 12 answers; for lists of up to 16384. -/
import Derived.Test.YtehpfpphpffniaaTimG
import Derived.Test.YtehpfpphpffniaaRo
namespace Go.Proofs.Ytehpfpphpffniaa
set_option linter.unusedVariables false
set_option linter.unusedSimpArgs false
open Go.RowKit
/-- timers, tasks, and what was wrong. -/
def DGot (w : World) (r : List Tm × List Int × Int) (e : Ending) (w' : World) : Prop :=
  ∃ B m d C k f, e = .returned (.tuple #[.slice B m d, .slice C k f, .int .i64 r.2.2]) ∧ Tms w' B m d r.1 ∧ w'.ownsRow w.heap.size 3 1 (.slice C k f) k (intC r.2.1) ∧ Below w.heap.size w w'
theorem dueF_on {now : Int} {f : Nat} {h : List Tm} {out : List Int} (hn : h ≠ []) (hw : (tmAt h 0).1 ≤ now) (hr : Rt h) : dueF now (f + 1) h out = dueF now f (wioT h 0) (out ++ [(tmAt h 0).2]) := by
  conv => lhs; unfold dueF
  rw [if_pos ⟨hn, hw⟩, pop_eq hr hn]
theorem dueF_off {now : Int} {f : Nat} {h : List Tm} {out : List Int} (hn : ¬ (h ≠ [] ∧ (tmAt h 0).1 ≤ now)) : dueF now (f + 1) h out = (h, out) := by
  conv => lhs; unfold dueF
  rw [if_neg hn]
set_option maxRecDepth 100000 in
set_option maxHeartbeats 8000000 in
theorem refDue12_any (A : Option Addr) (n c : Nat) (h : List Tm) (now : Int) (w : World) (hx : Tms w A n c h) (hn : n ≤ 16384) :
    Calls Try.prog 19 #[.slice A n c, .int .i64 now] w (DGot w (dueH h now)) := by
  have hlen : h.length = n := hx.len
  have RX := Lib.hid hx
  have RT := fun (W : World) (hw : Tms W A n c h) => refRight12_any A n c h W hw hn
  obtain ⟨R, hR⟩ : ∃ R, dueH h now = R := ⟨_, rfl⟩
  rw [hR]
  cases hr : rightH h
  · rw [hr] at RT
    replace RT := Lib.hid RT
    have HE := Lib.hid (show R = (h, [], 1) by rw [← hR]; unfold dueH; rw [if_pos hr])
    clear hr hR hlen hx
    go_enter Try.func19, Try.ntmps19
    go_wp2_with fail
    refine (RT.out w RX.out).mono ?_
    rintro e w1 ⟨rfl, hb⟩
    have HB := Lib.hid hb
    clear hb RT
    go_wp2
    go_ret3
    rw [HE.out]
    exact ⟨A, n, c, none, 0, 0, rfl, Es.below RX.out HB.out, World.ownsRow_nil _ _ _ _, HB.out⟩
  · rw [hr] at RT
    replace RT := Lib.hid RT
    have hr1 := rt_iff.1 hr
    have HR := Lib.hid (show R = ((dueF now (n + 1) h []).1, (dueF now (n + 1) h []).2, 0) by rw [← hR]; unfold dueH; rw [if_neg (by rw [hr]; simp), hlen])
    have hn12 : n ≤ 12 := by have := hr1.len; omega
    have HR1 := Lib.hid hr1
    have HRO := Lib.hid (Ro.old (T := 24) hx)
    clear hr hR hlen hx hr1
    go_enter Try.func19, Try.ntmps19
    go_wp2_with fail
    refine (RT.out w RX.out).mono ?_
    rintro e w1 ⟨rfl, hb⟩
    have HB := Lib.hid hb
    clear hb RT
    have HRO2 := Lib.hid (HRO.out.below HB.out)
    clear HRO
    obtain ⟨D, hD⟩ : ∃ D, dueF now (n + 1) h [] = D := ⟨_, rfl⟩
    have hR2 := HR.out
    rw [hD] at hR2
    have HD := Lib.hid hD
    replace HR := Lib.hid hR2
    clear hD hR2
    go_wp2
    go_loopw [0, 7, 8, 9, 10] (fun hv ov xv tv ev wr => ∃ (A1 : Option Addr) (m c1 : Nat) (B : Option Addr) (o d : Nat), hv = .slice A1 m c1 ∧ ov = .slice B o d ∧ o + m ≤ n ∧ Hid (∃ (f2 : Nat) (h2 : List Tm) (out2 : List Int), m < f2 ∧ dueF now f2 h2 out2 = D ∧ Rt h2 ∧ Ro 24 2 w wr A1 m c1 (tmC h2) ∧ wr.ownsRow w.heap.size 3 1 (.slice B o d) o (intC out2)) ∧ Hid (Below w.heap.size w wr)) (fun hv _ _ _ _ _ => lenV hv)
    case atStart => exact ⟨A, n, c, none, 0, 0, rfl, rfl, by omega, Lib.hid ⟨n + 1, h, [], by omega, HD.out, HR1.out, HRO2.out, World.ownsRow_nil _ _ _ _⟩, HB⟩
    case round =>
      clear HB HRO2 HD HR1
      obtain ⟨A1, m, c1, B, o, d, rfl, rfl, hom, HX, HB⟩ := hrel
      obtain ⟨f2, h2, out2, hf2, hd2, hr2, hro, how⟩ := HX.out
      clear HX
      obtain ⟨f3, rfl⟩ : ∃ f3, f2 = f3 + 1 := ⟨f2 - 1, by omega⟩
      have hl2 : h2.length = m := (show Tms wr A1 m c1 h2 from hro.es).len
      have RO := Lib.hid hro; have OW := Lib.hid how; have R2 := Lib.hid hr2; have HF2 := Lib.hid hf2
      clear hro how hr2 hf2
      by_cases h0 : 0 < m
      · have c0 : decide ((0 : Int) < (m : Int)) = true := by simpa using h0
        have c0n : decide (0 < m) = true := by simpa using h0
        have m0 : (0 : Int) < (m : Int) := by omega
        have hne : h2 ≠ [] := fun h5 => by rw [h5] at hl2; simp at hl2; omega
        obtain ⟨b, off, rfl, hb0, k0, k1⟩ := (show Tms wr A1 m c1 h2 from RO.out.es).look 0 h0
        obtain ⟨⟨tw, tk⟩, ht⟩ : ∃ x, tmAt h2 0 = x := ⟨_, rfl⟩
        rw [ht] at k0 k1
        simp only [Nat.zero_mul, Nat.add_zero] at k0 k1
        by_cases h1 : tw ≤ now
        · have c1_ : decide (tw ≤ now) = true := by simpa using h1
          have hd3 := hd2
          rw [dueF_on hne (by rw [ht]; exact h1) R2.out, ht] at hd3
          have HD3 := Lib.hid hd3
          have PO := refPop12_any (some ⟨b, off, none⟩) m c1 h2 wr RO.out.es (by omega)
          rw [pop_eq R2.out hne, ht] at PO
          obtain ⟨w1r, w1l, _⟩ := wio_rt R2.out (i := 0) (by omega)
          have W1 := Lib.hid w1r; have HWL := Lib.hid (show (wioT h2 0).length = m - 1 by rw [w1l, hl2])
          replace PO := Lib.hid PO
          clear hd2 hd3 w1r w1l ht hne h1 hl2 hb0
          go_wp2_with fail
          refine PO.out.mono ?_
          rintro e w2 ⟨A3, m3, c3, rfl, ht3, hb, hor⟩
          simp only at ht3 hor
          have RO2 := Lib.hid (show Ro 24 2 w w2 A3 m3 c3 (tmC (wioT h2 0)) from by
            rcases hor with h5 | h5
            · exact Ro.of_own h5 (tmC_one _)
            · injection h5 with h5 h6 h7
              subst h5; subst h6; subst h7
              exact ⟨ht3, (RO.out.below hb).tag⟩)
          have hm3 : m3 = m - 1 := by have := ht3.len; rw [HWL.out] at this; exact this.symm
          have HM3 := Lib.hid hm3
          have hm3l : o + m3 + 1 ≤ n := by omega
          have OW2 := Lib.hid (own_below OW.out hb)
          have HB2 := Lib.hid (HB.out.trans (hb.mono HB.out.size))
          clear hor ht3 hb OW RO PO HB k0 k1 hm3
          obtain ⟨w3, hw3⟩ : ∃ W, w2.alloc (.cells #[.int .i64 0, .int .i64 0] 24) = W := ⟨_, rfl⟩
          have hv3 : w3.heap[w2.heap.size]? = some (.cells #[.int .i64 0, .int .i64 0] 24) := hw3 ▸ heap_alloc_new _ _
          have hb3 : Below w2.heap.size w2 w3 := hw3 ▸ (Below.refl _ _).alloc (Nat.le_refl _) _
          obtain ⟨w5, hw5⟩ : ∃ W, (w3.setCell ⟨w2.heap.size, 0, none⟩ (.int .i64 tw)).setCell ⟨w2.heap.size, 1, none⟩ (.int .i64 tk) = W := ⟨_, rfl⟩
          have hb5 : Below w2.heap.size w2 w5 := hw5 ▸ (hb3.setCell (p := ⟨w2.heap.size, 0, none⟩) (Nat.le_refl _) _).setCell (p := ⟨w2.heap.size, 1, none⟩) (Nat.le_refl _) _
          have hv5 : w5.heap[w2.heap.size]? = some (.cells #[.int .i64 tw, .int .i64 tk] 24) := by have h5 := blk_set (j := 1) (blk_set (j := 0) hv3 (.int .i64 tw)) (.int .i64 tk); rw [← hw5]; exact h5
          have RO5 := Lib.hid (RO2.out.below hb5)
          have OW5 := Lib.hid (own_below OW2.out hb5)
          have HB5 := Lib.hid (HB2.out.trans (hb5.mono HB2.out.size))
          generalize hs : w2.heap.size = s at *
          have a0 : w3.cell? ⟨s, 0, none⟩ = some (.int .i64 0) := (blk_cell hv3 0).trans rfl
          have a1 : w3.cell? ⟨s, 1, none⟩ = some (.int .i64 0) := (blk_cell hv3 1).trans rfl
          have ff0 : w3.frozen? ⟨s, 0, none⟩ = false := blk_frozen hv3 0
          have ff1 : w3.frozen? ⟨s, 1, none⟩ = false := blk_frozen hv3 1
          have b0 : w5.cell? ⟨s, 0, none⟩ = some (.int .i64 tw) := (blk_cell hv5 0).trans rfl
          have b1 : w5.cell? ⟨s, 1, none⟩ = some (.int .i64 tk) := (blk_cell hv5 1).trans rfl
          clear hv3 hv5 hb3 hb5 OW2 RO2 HB2
          obtain ⟨A4, c4, w6, hap, hown6, hgr6⟩ := app_ints (w5.alloc (.cells #[.int .i64 tk] 3)) w.heap.size _ o out2 (own_below OW5.out ((Below.refl _ _).alloc (Nat.le_refl _) _)) (some ⟨w5.heap.size, 0, none⟩) 1 1 [tk] (is_lit w5 [tk] rfl) (by omega) (by have := HB5.out.size; simp; omega)
          have OW6 := Lib.hid hown6
          have RO6 := Lib.hid ((RO5.out.below ((Below.refl _ _).alloc (Nat.le_refl _) (.cells #[.int .i64 tk] 3))).grown hgr6 (own_below OW5.out ((Below.refl _ _).alloc (Nat.le_refl _) _)) (by decide) (Nat.le_refl _))
          have HB6 := Lib.hid ((HB5.out.alloc HB5.out.size (.cells #[.int .i64 tk] 3)).grown hgr6 (by have := HB5.out.size; simp; omega) (fun k hk => (OW5.out.lt k hk).1))
          clear hown6 hgr6 RO5 OW5 HB5
          go_wp2_with (at_builtin; refine eapp_run (by rfl) rfl rfl rfl hap ?_)
          go_roundw
          case rel => exact ⟨A3, m3, c3, A4, o + 1, c4, rfl, rfl, by omega, Lib.hid ⟨f3, _, _, by have := HF2.out; have := HM3.out; omega, HD3.out, W1.out, RO6.out, OW6.out⟩, HB6⟩
          case measure => have := HM3.out; simp [lenV]; omega
        · have c1_ : decide (tw ≤ now) = false := by simpa using h1
          rw [dueF_off (fun h5 => h1 (by have := h5.2; rw [ht] at this; exact this))] at hd2
          have HO := Lib.hid hd2.symm
          clear hd2 hne ht h1 hl2
          go_wp2
          go_ret3
          rw [HR.out, HO.out]
          exact ⟨_, m, c1, B, o, d, rfl, RO.out.es, OW.out, HB.out⟩
      · have em : m = 0 := by omega
        have c0 : decide ((0 : Int) < (m : Int)) = false := by simp; omega
        have c0n : decide (0 < m) = false := by simp; omega
        rw [dueF_off (fun h5 => h5.1 (List.eq_nil_of_length_eq_zero (by omega)))] at hd2
        have HO := Lib.hid hd2.symm
        clear hd2 hl2 em h0
        go_wp2
        go_ret3
        rw [HR.out, HO.out]
        exact ⟨A1, m, c1, B, o, d, rfl, RO.out.es, OW.out, HB.out⟩
end Go.Proofs.Ytehpfpphpffniaa
