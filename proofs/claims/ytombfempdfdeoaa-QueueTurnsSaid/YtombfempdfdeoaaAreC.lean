/- What the document's own Right, Live, Free of layer 7 answer; for slices of up to 16384 records. -/
import Derived.Test.YtombfempdfdeoaaAreB
namespace Go.Proofs.Ytombfempdfdeoaa
set_option linter.unusedVariables false
set_option linter.unusedSimpArgs false
open Go.RowKit

theorem load_rec {w : World} {b o : Nat} {x y z : Value} (h0 : w.cell? ⟨b, o, none⟩ = some x) (h1 : w.cell? ⟨b, o + 1, none⟩ = some y) (h2 : w.cell? ⟨b, o + 2, none⟩ = some z) :
    (loadVar 55 ⟨b, o, none⟩).run Try.prog w = .ok (.agg #[x, y, z]) w := by
  obtain ⟨d, hu, hd⟩ : ∃ d, Try.prog.underlying 55 = some d ∧ d.isRow = true := ⟨_, Try.underlying55, rfl⟩
  refine run_loadVar_mid (P := Try.prog) w b o 55 [x, y, z] d ?_ hu hd (by kernel_rfl)
  intro j v hv
  match j, hv with
  | 0, hv => simp at hv; subst hv; exact h0
  | 1, hv => simp at hv; subst hv; exact h1
  | 2, hv => simp at hv; subst hv; exact h2
  | j + 3, hv => simp at hv
theorem okAll_step {rs : List Rec3} {l : List Int} {k : Nat} (h : okAll rs l k) (hk : (k : Int) ∈ l ∨ okRec rs.length l (recAt rs k)) : okAll rs l (k + 1) := fun i hi => by
  rcases Nat.lt_or_ge i k with h1 | h1
  · exact h i h1
  · obtain rfl : i = k := by omega
    exact hk
set_option maxRecDepth 100000 in
set_option maxHeartbeats 4000000 in
theorem refRight_any (A : Option Addr) (n c : Nat) (rs : List Rec3) (fr : Int) (w : World) (hx : Rs w A n c rs) (hn : n ≤ 16384) :
    Calls Try.prog 37 #[.agg #[.slice A n c, .int .i64 fr]] w fun e w' => e = .returned (.bool (rightS (rs, fr))) ∧ Below w.heap.size w w' := by
  have hlen := hx.len
  obtain ⟨R, hR⟩ : ∃ R, rightS (rs, fr) = R := ⟨_, rfl⟩
  rw [hR]
  have HR := Lib.hid hR
  have HX := Lib.hid (Es.alloc hx (.cells #[.slice A n c, .int .i64 fr] 24))
  have HK := Lib.hid (heap_alloc_new w (.cells #[.slice A n c, .int .i64 fr] 24))
  have HB := Lib.hid ((Below.refl w.heap.size w).alloc (Nat.le_refl _) (.cells #[.slice A n c, .int .i64 fr] 24))
  have hsz : (w.alloc (.cells #[.slice A n c, .int .i64 fr] 24)).heap.size = w.heap.size + 1 := by simp
  have hc0 : (w.alloc (.cells #[.slice A n c, .int .i64 fr] 24)).cell? ⟨w.heap.size, 0, none⟩ = some (.slice A n c) := by rw [blk_cell HK.out]; rfl
  have hl0 := load_arena (HK.out)
  have HLen := Lib.hid hlen
  clear hlen hx hR
  by_cases h64 : 64 < n
  · have b0 : decide ((64 : Int) < (n : Int)) = true := by simp; omega
    have HE := Lib.hid (show R = false by rw [← HR.out]; exact rightS_false fun h => by have h1 := h.1; have h2 := HLen.out; simp only at h1; omega)
    clear h64 hl0
    generalize hq : w.heap.size = q at *
    go_enter Try.func37, Try.ntmps37
    go_wp2
    go_ret
    rw [HE.out]
    exact ⟨rfl, HB.out⟩
  · have b0 : decide ((64 : Int) < (n : Int)) = false := by simp; omega
    have WK := fun (W : World) h => refWalk_any A n c rs fr W h hn
    replace WK := Lib.hid WK
    generalize hq : w.heap.size = q at *
    go_enter Try.func37, Try.ntmps37
    go_wp2_with fail
    generalize w.alloc (.cells #[.slice A n c, .int .i64 fr] 24) = w0 at *
    refine (WK.out _ HX.out).mono ?_
    rintro e w1 ⟨B, m, d, ok, l, rfl, his, hcase, hb⟩
    rcases hcase with ⟨hw, hpl, rfl⟩ | ⟨hw, rfl, rfl⟩
    · have hk := blk_below HK.out hb (by omega)
      have hm := his.len
      have hml := hpl.len
      have HW := Lib.hid hw; have HPl := Lib.hid hpl; have HIs := Lib.hid his; have HK1 := Lib.hid hk
      have HX1 := Lib.hid (show Rs w1 A n c rs from Es.below HX.out hb)
      have HB1 := Lib.hid (show Below q w w1 from HB.out.trans (hb.mono (by omega)))
      have hs1 : q < w1.heap.size := blk_lt hk
      clear hw hpl his hb hk hc0 hl0
      go_wp2
      go_loopw [5, 6] (fun iv xv wr => ∃ (i : Nat), iv = .int .i64 (i : Int) ∧ i ≤ n ∧ Hid (Below w1.heap.size w1 wr) ∧ Hid (okAll rs l i)) (fun iv _ _ => n - (intOf iv).toNat)
      case atStart => exact ⟨0, rfl, by omega, Below.refl _ _, fun i hi => by omega⟩
      case round =>
        obtain ⟨i, rfl, hi, hbl, hok⟩ := hrel
        have hk := blk_below HK1.out hbl.out hs1
        have hc0 : wr.cell? ⟨q, 0, none⟩ = some (.slice A n c) := by rw [blk_cell hk]; rfl
        by_cases hlt : i < n
        · have b1 : decide ((i : Int) < (n : Int)) = true := by simpa using hlt
          obtain ⟨b, off, rfl, hb0, k0, k1, k2⟩ := Rs.look (Es.below HX1.out hbl.out) i hlt
          have hi0 : (0 : Int) ≤ (i : Int) := by omega
          have hi1 : (i : Int) < (n : Int) := by omega
          have hwa := (Below.refl wr.heap.size wr).alloc (Nat.le_refl _) (.cells #[.int .i64 (recAt rs i).1, .int .i64 (recAt rs i).2.1, .int .i64 (recAt rs i).2.2] 55)
          have hnew := heap_alloc_new wr (.cells #[.int .i64 (recAt rs i).1, .int .i64 (recAt rs i).2.1, .int .i64 (recAt rs i).2.2] 55)
          have hbl2 := hbl.out.trans (hwa.mono hbl.out.size)
          have hk2 := blk_below HK1.out hbl2 hs1
          have his2 : Is (wr.alloc (.cells #[.int .i64 (recAt rs i).1, .int .i64 (recAt rs i).2.1, .int .i64 (recAt rs i).2.2] 55)) B m d l := Es.below HIs.out hbl2
          have H := refHas_any B m d l i _ his2 (by have h2 := HLen.out; simp only [h2] at hml; omega)
          have H2 := refHas_any B m d l (recAt rs i).2.2 _ his2 (by have h2 := HLen.out; simp only [h2] at hml; omega)
          have hstep := fun h => okAll_step (l := l) hok.out (k := i) h
          have hwrong : ¬ ((i : Int) ∈ l ∨ okRec rs.length l (recAt rs i)) → R = false := fun h => by
            rw [← HR.out]
            refine rightS_false fun hp => ?_
            obtain ⟨_, l', hl', hall⟩ := hp
            rw [HW.out] at hl'
            injection hl' with hl'; subst hl'
            exact h (hall i (by have h2 := HLen.out; simp only; omega))
          have HB2 := Lib.hid (show Below q w (wr.alloc (.cells #[.int .i64 (recAt rs i).1, .int .i64 (recAt rs i).2.1, .int .i64 (recAt rs i).2.2] 55)) from HB1.out.trans (hbl2.mono (by omega)))
          have HBL2 := Lib.hid hbl2
          have HST := Lib.hid hstep
          have HWR := Lib.hid hwrong
          have hL := HLen.out
          clear hwa hbl2 his2 hstep hwrong hbl hok hb0
          generalize recAt rs i = r at *
          obtain ⟨rk, rt, rn⟩ := r
          simp only at *
          by_cases hil : (i : Int) ∈ l
          · rw [decide_eq_true hil] at H
            have HN := Lib.hid (HST.out (Or.inl hil))
            replace H := Lib.hid H
            clear hil H2 hk2 hnew hL
            go_wp2_with fail
            refine H.out.mono ?_; rintro e w' ⟨rfl, rfl⟩
            go_wp2
            go_roundw
            case rel => exact ⟨i + 1, by go_num, by omega, HBL2.out, HN.out⟩
            case measure => simp [intOf]; omega
          · rw [decide_eq_false hil] at H
            replace H := Lib.hid H
            have z0 := (blk_cell hnew 0); have z1 := (blk_cell hnew 1); have z2 := (blk_cell hnew 2)
            have c0 := (blk_cell hk2 0)
            simp only [List.getElem?_toArray, List.getElem?_cons_zero, List.getElem?_cons_succ] at z0 z1 z2 c0
            have hfalse : ¬ okRec rs.length l (rk, rt, rn) → R = false := fun h => HWR.out (fun h2 => h2.elim hil h)
            have hgood : okRec rs.length l (rk, rt, rn) → Hid (okAll rs l (i + 1)) := fun h => HST.out (Or.inr h)
            unfold okRec at hfalse hgood
            simp only [hL] at hfalse hgood
            replace H2 := Lib.hid H2
            clear hil hnew hk2 hL
            go_wp2_with fail
            refine H.out.mono ?_; rintro e w' ⟨rfl, rfl⟩
            clear H hc0 k0 k1 k2
            generalize wr.alloc (.cells #[.int .i64 rk, .int .i64 rt, .int .i64 rn] 55) = w2 at *
            generalize wr.heap.size = s at *
            by_cases a1 : rk < 0
            · have b2 : decide (rk < 0) = true := by simpa using a1
              have HE := Lib.hid (hfalse (fun h => by omega))
              clear hfalse hgood a1
              go_wp2
              go_ret
              rw [HE.out]; exact ⟨rfl, HB2.out⟩
            · have b2 : decide (rk < 0) = false := by simpa using a1
              by_cases a2 : rt < 0
              · have b3 : decide (rt < 0) = true := by simpa using a2
                have HE := Lib.hid (hfalse (fun h => by omega))
                clear hfalse hgood a1 a2
                go_wp2
                go_ret
                rw [HE.out]; exact ⟨rfl, HB2.out⟩
              · have b3 : decide (rt < 0) = false := by simpa using a2
                by_cases a3 : rn < -1
                · have b4 : decide (rn < -1) = true := by simpa using a3
                  have HE := Lib.hid (hfalse (fun h => by omega))
                  clear hfalse hgood a1 a2 a3
                  go_wp2
                  go_ret
                  rw [HE.out]; exact ⟨rfl, HB2.out⟩
                · have b4 : decide (rn < -1) = false := by simpa using a3
                  by_cases a4 : (n : Int) ≤ rn
                  · have b5 : decide ((n : Int) ≤ rn) = true := by simpa using a4
                    have HE := Lib.hid (hfalse (fun h => by omega))
                    clear hfalse hgood a1 a2 a3 a4
                    go_wp2
                    go_ret
                    rw [HE.out]; exact ⟨rfl, HB2.out⟩
                  · have b5 : decide ((n : Int) ≤ rn) = false := by simpa using a4
                    by_cases a5 : rn ∈ l
                    · have HE := Lib.hid (hfalse (fun h => h.2.2.2.2 a5))
                      rw [decide_eq_true a5] at H2
                      clear hfalse hgood a1 a2 a3 a4 a5
                      go_wp2_with fail
                      refine H2.out.mono ?_; rintro e w' ⟨rfl, rfl⟩
                      go_wp2
                      go_ret
                      rw [HE.out]; exact ⟨rfl, HB2.out⟩
                    · have HN := hgood ⟨by omega, by omega, by omega, by omega, a5⟩
                      rw [decide_eq_false a5] at H2
                      clear hfalse hgood a1 a2 a3 a4 a5
                      go_wp2_with fail
                      refine H2.out.mono ?_; rintro e w' ⟨rfl, rfl⟩
                      go_wp2
                      go_roundw
                      case rel => exact ⟨i + 1, by go_num, by omega, HBL2.out, HN⟩
                      case measure => simp [intOf]; omega
        · obtain rfl : i = n := by omega
          have b1 : decide ((i : Int) < (i : Int)) = false := by simp
          have HE := Lib.hid (show R = true by
            rw [← HR.out]
            have h2 := HLen.out
            exact rightS_iff.2 ⟨by simp only; omega, l, HW.out, by simp only; rw [h2]; exact hok.out⟩)
          have HB2 := Lib.hid (show Below q w wr from HB1.out.trans (hbl.out.mono (by omega)))
          clear hbl hok hk
          go_wp2
          go_ret
          rw [HE.out]; exact ⟨rfl, HB2.out⟩
    · have HE := Lib.hid (show R = false by
        rw [← HR.out]
        refine rightS_false fun hp => ?_
        obtain ⟨_, l', hl', _⟩ := hp
        rw [hw] at hl'; cases hl')
      have HB2 := Lib.hid (show Below q w w1 from HB.out.trans (hb.mono (by omega)))
      clear hw hb his hl0 hc0
      go_wp2
      go_ret
      rw [HE.out]; exact ⟨rfl, HB2.out⟩
end Go.Proofs.Ytombfempdfdeoaa
