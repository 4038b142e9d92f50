/- What the document's own Same, Make and Ints answer; for slices of up to 16384. -/
import Derived.Test.YtombfempdfdeoaaAreF
import Derived.Laws.StructEq
namespace Go.Proofs.Ytombfempdfdeoaa
set_option linter.unusedVariables false
set_option linter.unusedSimpArgs false
open Go.RowKit

def recV (r : Rec3) : Value := .agg #[.int .i64 r.1, .int .i64 r.2.1, .int .i64 r.2.2]
theorem rec_neq (x y : Rec3) (W : World) : (binOp .neq 55 (recV x) (recV y)).run Try.prog W = .ok (.bool (decide (x ≠ y))) W := by
  obtain ⟨a, b, c⟩ := x
  obtain ⟨d, e, f⟩ := y
  have h : decide ((a, b, c) ≠ (d, e, f)) = !((a == d) && ((b == e) && (c == f))) := by
    by_cases h1 : a = d <;> by_cases h2 : b = e <;> by_cases h3 : c = f <;> simp [h1, h2, h3]
  rw [h]
  unfold recV
  simp only
  have hp : Try.prog.stoodInHeld 55 = false := by kernel_rfl
  have hf : Try.prog.underlying 55 = some (.struct (Try.prog.fieldsOf 55)) := by kernel_rfl
  rw [run_neq_struct, run_equalIn_agg W 9999 55 _ _ hf hp]
  simp only [Program.fieldsOf, Try.underlying55]
  cases h1 : (a == d) <;> cases h2 : (b == e) <;> cases h3 : (c == f)
  all_goals go_simp
theorem Rs.drop_rec {w : World} {A : Option Addr} {n c : Nat} {rs : List Rec3} (h : Rs w A n c rs) (i : Nat) (hi : i < n) : rs.drop i = recAt rs i :: rs.drop (i + 1) := by
  have hl : i < rs.length := by have := h.len; omega
  rw [drop_at hl]
  unfold recAt
  rw [Int.toNat_natCast]
  simp [List.getD, List.getElem?_eq_getElem hl]
set_option maxRecDepth 100000 in
set_option maxHeartbeats 4000000 in
theorem refSame_any (A : Option Addr) (n c : Nat) (xs : List Rec3) (fx : Int) (B : Option Addr) (m d : Nat) (ys : List Rec3) (fy : Int) (w : World) (hx : Rs w A n c xs) (hy : Rs w B m d ys) (hn : n ≤ 16384) :
    Calls Try.prog 13 #[.agg #[.slice A n c, .int .i64 fx], .agg #[.slice B m d, .int .i64 fy]] w fun e w' => e = .returned (.bool (decide ((xs, fx) = (ys, fy)))) ∧ Below w.heap.size w w' := by
  have HLX := Lib.hid hx.len; have HLY := Lib.hid hy.len
  have hk1 := heap_alloc_new w (.cells #[.slice A n c, .int .i64 fx] 24)
  have hs1 : (w.alloc (.cells #[.slice A n c, .int .i64 fx] 24)).heap.size = w.heap.size + 1 := by simp
  have hb1 : Below w.heap.size w (w.alloc (.cells #[.slice A n c, .int .i64 fx] 24)) := (Below.refl w.heap.size w).alloc (Nat.le_refl _) _
  obtain ⟨w1, hw1⟩ : ∃ w1, w.alloc (.cells #[.slice A n c, .int .i64 fx] 24) = w1 := ⟨_, rfl⟩
  rw [hw1] at hk1 hs1 hb1
  have hr2 := heap_alloc_new w1 (.cells #[.slice B m d, .int .i64 fy] 24)
  have hk2 : (w1.alloc (.cells #[.slice B m d, .int .i64 fy] 24)).heap[w.heap.size]? = some (.cells #[.slice A n c, .int .i64 fx] 24) := by rw [heap_alloc_old _ _ (by omega)]; exact hk1
  have hb2 : Below w.heap.size w (w1.alloc (.cells #[.slice B m d, .int .i64 fy] 24)) := hb1.alloc (by omega) _
  have hs2 : (w1.alloc (.cells #[.slice B m d, .int .i64 fy] 24)).heap.size = w.heap.size + 2 := by simp; omega
  obtain ⟨w2, hw2⟩ : ∃ w2, w1.alloc (.cells #[.slice B m d, .int .i64 fy] 24) = w2 := ⟨_, rfl⟩
  rw [hw2] at hr2 hk2 hb2 hs2
  rw [hs1] at hr2
  have HX := Lib.hid (show Rs w2 A n c xs from Es.below hx hb2); have HY := Lib.hid (show Rs w2 B m d ys from Es.below hy hb2)
  have HK := Lib.hid hk2; have HR2 := Lib.hid hr2; have HB2 := Lib.hid hb2
  have x0 := blk_cell hk2 0; have x1 := blk_cell hk2 1
  have u0 := blk_cell hr2 0; have u1 := blk_cell hr2 1
  simp only [List.getElem?_toArray, List.getElem?_cons_zero, List.getElem?_cons_succ] at x0 x1 u0 u1
  obtain ⟨R, hR⟩ : ∃ R, decide ((xs, fx) = (ys, fy)) = R := ⟨_, rfl⟩
  rw [hR]
  have HR := Lib.hid hR
  clear hx hy hk1 hb1 hr2 hk2 hb2 hR
  generalize hq : w.heap.size = q at *
  by_cases hf : fx = fy
  · by_cases hl : n = m
    · subst hl; subst hf
      have b0 : (fx != fx) = false := by simp
      have b1 : ((n : Int) != (n : Int)) = false := by simp
      go_enter Try.func13, Try.ntmps13
      go_wp2
      clear hw1 hw2 x0 x1 u0 u1
      go_loopw [5] (fun iv wr => ∃ (i : Nat), iv = .int .i64 (i : Int) ∧ i ≤ n ∧ Hid (Below w2.heap.size w2 wr) ∧ Hid (xs.take i = ys.take i)) (fun iv _ => n - (intOf iv).toNat)
      case atStart => exact ⟨0, rfl, by omega, Below.refl _ _, by simp [Hid]⟩
      case round =>
        obtain ⟨i, rfl, hi, hbl, hd⟩ := hrel
        have hbw := hbl.out
        have x0 := blk_cell (blk_below HK.out hbw (by omega)) 0
        have u0 := blk_cell (blk_below HR2.out hbw (by omega)) 0
        simp only [List.getElem?_toArray, List.getElem?_cons_zero, List.getElem?_cons_succ] at x0 u0
        by_cases hlt : i < n
        · have hd1 : decide ((i : Int) < (n : Int)) = true := by simpa using hlt
          obtain ⟨b, off, rfl, hb0, k0, k1, k2⟩ := Rs.look (Es.below HX.out hbw) i hlt
          obtain ⟨b', off', rfl, hb0', k0', k1', k2'⟩ := Rs.look (Es.below HY.out hbw) i hlt
          have HDr := Lib.hid (HX.out.drop_rec i hlt); have HDr' := Lib.hid (HY.out.drop_rec i hlt)
          have hib1 : (0 : Int) ≤ (i : Int) := by omega
          have hib2 : (i : Int) < (n : Int) := by omega
          have HF := Lib.hid (show ∀ nq, Below w2.heap.size w2 (wr.drewN nq) from fun nq => ⟨hbw.os, hbw.tape, hbw.output, hbw.size, hbw.block⟩)
          generalize recAt xs i = r at *
          generalize recAt ys i = r' at *
          obtain ⟨ra, rb, rc⟩ := r
          obtain ⟨sa, sb, sc⟩ := r'
          simp only at k0 k1 k2 k0' k1' k2'
          clear hb0 hb0' hbw hbl
          by_cases e1 : ra = sa
          · subst e1
            by_cases e2 : rb = sb
            · subst e2
              by_cases e3 : rc = sc
              · subst e3
                have HE := Lib.hid (show xs.take (i + 1) = ys.take (i + 1) by rw [take_step HDr.out, take_step HDr'.out, hd.out])
                go_wp2
                go_quiet (fail)
                go_wp2
                go_roundw
                case rel => exact ⟨i + 1, by go_num, by omega, HF.out _, HE.out⟩
                case measure => simp [intOf]; omega
              · have HE := Lib.hid (show R = false by rw [← HR.out]; exact decide_eq_false (fun h => unlike_at HDr.out HDr'.out (fun e => e3 (by injection e with _ e; injection e)) (by injection h)))
                skip
                go_wp2
                go_quiet (fail)
                go_wp2
                go_ret
                rw [HE.out]
                exact ⟨rfl, HB2.out.trans ((HF.out _).mono (by omega))⟩
            · have HE := Lib.hid (show R = false by rw [← HR.out]; exact decide_eq_false (fun h => unlike_at HDr.out HDr'.out (fun e => e2 (by injection e with _ e; injection e)) (by injection h)))
              skip
              go_wp2
              go_quiet (fail)
              go_wp2
              go_ret
              rw [HE.out]
              exact ⟨rfl, HB2.out.trans ((HF.out _).mono (by omega))⟩
          · have HE := Lib.hid (show R = false by rw [← HR.out]; exact decide_eq_false (fun h => unlike_at HDr.out HDr'.out (fun e => e1 (by injection e)) (by injection h)))
            skip
            go_wp2
            go_quiet (fail)
            go_wp2
            go_ret
            rw [HE.out]
            exact ⟨rfl, HB2.out.trans ((HF.out _).mono (by omega))⟩
        · obtain rfl : i = n := by omega
          have hd1 : decide ((i : Int) < (i : Int)) = false := by simp
          have HE := Lib.hid (show R = true by
            rw [← HR.out]
            have h1 := HLX.out; have h2 := HLY.out
            have h3 := hd.out
            rw [List.take_of_length_le (by omega), List.take_of_length_le (by omega)] at h3
            exact decide_eq_true (by rw [h3]))
          have HB3 := Lib.hid (show Below q w wr from HB2.out.trans (hbw.mono (by omega)))
          clear hbw hbl
          go_wp2
          go_ret
          rw [HE.out]
          exact ⟨rfl, HB3.out⟩
    · have b0 : (fx != fy) = false := by simp [hf]
      have b1 : ((n : Int) != (m : Int)) = true := by simp; omega
      have HE := Lib.hid (show R = false by
        rw [← HR.out]
        have h1 := HLX.out; have h2 := HLY.out
        exact decide_eq_false fun h => hl (by injection h with h _; rw [← h1, ← h2, h]))
      clear hf hl
      go_enter Try.func13, Try.ntmps13
      go_wp2
      go_ret
      rw [HE.out]
      exact ⟨rfl, HB2.out⟩
  · have b0 : (fx != fy) = true := by simp [hf]
    have HE := Lib.hid (show R = false by
      rw [← HR.out]
      exact decide_eq_false fun h => hf (by injection h))
    clear hf
    go_enter Try.func13, Try.ntmps13
    go_wp2
    go_ret
    rw [HE.out]
    exact ⟨rfl, HB2.out⟩
set_option maxHeartbeats 1000000 in
theorem refInts_any (A : Option Addr) (n c : Nat) (xs : List Int) (B : Option Addr) (m d : Nat) (ys : List Int) (w : World) (hx : Is w A n c xs) (hy : Is w B m d ys) (hn : n ≤ 16384) :
    Calls Try.prog 16 #[.slice A n c, .slice B m d] w fun e w' => e = .returned (.bool (decide (xs = ys))) ∧ Below w.heap.size w w' := by
  have HX := Lib.hid hx; have HY := Lib.hid hy
  obtain ⟨R, hR⟩ : ∃ R, decide (xs = ys) = R := ⟨_, rfl⟩
  rw [hR]
  have HR := Lib.hid hR
  clear hx hy hR
  by_cases hl : n = m
  · subst hl
    go_enter Try.func16, Try.ntmps16
    go_wp2
    go_loopw [5] (fun iv wr => ∃ (i : Nat), i ≤ n ∧ iv = .int .i64 (i : Int) ∧ Below w.heap.size w wr ∧ Hid (xs.take i = ys.take i)) (fun iv _ => n - (intOf iv).toNat)
    case atStart => exact ⟨0, by omega, rfl, Below.refl _ _, by simp [Hid]⟩
    case round =>
      obtain ⟨i, hi, rfl, hbl, hd⟩ := hrel
      have HBl := Lib.hid hbl; have HD := Lib.hid hd
      clear hbl hd
      by_cases hlt : i < n
      · have hd1 : decide ((i : Int) < (n : Int)) = true := by simpa using hlt
        obtain ⟨b, off, s, rfl, hb0, hc0, hdr⟩ := HX.out.look i hlt
        obtain ⟨b', off', s', rfl, hb0', hc0', hdr'⟩ := HY.out.look i hlt
        have h0 := (HBl.out.cell (p := ⟨_, _, none⟩) hb0).trans hc0
        have h0' := (HBl.out.cell (p := ⟨_, _, none⟩) hb0').trans hc0'
        have HDr := Lib.hid hdr; have HDr' := Lib.hid hdr'
        have hib1 : (0 : Int) ≤ (i : Int) := by omega
        have hib2 : (i : Int) < (n : Int) := by omega
        clear hb0 hc0 hdr hb0' hc0' hdr'
        have hfin : ∀ nq, Below w.heap.size w (wr.drewN nq) := fun nq => ⟨HBl.out.os, HBl.out.tape, HBl.out.output, HBl.out.size, HBl.out.block⟩
        have HF := Lib.hid hfin
        clear hfin
        by_cases ht : s = s'
        · subst ht
          have hne : (s != s) = false := by simp
          have HE := Lib.hid (show xs.take (i + 1) = ys.take (i + 1) by rw [take_step HDr.out, take_step HDr'.out, HD.out.out])
          go_wp2
          go_quiet (fail)
          go_wp2
          go_roundw
          case rel => exact ⟨i + 1, by omega, by go_num, HF.out _, HE.out⟩
          case measure => simp [intOf]; omega
        · have hne : (s != s') = true := by simpa using ht
          have HE := Lib.hid (show R = false by rw [← HR.out]; simp only [decide_eq_false_iff_not]; exact unlike_at HDr.out HDr'.out ht)
          clear ht
          go_wp2
          go_quiet (fail)
          go_wp2
          go_ret
          rw [HE.out]
          exact ⟨rfl, HF.out _⟩
      · obtain rfl : i = n := by omega
        have hd1 : decide ((i : Int) < (i : Int)) = false := by simp
        have HE := Lib.hid (show R = true by
          rw [← HR.out]
          have h1 := HX.out.len; have h2 := HY.out.len
          have h3 := HD.out.out
          rw [List.take_of_length_le (by omega), List.take_of_length_le (by omega)] at h3
          exact decide_eq_true h3)
        go_wp2
        go_ret
        rw [HE.out]
        exact ⟨rfl, HBl.out⟩
  · have HE := Lib.hid (show R = false by
      rw [← HR.out]
      have h1 := HX.out.len; have h2 := HY.out.len
      exact decide_eq_false fun h => hl (by rw [← h1, ← h2, h]))
    have hne : ((n : Int) != (m : Int)) = true := by simp; omega
    go_enter Try.func16, Try.ntmps16
    go_wp2
    go_ret
    rw [HE.out]
    exact ⟨rfl, Below.refl _ _⟩
end Go.Proofs.Ytombfempdfdeoaa
