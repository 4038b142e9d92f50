/- What Same answers; for slices of sections up to 16384. -/
import Derived.Test.YtipjbgmikbbkoaaSecP
namespace Go.Proofs.Ytipjbgmikbbkoaa
set_option linter.unusedVariables false
set_option linter.unusedSimpArgs false
open Go.RowKit

theorem take_ne {α : Type} [DecidableEq α] {xs ys : List α} {i : Nat} {s t : α} (hx : xs.drop i = s :: xs.drop (i + 1)) (hy : ys.drop i = t :: ys.drop (i + 1)) (h : s ≠ t) : xs ≠ ys := by
  intro e; subst e
  rw [hx] at hy; injection hy with h1 _; exact h h1
set_option maxHeartbeats 1000000 in
theorem same_any (A : Option Addr) (n c : Nat) (xs : List (Int × List Int)) (B : Option Addr) (m d : Nat) (ys : List (Int × List Int)) (w : World) (hx : Ss w A n c xs) (hy : Ss w B m d ys) (hn : n ≤ 16384) :
    Calls Try.prog 15 #[.slice A n c, .slice B m d] w fun e w' => e = .returned (.bool (decide (xs = ys))) ∧ Below w.heap.size w w' := by
  have HX := Lib.hid hx; have HY := Lib.hid hy
  obtain ⟨R, hR⟩ : ∃ R, decide (xs = ys) = R := ⟨_, rfl⟩
  rw [hR]
  have HR := Lib.hid hR
  clear hx hy hR
  by_cases hl : n = m
  · subst hl
    go_enter Try.func15, Try.ntmps15
    go_wp2
    go_loopw [5] (fun iv wr => ∃ (i : Nat), i ≤ n ∧ iv = .int .i64 (i : Int) ∧ Below w.heap.size w wr ∧ Hid (xs.take i = ys.take i)) (fun iv _ => n - (intOf iv).toNat)
    case atStart => exact ⟨0, by omega, rfl, Below.refl _ _, by simp [Hid]⟩
    case round =>
      obtain ⟨i, hi, rfl, hbl, hd⟩ := hrel
      have HBl := Lib.hid hbl; have HD := Lib.hid hd
      clear hbl hd
      by_cases hlt : i < n
      · have hd1 : decide ((i : Int) < (n : Int)) = true := by simpa using hlt
        obtain ⟨b, off, s, C, q, e0, rfl, hb0, hc0, hc1, hbb, _, hdr, hget⟩ := HX.out.look i hlt
        obtain ⟨b', off', s', C', q', e0', rfl, hb0', hc0', hc1', hbb', _, hdr', hget'⟩ := HY.out.look i hlt
        have h0 := (HBl.out.cell (p := ⟨_, _, none⟩) hb0).trans hc0
        have h1 := (HBl.out.cell (p := ⟨_, _, none⟩) hb0).trans hc1
        have h0' := (HBl.out.cell (p := ⟨_, _, none⟩) hb0').trans hc0'
        have h1' := (HBl.out.cell (p := ⟨_, _, none⟩) hb0').trans hc1'
        have HC := Lib.hid (hbb.below HBl.out); have HC' := Lib.hid (hbb'.below HBl.out)
        have HDr := Lib.hid hdr; have HDr' := Lib.hid hdr'
        have hib1 : (0 : Int) ≤ (i : Int) := by omega
        have hib2 : (i : Int) < (n : Int) := by omega
        obtain ⟨t, body⟩ := s
        obtain ⟨t', body'⟩ := s'
        simp only at h0 h0'
        clear hb0 hc0 hc1 hbb hdr hget hb0' hc0' hc1' hbb' hdr' hget'
        have hfin : ∀ nq, Below w.heap.size w (wr.drewN nq) := fun nq => ⟨HBl.out.os, HBl.out.tape, HBl.out.output, HBl.out.size, HBl.out.block⟩
        have HF := Lib.hid hfin
        clear hfin
        cases ht : (t != t') with
        | true =>
          have HE := Lib.hid (show R = false by rw [← HR.out]; simp only [decide_eq_false_iff_not]; exact take_ne HDr.out HDr'.out (fun h => by injection h with h _; simp [h] at ht))
          go_wp2
          go_quiet (fail)
          go_wp2
          go_ret
          rw [HE.out]
          exact ⟨rfl, HF.out _⟩
        | false =>
          have htt : t = t' := by simpa using ht
          have hcv : ∀ k, (convert 22 9 (.slice C q e0)).run Try.prog (wr.drewN k) = .ok (.string (strOfNums body)) (wr.drewN k) := fun k => (HC.out.drewN k).text
          have hcv' : ∀ k, (convert 22 9 (.slice C' q' e0')).run Try.prog (wr.drewN k) = .ok (.string (strOfNums body')) (wr.drewN k) := fun k => (HC'.out.drewN k).text
          have HTT := Lib.hid htt
          clear htt
          by_cases hb : body = body'
          · subst hb
            have HE := Lib.hid (show xs.take (i + 1) = ys.take (i + 1) by rw [take_next HDr.out, take_next HDr'.out, HD.out.out, HTT.out])
            go_wp2
            go_quiet (fail)
            go_wp2
            go_roundw
            case rel => exact ⟨i + 1, by omega, by go_num, HF.out _, HE.out⟩
            case measure => simp [intOf]; omega
          · have HE := Lib.hid (show R = false by rw [← HR.out]; simp only [decide_eq_false_iff_not]; exact take_ne HDr.out HDr'.out (fun h => by injection h with _ h; exact hb h))
            have hne : ((strOfNums body).toList == (strOfNums body').toList) = false := str_ne HC.out.byte HC'.out.byte hb
            go_wp2
            go_quiet (fail)
            go_wp2
            go_ret
            rw [HE.out]
            exact ⟨rfl, HF.out _⟩
      · have hd1 : decide ((i : Int) < (n : Int)) = false := by simpa using hlt
        have HE := Lib.hid (show R = true by
          rw [← HR.out]
          have := HD.out.out
          rw [List.take_of_length_le (by rw [HX.out.len]; omega), List.take_of_length_le (by rw [HY.out.len]; omega)] at this
          simp [this])
        go_wp2
        go_ret
        rw [HE.out]
        exact ⟨rfl, HBl.out⟩
  · have hd1 : ((n : Int) != (m : Int)) = true := by simp; omega
    have hd2 : (n != m) = true := by simpa using hl
    have HE := Lib.hid (show R = false by
      rw [← HR.out]; simp only [decide_eq_false_iff_not]
      intro e; subst e; exact hl (HX.out.len.symm.trans HY.out.len))
    go_enter Try.func15, Try.ntmps15
    go_wp2
    go_ret
    rw [HE.out]
    exact ⟨rfl, Below.refl _ _⟩
end Go.Proofs.Ytipjbgmikbbkoaa
