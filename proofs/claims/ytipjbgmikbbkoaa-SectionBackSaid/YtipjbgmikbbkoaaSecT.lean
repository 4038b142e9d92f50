/- SectionAnswers walked to its end: it answers true, over any world; no condition. -/
import Derived.Test.YtipjbgmikbbkoaaSecS
import Derived.Test.YtipjbgmikbbkoaaL
namespace Go.Proofs.Ytipjbgmikbbkoaa
set_option linter.unusedVariables false
set_option linter.unusedSimpArgs false
open Go.RowKit

set_option maxHeartbeats 4000000 in
set_option maxRecDepth 100000 in
theorem answers_walk (A : Option Addr) (n c : Nat) (xs : List Int) (t : Int) (B : Option Addr) (m d : Nat) (bs : List Int) (w : World) (ha : Bs w A n c xs) (hb : Bs w B m d bs) (t0 : 0 ≤ t) (t1 : t ≤ 255) :
    Calls Try.prog 3 #[.slice A n c, .agg #[.int .u8 t, .slice B m d]] w fun e w' => e = .returned (.bool true) ∧ Below w.heap.size w w' := by
  have h0 := hd0 w (o := .cells #[.int .u8 t, .slice B m d] 24)
  have p0 := heap_alloc_new w (.cells #[.int .u8 t, .slice B m d] 24)
  have H0 := Lib.hid h0; have P0 := Lib.hid p0
  have HA := Lib.hid (ha.below h0); have HB := Lib.hid (hb.below h0)
  clear h0 p0 ha hb
  have AL := Lib.hid (secAlive_any (w.alloc (.cells #[.int .u8 t, .slice B m d] 24)))
  by_cases h1 : 1000 < n
  · have hd1 : decide ((1000 : Int) < (n : Int)) = true := by simp; omega
    go_enter Try.func3, Try.ntmps3
    go_wp2_with fail
    refine AL.out.mono ?_; rintro e w1 ⟨rfl, hw1⟩
    have H1 := Lib.hid (H0.out.trans (hw1.mono (by simp)))
    have p1 := (hw1.block _ (by simp)).trans P0.out
    have k1 := pair1 p1
    clear hw1 p1
    go_wp2
    go_ret
    exact ⟨rfl, H1.out⟩
  · have hd1 : decide ((1000 : Int) < (n : Int)) = false := by simp; omega
    by_cases h2 : 1000 < m
    · have hd2 : decide ((1000 : Int) < (m : Int)) = true := by simp; omega
      go_enter Try.func3, Try.ntmps3
      go_wp2_with fail
      refine AL.out.mono ?_; rintro e w1 ⟨rfl, hw1⟩
      have H1 := Lib.hid (H0.out.trans (hw1.mono (by simp)))
      have p1 := (hw1.block _ (by simp)).trans P0.out
      have k1 := pair1 p1
      clear hw1 p1
      go_wp2
      go_ret
      exact ⟨rfl, H1.out⟩
    · have hd2 : decide ((1000 : Int) < (m : Int)) = false := by simp; omega
      go_enter Try.func3, Try.ntmps3
      go_wp2_with fail
      refine AL.out.mono ?_; rintro e w1 ⟨rfl, hw1⟩
      have H1 := Lib.hid (H0.out.trans (hw1.mono (by simp)))
      have p1 := (hw1.block _ (by simp)).trans P0.out
      have k0 := pair0 p1; have k1 := pair1 p1
      have P1 := Lib.hid p1; have HA1 := Lib.hid (HA.out.below hw1); have HB1 := Lib.hid (HB.out.below hw1)
      clear hw1 p1
      have Q := Lib.hid (append_any A n c xs t B m d bs w1 HA1.out HB1.out (by omega) (by omega) t0 t1)
      have Q2 := Lib.hid (fun w2 h2 h3 => refAppend_any A n c xs t B m d bs w2 h2 h3 (by omega) (by omega) t0 t1)
      generalize appS xs (t, bs) = R at Q Q2
      obtain ⟨ys, er⟩ := R
      go_wp2_with fail
      refine Q.out.mono ?_; rintro e w2 ⟨A2, n2, c2, rfl, hb2, hw2⟩
      have H2 := Lib.hid (H1.out.trans (hw2.mono H1.out.size))
      have p2 := (hw2.block _ (heap_lt P1.out)).trans P1.out
      have HA2 := Lib.hid (HA1.out.below hw2); have HB2 := Lib.hid (HB1.out.below hw2); have HY2 := Lib.hid hb2
      have j0 := pair0 p2; have j1 := pair1 p2
      clear hw2 p2 hb2 k0 k1
      go_wp2_with fail
      refine (Q2.out _ HA2.out HB2.out).mono ?_; rintro e w3 ⟨A3, n3, c3, rfl, hb3, hw3⟩
      have H3 := Lib.hid (H2.out.trans (hw3.mono H2.out.size))
      have x1 := (HY2.out.below hw3).text
      have x2 := hb3.text
      clear hw3 hb3 j0 j1
      go_wp2
      go_ret
      exact ⟨by simp, H3.out⟩
end Go.Proofs.Ytipjbgmikbbkoaa
