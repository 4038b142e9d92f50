/- What the document's own sync and Ins of layer 13 answer; for programs of up to 16384 of each. -/
import Derived.Test.YtkoodhnfphmbnaaCodB
namespace Go.Proofs.Ytkoodhnfphmbnaa
set_option linter.unusedVariables false
set_option linter.unusedSimpArgs false
open Go.RowKit
set_option maxRecDepth 100000 in
set_option maxHeartbeats 16000000 in
theorem refSync_any (A : Option Addr) (n c : Nat) (B : Option Addr) (m d : Nat) (C : Option Addr) (k f : Nat) (co : List I4) (ki si : List Int) (ce re pa : Int) (o a b x : Int) (w : World) (hx : I4s w A n c co) (hy : Is w B m d ki) (hz : Is w C k f si) (hn : n ≤ 16384) (hm : m ≤ 16384) (hk : k ≤ 16384) :
    Calls Try.prog 29 #[.agg #[.slice A n c, .slice B m d, .slice C k f, .int .i64 ce, .int .i64 re, .int .i64 pa], .agg #[.int .i64 o, .int .i64 a, .int .i64 b, .int .i64 x]] w (YesC w (syncB ki o a b x)) := by
  have OB := Lib.hid (fun (W : World) (h1 : I4s W A n c co) (h2 : Is W B m d ki) (h3 : Is W C k f si) (y z : Int) => refObj_any A n c B m d C k f co ki si ce re pa y z W h1 h2 h3 hn hm hk)
  have RX := Lib.hid hx; have RY := Lib.hid hy; have RZ := Lib.hid hz
  clear hx hy hz
  obtain ⟨v1, hv1⟩ : ∃ W, w.alloc (.cells #[.slice A n c, .slice B m d, .slice C k f, .int .i64 ce, .int .i64 re, .int .i64 pa] 25) = W := ⟨_, rfl⟩
  have fr1 : Fr w v1 w.heap.size [.cells #[.slice A n c, .slice B m d, .slice C k f, .int .i64 ce, .int .i64 re, .int .i64 pa] 25] := hv1 ▸ Fr.first w _
  have z1 : v1.heap.size = w.heap.size + 1 := by rw [← hv1, Fr.size1]
  obtain ⟨v2, hv2⟩ : ∃ W, v1.alloc (.cells #[.int .i64 o, .int .i64 a, .int .i64 b, .int .i64 x] 40) = W := ⟨_, rfl⟩
  have fr2 : Fr w v2 w.heap.size [.cells #[.slice A n c, .slice B m d, .slice C k f, .int .i64 ce, .int .i64 re, .int .i64 pa] 25, .cells #[.int .i64 o, .int .i64 a, .int .i64 b, .int .i64 x] 40] := hv2 ▸ fr1.more z1 _
  have z2 : v2.heap.size = w.heap.size + 2 := by rw [← hv2, Fr.size1, z1]
  generalize hq : w.heap.size = q at *
  have FR := Lib.hid fr2
  clear fr1 fr2
  have c00 : v2.cell? ⟨q, 0, none⟩ = some (.slice A n c) := FR.out.cell 0 0 rfl rfl rfl
  have c01 : v2.cell? ⟨q, 1, none⟩ = some (.slice B m d) := FR.out.cell 0 1 rfl rfl rfl
  have c02 : v2.cell? ⟨q, 2, none⟩ = some (.slice C k f) := FR.out.cell 0 2 rfl rfl rfl
  have c03 : v2.cell? ⟨q, 3, none⟩ = some (.int .i64 ce) := FR.out.cell 0 3 rfl rfl rfl
  have c04 : v2.cell? ⟨q, 4, none⟩ = some (.int .i64 re) := FR.out.cell 0 4 rfl rfl rfl
  have c05 : v2.cell? ⟨q, 5, none⟩ = some (.int .i64 pa) := FR.out.cell 0 5 rfl rfl rfl
  have c10 : v2.cell? ⟨q + 1, 0, none⟩ = some (.int .i64 o) := FR.out.cell 1 0 rfl rfl rfl
  have c11 : v2.cell? ⟨q + 1, 1, none⟩ = some (.int .i64 a) := FR.out.cell 1 1 rfl rfl rfl
  have c12 : v2.cell? ⟨q + 1, 2, none⟩ = some (.int .i64 b) := FR.out.cell 1 2 rfl rfl rfl
  have c13 : v2.cell? ⟨q + 1, 3, none⟩ = some (.int .i64 x) := FR.out.cell 1 3 rfl rfl rfl
  go_enter Try.func29, Try.ntmps29
  by_cases ho26 : o = 26
  · subst ho26
    have OA := fun W h1 h2 h3 => OB.out W h1 h2 h3 a 1
    cases h1 : objB ki a 1
    · rw [h1] at OA
      replace OA := Lib.hid OA
      have HE := Lib.hid (show syncB ki 26 a b x = false from (show syncB ki 26 a b x = (objB ki a 1 && ((b == 0) && (x == 0))) from rfl).trans (by simp only [h1, Bool.true_and, Bool.false_and, Bool.and_false, Bool.and_true]))
      clear h1
      go_wp2_with fail
      refine (OA.out _ (FR.out.es RX.out) (FR.out.es RY.out) (FR.out.es RZ.out)).mono ?_
      rintro e w3 ⟨rfl, hb⟩
      clear c00 c01 c02 c03 c04 c05 c10 c11 c12 c13
      replace FR := Lib.hid (FR.out.step hb)
      clear hb
      have c00 : w3.cell? ⟨q, 0, none⟩ = some (.slice A n c) := FR.out.cell 0 0 rfl rfl rfl
      have c01 : w3.cell? ⟨q, 1, none⟩ = some (.slice B m d) := FR.out.cell 0 1 rfl rfl rfl
      have c02 : w3.cell? ⟨q, 2, none⟩ = some (.slice C k f) := FR.out.cell 0 2 rfl rfl rfl
      have c03 : w3.cell? ⟨q, 3, none⟩ = some (.int .i64 ce) := FR.out.cell 0 3 rfl rfl rfl
      have c04 : w3.cell? ⟨q, 4, none⟩ = some (.int .i64 re) := FR.out.cell 0 4 rfl rfl rfl
      have c05 : w3.cell? ⟨q, 5, none⟩ = some (.int .i64 pa) := FR.out.cell 0 5 rfl rfl rfl
      have c10 : w3.cell? ⟨q + 1, 0, none⟩ = some (.int .i64 26) := FR.out.cell 1 0 rfl rfl rfl
      have c11 : w3.cell? ⟨q + 1, 1, none⟩ = some (.int .i64 a) := FR.out.cell 1 1 rfl rfl rfl
      have c12 : w3.cell? ⟨q + 1, 2, none⟩ = some (.int .i64 b) := FR.out.cell 1 2 rfl rfl rfl
      have c13 : w3.cell? ⟨q + 1, 3, none⟩ = some (.int .i64 x) := FR.out.cell 1 3 rfl rfl rfl
      go_wp2
      go_ret
      rw [HE.out]
      exact ⟨rfl, FR.out.out⟩
    · rw [h1] at OA
      replace OA := Lib.hid OA
      replace h1 := Lib.hid h1
      by_cases hb0 : b = 0
      · have f1 : (b == 0) = true := by simp [hb0]
        clear hb0
        have HE := Lib.hid (show syncB ki 26 a b x = (x == 0) from (show syncB ki 26 a b x = (objB ki a 1 && ((b == 0) && (x == 0))) from rfl).trans (by simp only [h1.out, f1, Bool.true_and, Bool.false_and, Bool.and_false, Bool.and_true]))
        go_wp2_with fail
        refine (OA.out _ (FR.out.es RX.out) (FR.out.es RY.out) (FR.out.es RZ.out)).mono ?_
        rintro e w3 ⟨rfl, hb⟩
        clear c00 c01 c02 c03 c04 c05 c10 c11 c12 c13
        replace FR := Lib.hid (FR.out.step hb)
        clear hb
        have c00 : w3.cell? ⟨q, 0, none⟩ = some (.slice A n c) := FR.out.cell 0 0 rfl rfl rfl
        have c01 : w3.cell? ⟨q, 1, none⟩ = some (.slice B m d) := FR.out.cell 0 1 rfl rfl rfl
        have c02 : w3.cell? ⟨q, 2, none⟩ = some (.slice C k f) := FR.out.cell 0 2 rfl rfl rfl
        have c03 : w3.cell? ⟨q, 3, none⟩ = some (.int .i64 ce) := FR.out.cell 0 3 rfl rfl rfl
        have c04 : w3.cell? ⟨q, 4, none⟩ = some (.int .i64 re) := FR.out.cell 0 4 rfl rfl rfl
        have c05 : w3.cell? ⟨q, 5, none⟩ = some (.int .i64 pa) := FR.out.cell 0 5 rfl rfl rfl
        have c10 : w3.cell? ⟨q + 1, 0, none⟩ = some (.int .i64 26) := FR.out.cell 1 0 rfl rfl rfl
        have c11 : w3.cell? ⟨q + 1, 1, none⟩ = some (.int .i64 a) := FR.out.cell 1 1 rfl rfl rfl
        have c12 : w3.cell? ⟨q + 1, 2, none⟩ = some (.int .i64 b) := FR.out.cell 1 2 rfl rfl rfl
        have c13 : w3.cell? ⟨q + 1, 3, none⟩ = some (.int .i64 x) := FR.out.cell 1 3 rfl rfl rfl
        go_wp2
        go_ret
        rw [HE.out]
        exact ⟨rfl, FR.out.out⟩
      · have f1 : (b == 0) = false := by simp [hb0]
        clear hb0
        have HE := Lib.hid (show syncB ki 26 a b x = false from (show syncB ki 26 a b x = (objB ki a 1 && ((b == 0) && (x == 0))) from rfl).trans (by simp only [h1.out, f1, Bool.true_and, Bool.false_and, Bool.and_false, Bool.and_true]))
        go_wp2_with fail
        refine (OA.out _ (FR.out.es RX.out) (FR.out.es RY.out) (FR.out.es RZ.out)).mono ?_
        rintro e w3 ⟨rfl, hb⟩
        clear c00 c01 c02 c03 c04 c05 c10 c11 c12 c13
        replace FR := Lib.hid (FR.out.step hb)
        clear hb
        have c00 : w3.cell? ⟨q, 0, none⟩ = some (.slice A n c) := FR.out.cell 0 0 rfl rfl rfl
        have c01 : w3.cell? ⟨q, 1, none⟩ = some (.slice B m d) := FR.out.cell 0 1 rfl rfl rfl
        have c02 : w3.cell? ⟨q, 2, none⟩ = some (.slice C k f) := FR.out.cell 0 2 rfl rfl rfl
        have c03 : w3.cell? ⟨q, 3, none⟩ = some (.int .i64 ce) := FR.out.cell 0 3 rfl rfl rfl
        have c04 : w3.cell? ⟨q, 4, none⟩ = some (.int .i64 re) := FR.out.cell 0 4 rfl rfl rfl
        have c05 : w3.cell? ⟨q, 5, none⟩ = some (.int .i64 pa) := FR.out.cell 0 5 rfl rfl rfl
        have c10 : w3.cell? ⟨q + 1, 0, none⟩ = some (.int .i64 26) := FR.out.cell 1 0 rfl rfl rfl
        have c11 : w3.cell? ⟨q + 1, 1, none⟩ = some (.int .i64 a) := FR.out.cell 1 1 rfl rfl rfl
        have c12 : w3.cell? ⟨q + 1, 2, none⟩ = some (.int .i64 b) := FR.out.cell 1 2 rfl rfl rfl
        have c13 : w3.cell? ⟨q + 1, 3, none⟩ = some (.int .i64 x) := FR.out.cell 1 3 rfl rfl rfl
        go_wp2
        go_ret
        rw [HE.out]
        exact ⟨rfl, FR.out.out⟩
  have hn26 : (o == 26) = false := by simpa using ho26
  replace ho26 := Lib.hid ho26
  by_cases ho27 : o = 27
  · subst ho27
    have OA := fun W h1 h2 h3 => OB.out W h1 h2 h3 a 1
    cases h1 : objB ki a 1
    · rw [h1] at OA
      replace OA := Lib.hid OA
      have HE := Lib.hid (show syncB ki 27 a b x = false from (show syncB ki 27 a b x = (objB ki a 1 && ((b == 0) && (x == 0))) from rfl).trans (by simp only [h1, Bool.true_and, Bool.false_and, Bool.and_false, Bool.and_true]))
      clear h1
      go_wp2_with fail
      refine (OA.out _ (FR.out.es RX.out) (FR.out.es RY.out) (FR.out.es RZ.out)).mono ?_
      rintro e w3 ⟨rfl, hb⟩
      clear c00 c01 c02 c03 c04 c05 c10 c11 c12 c13
      replace FR := Lib.hid (FR.out.step hb)
      clear hb
      have c00 : w3.cell? ⟨q, 0, none⟩ = some (.slice A n c) := FR.out.cell 0 0 rfl rfl rfl
      have c01 : w3.cell? ⟨q, 1, none⟩ = some (.slice B m d) := FR.out.cell 0 1 rfl rfl rfl
      have c02 : w3.cell? ⟨q, 2, none⟩ = some (.slice C k f) := FR.out.cell 0 2 rfl rfl rfl
      have c03 : w3.cell? ⟨q, 3, none⟩ = some (.int .i64 ce) := FR.out.cell 0 3 rfl rfl rfl
      have c04 : w3.cell? ⟨q, 4, none⟩ = some (.int .i64 re) := FR.out.cell 0 4 rfl rfl rfl
      have c05 : w3.cell? ⟨q, 5, none⟩ = some (.int .i64 pa) := FR.out.cell 0 5 rfl rfl rfl
      have c10 : w3.cell? ⟨q + 1, 0, none⟩ = some (.int .i64 27) := FR.out.cell 1 0 rfl rfl rfl
      have c11 : w3.cell? ⟨q + 1, 1, none⟩ = some (.int .i64 a) := FR.out.cell 1 1 rfl rfl rfl
      have c12 : w3.cell? ⟨q + 1, 2, none⟩ = some (.int .i64 b) := FR.out.cell 1 2 rfl rfl rfl
      have c13 : w3.cell? ⟨q + 1, 3, none⟩ = some (.int .i64 x) := FR.out.cell 1 3 rfl rfl rfl
      go_wp2
      go_ret
      rw [HE.out]
      exact ⟨rfl, FR.out.out⟩
    · rw [h1] at OA
      replace OA := Lib.hid OA
      replace h1 := Lib.hid h1
      by_cases hb0 : b = 0
      · have f1 : (b == 0) = true := by simp [hb0]
        clear hb0
        have HE := Lib.hid (show syncB ki 27 a b x = (x == 0) from (show syncB ki 27 a b x = (objB ki a 1 && ((b == 0) && (x == 0))) from rfl).trans (by simp only [h1.out, f1, Bool.true_and, Bool.false_and, Bool.and_false, Bool.and_true]))
        go_wp2_with fail
        refine (OA.out _ (FR.out.es RX.out) (FR.out.es RY.out) (FR.out.es RZ.out)).mono ?_
        rintro e w3 ⟨rfl, hb⟩
        clear c00 c01 c02 c03 c04 c05 c10 c11 c12 c13
        replace FR := Lib.hid (FR.out.step hb)
        clear hb
        have c00 : w3.cell? ⟨q, 0, none⟩ = some (.slice A n c) := FR.out.cell 0 0 rfl rfl rfl
        have c01 : w3.cell? ⟨q, 1, none⟩ = some (.slice B m d) := FR.out.cell 0 1 rfl rfl rfl
        have c02 : w3.cell? ⟨q, 2, none⟩ = some (.slice C k f) := FR.out.cell 0 2 rfl rfl rfl
        have c03 : w3.cell? ⟨q, 3, none⟩ = some (.int .i64 ce) := FR.out.cell 0 3 rfl rfl rfl
        have c04 : w3.cell? ⟨q, 4, none⟩ = some (.int .i64 re) := FR.out.cell 0 4 rfl rfl rfl
        have c05 : w3.cell? ⟨q, 5, none⟩ = some (.int .i64 pa) := FR.out.cell 0 5 rfl rfl rfl
        have c10 : w3.cell? ⟨q + 1, 0, none⟩ = some (.int .i64 27) := FR.out.cell 1 0 rfl rfl rfl
        have c11 : w3.cell? ⟨q + 1, 1, none⟩ = some (.int .i64 a) := FR.out.cell 1 1 rfl rfl rfl
        have c12 : w3.cell? ⟨q + 1, 2, none⟩ = some (.int .i64 b) := FR.out.cell 1 2 rfl rfl rfl
        have c13 : w3.cell? ⟨q + 1, 3, none⟩ = some (.int .i64 x) := FR.out.cell 1 3 rfl rfl rfl
        go_wp2
        go_ret
        rw [HE.out]
        exact ⟨rfl, FR.out.out⟩
      · have f1 : (b == 0) = false := by simp [hb0]
        clear hb0
        have HE := Lib.hid (show syncB ki 27 a b x = false from (show syncB ki 27 a b x = (objB ki a 1 && ((b == 0) && (x == 0))) from rfl).trans (by simp only [h1.out, f1, Bool.true_and, Bool.false_and, Bool.and_false, Bool.and_true]))
        go_wp2_with fail
        refine (OA.out _ (FR.out.es RX.out) (FR.out.es RY.out) (FR.out.es RZ.out)).mono ?_
        rintro e w3 ⟨rfl, hb⟩
        clear c00 c01 c02 c03 c04 c05 c10 c11 c12 c13
        replace FR := Lib.hid (FR.out.step hb)
        clear hb
        have c00 : w3.cell? ⟨q, 0, none⟩ = some (.slice A n c) := FR.out.cell 0 0 rfl rfl rfl
        have c01 : w3.cell? ⟨q, 1, none⟩ = some (.slice B m d) := FR.out.cell 0 1 rfl rfl rfl
        have c02 : w3.cell? ⟨q, 2, none⟩ = some (.slice C k f) := FR.out.cell 0 2 rfl rfl rfl
        have c03 : w3.cell? ⟨q, 3, none⟩ = some (.int .i64 ce) := FR.out.cell 0 3 rfl rfl rfl
        have c04 : w3.cell? ⟨q, 4, none⟩ = some (.int .i64 re) := FR.out.cell 0 4 rfl rfl rfl
        have c05 : w3.cell? ⟨q, 5, none⟩ = some (.int .i64 pa) := FR.out.cell 0 5 rfl rfl rfl
        have c10 : w3.cell? ⟨q + 1, 0, none⟩ = some (.int .i64 27) := FR.out.cell 1 0 rfl rfl rfl
        have c11 : w3.cell? ⟨q + 1, 1, none⟩ = some (.int .i64 a) := FR.out.cell 1 1 rfl rfl rfl
        have c12 : w3.cell? ⟨q + 1, 2, none⟩ = some (.int .i64 b) := FR.out.cell 1 2 rfl rfl rfl
        have c13 : w3.cell? ⟨q + 1, 3, none⟩ = some (.int .i64 x) := FR.out.cell 1 3 rfl rfl rfl
        go_wp2
        go_ret
        rw [HE.out]
        exact ⟨rfl, FR.out.out⟩
  have hn27 : (o == 27) = false := by simpa using ho27
  replace ho27 := Lib.hid ho27
  by_cases ho28 : o = 28
  · subst ho28
    have OA := fun W h1 h2 h3 => OB.out W h1 h2 h3 a 2
    cases h1 : objB ki a 2
    · rw [h1] at OA
      replace OA := Lib.hid OA
      have HE := Lib.hid (show syncB ki 28 a b x = false from (show syncB ki 28 a b x = (objB ki a 2 && ((b == 0) && (x == 0))) from rfl).trans (by simp only [h1, Bool.true_and, Bool.false_and, Bool.and_false, Bool.and_true]))
      clear h1
      go_wp2_with fail
      refine (OA.out _ (FR.out.es RX.out) (FR.out.es RY.out) (FR.out.es RZ.out)).mono ?_
      rintro e w3 ⟨rfl, hb⟩
      clear c00 c01 c02 c03 c04 c05 c10 c11 c12 c13
      replace FR := Lib.hid (FR.out.step hb)
      clear hb
      have c00 : w3.cell? ⟨q, 0, none⟩ = some (.slice A n c) := FR.out.cell 0 0 rfl rfl rfl
      have c01 : w3.cell? ⟨q, 1, none⟩ = some (.slice B m d) := FR.out.cell 0 1 rfl rfl rfl
      have c02 : w3.cell? ⟨q, 2, none⟩ = some (.slice C k f) := FR.out.cell 0 2 rfl rfl rfl
      have c03 : w3.cell? ⟨q, 3, none⟩ = some (.int .i64 ce) := FR.out.cell 0 3 rfl rfl rfl
      have c04 : w3.cell? ⟨q, 4, none⟩ = some (.int .i64 re) := FR.out.cell 0 4 rfl rfl rfl
      have c05 : w3.cell? ⟨q, 5, none⟩ = some (.int .i64 pa) := FR.out.cell 0 5 rfl rfl rfl
      have c10 : w3.cell? ⟨q + 1, 0, none⟩ = some (.int .i64 28) := FR.out.cell 1 0 rfl rfl rfl
      have c11 : w3.cell? ⟨q + 1, 1, none⟩ = some (.int .i64 a) := FR.out.cell 1 1 rfl rfl rfl
      have c12 : w3.cell? ⟨q + 1, 2, none⟩ = some (.int .i64 b) := FR.out.cell 1 2 rfl rfl rfl
      have c13 : w3.cell? ⟨q + 1, 3, none⟩ = some (.int .i64 x) := FR.out.cell 1 3 rfl rfl rfl
      go_wp2
      go_ret
      rw [HE.out]
      exact ⟨rfl, FR.out.out⟩
    · rw [h1] at OA
      replace OA := Lib.hid OA
      replace h1 := Lib.hid h1
      by_cases hb0 : b = 0
      · have f1 : (b == 0) = true := by simp [hb0]
        clear hb0
        have HE := Lib.hid (show syncB ki 28 a b x = (x == 0) from (show syncB ki 28 a b x = (objB ki a 2 && ((b == 0) && (x == 0))) from rfl).trans (by simp only [h1.out, f1, Bool.true_and, Bool.false_and, Bool.and_false, Bool.and_true]))
        go_wp2_with fail
        refine (OA.out _ (FR.out.es RX.out) (FR.out.es RY.out) (FR.out.es RZ.out)).mono ?_
        rintro e w3 ⟨rfl, hb⟩
        clear c00 c01 c02 c03 c04 c05 c10 c11 c12 c13
        replace FR := Lib.hid (FR.out.step hb)
        clear hb
        have c00 : w3.cell? ⟨q, 0, none⟩ = some (.slice A n c) := FR.out.cell 0 0 rfl rfl rfl
        have c01 : w3.cell? ⟨q, 1, none⟩ = some (.slice B m d) := FR.out.cell 0 1 rfl rfl rfl
        have c02 : w3.cell? ⟨q, 2, none⟩ = some (.slice C k f) := FR.out.cell 0 2 rfl rfl rfl
        have c03 : w3.cell? ⟨q, 3, none⟩ = some (.int .i64 ce) := FR.out.cell 0 3 rfl rfl rfl
        have c04 : w3.cell? ⟨q, 4, none⟩ = some (.int .i64 re) := FR.out.cell 0 4 rfl rfl rfl
        have c05 : w3.cell? ⟨q, 5, none⟩ = some (.int .i64 pa) := FR.out.cell 0 5 rfl rfl rfl
        have c10 : w3.cell? ⟨q + 1, 0, none⟩ = some (.int .i64 28) := FR.out.cell 1 0 rfl rfl rfl
        have c11 : w3.cell? ⟨q + 1, 1, none⟩ = some (.int .i64 a) := FR.out.cell 1 1 rfl rfl rfl
        have c12 : w3.cell? ⟨q + 1, 2, none⟩ = some (.int .i64 b) := FR.out.cell 1 2 rfl rfl rfl
        have c13 : w3.cell? ⟨q + 1, 3, none⟩ = some (.int .i64 x) := FR.out.cell 1 3 rfl rfl rfl
        go_wp2
        go_ret
        rw [HE.out]
        exact ⟨rfl, FR.out.out⟩
      · have f1 : (b == 0) = false := by simp [hb0]
        clear hb0
        have HE := Lib.hid (show syncB ki 28 a b x = false from (show syncB ki 28 a b x = (objB ki a 2 && ((b == 0) && (x == 0))) from rfl).trans (by simp only [h1.out, f1, Bool.true_and, Bool.false_and, Bool.and_false, Bool.and_true]))
        go_wp2_with fail
        refine (OA.out _ (FR.out.es RX.out) (FR.out.es RY.out) (FR.out.es RZ.out)).mono ?_
        rintro e w3 ⟨rfl, hb⟩
        clear c00 c01 c02 c03 c04 c05 c10 c11 c12 c13
        replace FR := Lib.hid (FR.out.step hb)
        clear hb
        have c00 : w3.cell? ⟨q, 0, none⟩ = some (.slice A n c) := FR.out.cell 0 0 rfl rfl rfl
        have c01 : w3.cell? ⟨q, 1, none⟩ = some (.slice B m d) := FR.out.cell 0 1 rfl rfl rfl
        have c02 : w3.cell? ⟨q, 2, none⟩ = some (.slice C k f) := FR.out.cell 0 2 rfl rfl rfl
        have c03 : w3.cell? ⟨q, 3, none⟩ = some (.int .i64 ce) := FR.out.cell 0 3 rfl rfl rfl
        have c04 : w3.cell? ⟨q, 4, none⟩ = some (.int .i64 re) := FR.out.cell 0 4 rfl rfl rfl
        have c05 : w3.cell? ⟨q, 5, none⟩ = some (.int .i64 pa) := FR.out.cell 0 5 rfl rfl rfl
        have c10 : w3.cell? ⟨q + 1, 0, none⟩ = some (.int .i64 28) := FR.out.cell 1 0 rfl rfl rfl
        have c11 : w3.cell? ⟨q + 1, 1, none⟩ = some (.int .i64 a) := FR.out.cell 1 1 rfl rfl rfl
        have c12 : w3.cell? ⟨q + 1, 2, none⟩ = some (.int .i64 b) := FR.out.cell 1 2 rfl rfl rfl
        have c13 : w3.cell? ⟨q + 1, 3, none⟩ = some (.int .i64 x) := FR.out.cell 1 3 rfl rfl rfl
        go_wp2
        go_ret
        rw [HE.out]
        exact ⟨rfl, FR.out.out⟩
  have hn28 : (o == 28) = false := by simpa using ho28
  replace ho28 := Lib.hid ho28
  by_cases ho29 : o = 29
  · subst ho29
    have OA := fun W h1 h2 h3 => OB.out W h1 h2 h3 a 2
    cases h1 : objB ki a 2
    · rw [h1] at OA
      replace OA := Lib.hid OA
      have HE := Lib.hid (show syncB ki 29 a b x = false from (show syncB ki 29 a b x = (objB ki a 2 && ((b == 0) && (x == 0))) from rfl).trans (by simp only [h1, Bool.true_and, Bool.false_and, Bool.and_false, Bool.and_true]))
      clear h1
      go_wp2_with fail
      refine (OA.out _ (FR.out.es RX.out) (FR.out.es RY.out) (FR.out.es RZ.out)).mono ?_
      rintro e w3 ⟨rfl, hb⟩
      clear c00 c01 c02 c03 c04 c05 c10 c11 c12 c13
      replace FR := Lib.hid (FR.out.step hb)
      clear hb
      have c00 : w3.cell? ⟨q, 0, none⟩ = some (.slice A n c) := FR.out.cell 0 0 rfl rfl rfl
      have c01 : w3.cell? ⟨q, 1, none⟩ = some (.slice B m d) := FR.out.cell 0 1 rfl rfl rfl
      have c02 : w3.cell? ⟨q, 2, none⟩ = some (.slice C k f) := FR.out.cell 0 2 rfl rfl rfl
      have c03 : w3.cell? ⟨q, 3, none⟩ = some (.int .i64 ce) := FR.out.cell 0 3 rfl rfl rfl
      have c04 : w3.cell? ⟨q, 4, none⟩ = some (.int .i64 re) := FR.out.cell 0 4 rfl rfl rfl
      have c05 : w3.cell? ⟨q, 5, none⟩ = some (.int .i64 pa) := FR.out.cell 0 5 rfl rfl rfl
      have c10 : w3.cell? ⟨q + 1, 0, none⟩ = some (.int .i64 29) := FR.out.cell 1 0 rfl rfl rfl
      have c11 : w3.cell? ⟨q + 1, 1, none⟩ = some (.int .i64 a) := FR.out.cell 1 1 rfl rfl rfl
      have c12 : w3.cell? ⟨q + 1, 2, none⟩ = some (.int .i64 b) := FR.out.cell 1 2 rfl rfl rfl
      have c13 : w3.cell? ⟨q + 1, 3, none⟩ = some (.int .i64 x) := FR.out.cell 1 3 rfl rfl rfl
      go_wp2
      go_ret
      rw [HE.out]
      exact ⟨rfl, FR.out.out⟩
    · rw [h1] at OA
      replace OA := Lib.hid OA
      replace h1 := Lib.hid h1
      by_cases hb0 : b = 0
      · have f1 : (b == 0) = true := by simp [hb0]
        clear hb0
        have HE := Lib.hid (show syncB ki 29 a b x = (x == 0) from (show syncB ki 29 a b x = (objB ki a 2 && ((b == 0) && (x == 0))) from rfl).trans (by simp only [h1.out, f1, Bool.true_and, Bool.false_and, Bool.and_false, Bool.and_true]))
        go_wp2_with fail
        refine (OA.out _ (FR.out.es RX.out) (FR.out.es RY.out) (FR.out.es RZ.out)).mono ?_
        rintro e w3 ⟨rfl, hb⟩
        clear c00 c01 c02 c03 c04 c05 c10 c11 c12 c13
        replace FR := Lib.hid (FR.out.step hb)
        clear hb
        have c00 : w3.cell? ⟨q, 0, none⟩ = some (.slice A n c) := FR.out.cell 0 0 rfl rfl rfl
        have c01 : w3.cell? ⟨q, 1, none⟩ = some (.slice B m d) := FR.out.cell 0 1 rfl rfl rfl
        have c02 : w3.cell? ⟨q, 2, none⟩ = some (.slice C k f) := FR.out.cell 0 2 rfl rfl rfl
        have c03 : w3.cell? ⟨q, 3, none⟩ = some (.int .i64 ce) := FR.out.cell 0 3 rfl rfl rfl
        have c04 : w3.cell? ⟨q, 4, none⟩ = some (.int .i64 re) := FR.out.cell 0 4 rfl rfl rfl
        have c05 : w3.cell? ⟨q, 5, none⟩ = some (.int .i64 pa) := FR.out.cell 0 5 rfl rfl rfl
        have c10 : w3.cell? ⟨q + 1, 0, none⟩ = some (.int .i64 29) := FR.out.cell 1 0 rfl rfl rfl
        have c11 : w3.cell? ⟨q + 1, 1, none⟩ = some (.int .i64 a) := FR.out.cell 1 1 rfl rfl rfl
        have c12 : w3.cell? ⟨q + 1, 2, none⟩ = some (.int .i64 b) := FR.out.cell 1 2 rfl rfl rfl
        have c13 : w3.cell? ⟨q + 1, 3, none⟩ = some (.int .i64 x) := FR.out.cell 1 3 rfl rfl rfl
        go_wp2
        go_ret
        rw [HE.out]
        exact ⟨rfl, FR.out.out⟩
      · have f1 : (b == 0) = false := by simp [hb0]
        clear hb0
        have HE := Lib.hid (show syncB ki 29 a b x = false from (show syncB ki 29 a b x = (objB ki a 2 && ((b == 0) && (x == 0))) from rfl).trans (by simp only [h1.out, f1, Bool.true_and, Bool.false_and, Bool.and_false, Bool.and_true]))
        go_wp2_with fail
        refine (OA.out _ (FR.out.es RX.out) (FR.out.es RY.out) (FR.out.es RZ.out)).mono ?_
        rintro e w3 ⟨rfl, hb⟩
        clear c00 c01 c02 c03 c04 c05 c10 c11 c12 c13
        replace FR := Lib.hid (FR.out.step hb)
        clear hb
        have c00 : w3.cell? ⟨q, 0, none⟩ = some (.slice A n c) := FR.out.cell 0 0 rfl rfl rfl
        have c01 : w3.cell? ⟨q, 1, none⟩ = some (.slice B m d) := FR.out.cell 0 1 rfl rfl rfl
        have c02 : w3.cell? ⟨q, 2, none⟩ = some (.slice C k f) := FR.out.cell 0 2 rfl rfl rfl
        have c03 : w3.cell? ⟨q, 3, none⟩ = some (.int .i64 ce) := FR.out.cell 0 3 rfl rfl rfl
        have c04 : w3.cell? ⟨q, 4, none⟩ = some (.int .i64 re) := FR.out.cell 0 4 rfl rfl rfl
        have c05 : w3.cell? ⟨q, 5, none⟩ = some (.int .i64 pa) := FR.out.cell 0 5 rfl rfl rfl
        have c10 : w3.cell? ⟨q + 1, 0, none⟩ = some (.int .i64 29) := FR.out.cell 1 0 rfl rfl rfl
        have c11 : w3.cell? ⟨q + 1, 1, none⟩ = some (.int .i64 a) := FR.out.cell 1 1 rfl rfl rfl
        have c12 : w3.cell? ⟨q + 1, 2, none⟩ = some (.int .i64 b) := FR.out.cell 1 2 rfl rfl rfl
        have c13 : w3.cell? ⟨q + 1, 3, none⟩ = some (.int .i64 x) := FR.out.cell 1 3 rfl rfl rfl
        go_wp2
        go_ret
        rw [HE.out]
        exact ⟨rfl, FR.out.out⟩
  have hn29 : (o == 29) = false := by simpa using ho29
  replace ho29 := Lib.hid ho29
  by_cases ho30 : o = 30
  · subst ho30
    have OA := fun W h1 h2 h3 => OB.out W h1 h2 h3 a 2
    cases h1 : objB ki a 2
    · rw [h1] at OA
      replace OA := Lib.hid OA
      have HE := Lib.hid (show syncB ki 30 a b x = false from (show syncB ki 30 a b x = (objB ki a 2 && ((b == 0) && (x == 0))) from rfl).trans (by simp only [h1, Bool.true_and, Bool.false_and, Bool.and_false, Bool.and_true]))
      clear h1
      go_wp2_with fail
      refine (OA.out _ (FR.out.es RX.out) (FR.out.es RY.out) (FR.out.es RZ.out)).mono ?_
      rintro e w3 ⟨rfl, hb⟩
      clear c00 c01 c02 c03 c04 c05 c10 c11 c12 c13
      replace FR := Lib.hid (FR.out.step hb)
      clear hb
      have c00 : w3.cell? ⟨q, 0, none⟩ = some (.slice A n c) := FR.out.cell 0 0 rfl rfl rfl
      have c01 : w3.cell? ⟨q, 1, none⟩ = some (.slice B m d) := FR.out.cell 0 1 rfl rfl rfl
      have c02 : w3.cell? ⟨q, 2, none⟩ = some (.slice C k f) := FR.out.cell 0 2 rfl rfl rfl
      have c03 : w3.cell? ⟨q, 3, none⟩ = some (.int .i64 ce) := FR.out.cell 0 3 rfl rfl rfl
      have c04 : w3.cell? ⟨q, 4, none⟩ = some (.int .i64 re) := FR.out.cell 0 4 rfl rfl rfl
      have c05 : w3.cell? ⟨q, 5, none⟩ = some (.int .i64 pa) := FR.out.cell 0 5 rfl rfl rfl
      have c10 : w3.cell? ⟨q + 1, 0, none⟩ = some (.int .i64 30) := FR.out.cell 1 0 rfl rfl rfl
      have c11 : w3.cell? ⟨q + 1, 1, none⟩ = some (.int .i64 a) := FR.out.cell 1 1 rfl rfl rfl
      have c12 : w3.cell? ⟨q + 1, 2, none⟩ = some (.int .i64 b) := FR.out.cell 1 2 rfl rfl rfl
      have c13 : w3.cell? ⟨q + 1, 3, none⟩ = some (.int .i64 x) := FR.out.cell 1 3 rfl rfl rfl
      go_wp2
      go_ret
      rw [HE.out]
      exact ⟨rfl, FR.out.out⟩
    · rw [h1] at OA
      replace OA := Lib.hid OA
      replace h1 := Lib.hid h1
      by_cases hb0 : b = 0
      · have f1 : (b == 0) = true := by simp [hb0]
        clear hb0
        have HE := Lib.hid (show syncB ki 30 a b x = (x == 0) from (show syncB ki 30 a b x = (objB ki a 2 && ((b == 0) && (x == 0))) from rfl).trans (by simp only [h1.out, f1, Bool.true_and, Bool.false_and, Bool.and_false, Bool.and_true]))
        go_wp2_with fail
        refine (OA.out _ (FR.out.es RX.out) (FR.out.es RY.out) (FR.out.es RZ.out)).mono ?_
        rintro e w3 ⟨rfl, hb⟩
        clear c00 c01 c02 c03 c04 c05 c10 c11 c12 c13
        replace FR := Lib.hid (FR.out.step hb)
        clear hb
        have c00 : w3.cell? ⟨q, 0, none⟩ = some (.slice A n c) := FR.out.cell 0 0 rfl rfl rfl
        have c01 : w3.cell? ⟨q, 1, none⟩ = some (.slice B m d) := FR.out.cell 0 1 rfl rfl rfl
        have c02 : w3.cell? ⟨q, 2, none⟩ = some (.slice C k f) := FR.out.cell 0 2 rfl rfl rfl
        have c03 : w3.cell? ⟨q, 3, none⟩ = some (.int .i64 ce) := FR.out.cell 0 3 rfl rfl rfl
        have c04 : w3.cell? ⟨q, 4, none⟩ = some (.int .i64 re) := FR.out.cell 0 4 rfl rfl rfl
        have c05 : w3.cell? ⟨q, 5, none⟩ = some (.int .i64 pa) := FR.out.cell 0 5 rfl rfl rfl
        have c10 : w3.cell? ⟨q + 1, 0, none⟩ = some (.int .i64 30) := FR.out.cell 1 0 rfl rfl rfl
        have c11 : w3.cell? ⟨q + 1, 1, none⟩ = some (.int .i64 a) := FR.out.cell 1 1 rfl rfl rfl
        have c12 : w3.cell? ⟨q + 1, 2, none⟩ = some (.int .i64 b) := FR.out.cell 1 2 rfl rfl rfl
        have c13 : w3.cell? ⟨q + 1, 3, none⟩ = some (.int .i64 x) := FR.out.cell 1 3 rfl rfl rfl
        go_wp2
        go_ret
        rw [HE.out]
        exact ⟨rfl, FR.out.out⟩
      · have f1 : (b == 0) = false := by simp [hb0]
        clear hb0
        have HE := Lib.hid (show syncB ki 30 a b x = false from (show syncB ki 30 a b x = (objB ki a 2 && ((b == 0) && (x == 0))) from rfl).trans (by simp only [h1.out, f1, Bool.true_and, Bool.false_and, Bool.and_false, Bool.and_true]))
        go_wp2_with fail
        refine (OA.out _ (FR.out.es RX.out) (FR.out.es RY.out) (FR.out.es RZ.out)).mono ?_
        rintro e w3 ⟨rfl, hb⟩
        clear c00 c01 c02 c03 c04 c05 c10 c11 c12 c13
        replace FR := Lib.hid (FR.out.step hb)
        clear hb
        have c00 : w3.cell? ⟨q, 0, none⟩ = some (.slice A n c) := FR.out.cell 0 0 rfl rfl rfl
        have c01 : w3.cell? ⟨q, 1, none⟩ = some (.slice B m d) := FR.out.cell 0 1 rfl rfl rfl
        have c02 : w3.cell? ⟨q, 2, none⟩ = some (.slice C k f) := FR.out.cell 0 2 rfl rfl rfl
        have c03 : w3.cell? ⟨q, 3, none⟩ = some (.int .i64 ce) := FR.out.cell 0 3 rfl rfl rfl
        have c04 : w3.cell? ⟨q, 4, none⟩ = some (.int .i64 re) := FR.out.cell 0 4 rfl rfl rfl
        have c05 : w3.cell? ⟨q, 5, none⟩ = some (.int .i64 pa) := FR.out.cell 0 5 rfl rfl rfl
        have c10 : w3.cell? ⟨q + 1, 0, none⟩ = some (.int .i64 30) := FR.out.cell 1 0 rfl rfl rfl
        have c11 : w3.cell? ⟨q + 1, 1, none⟩ = some (.int .i64 a) := FR.out.cell 1 1 rfl rfl rfl
        have c12 : w3.cell? ⟨q + 1, 2, none⟩ = some (.int .i64 b) := FR.out.cell 1 2 rfl rfl rfl
        have c13 : w3.cell? ⟨q + 1, 3, none⟩ = some (.int .i64 x) := FR.out.cell 1 3 rfl rfl rfl
        go_wp2
        go_ret
        rw [HE.out]
        exact ⟨rfl, FR.out.out⟩
  have hn30 : (o == 30) = false := by simpa using ho30
  replace ho30 := Lib.hid ho30
  by_cases ho31 : o = 31
  · subst ho31
    have OA := fun W h1 h2 h3 => OB.out W h1 h2 h3 a 2
    cases h1 : objB ki a 2
    · rw [h1] at OA
      replace OA := Lib.hid OA
      have HE := Lib.hid (show syncB ki 31 a b x = false from (show syncB ki 31 a b x = (objB ki a 2 && ((b == 0) && (x == 0))) from rfl).trans (by simp only [h1, Bool.true_and, Bool.false_and, Bool.and_false, Bool.and_true]))
      clear h1
      go_wp2_with fail
      refine (OA.out _ (FR.out.es RX.out) (FR.out.es RY.out) (FR.out.es RZ.out)).mono ?_
      rintro e w3 ⟨rfl, hb⟩
      clear c00 c01 c02 c03 c04 c05 c10 c11 c12 c13
      replace FR := Lib.hid (FR.out.step hb)
      clear hb
      have c00 : w3.cell? ⟨q, 0, none⟩ = some (.slice A n c) := FR.out.cell 0 0 rfl rfl rfl
      have c01 : w3.cell? ⟨q, 1, none⟩ = some (.slice B m d) := FR.out.cell 0 1 rfl rfl rfl
      have c02 : w3.cell? ⟨q, 2, none⟩ = some (.slice C k f) := FR.out.cell 0 2 rfl rfl rfl
      have c03 : w3.cell? ⟨q, 3, none⟩ = some (.int .i64 ce) := FR.out.cell 0 3 rfl rfl rfl
      have c04 : w3.cell? ⟨q, 4, none⟩ = some (.int .i64 re) := FR.out.cell 0 4 rfl rfl rfl
      have c05 : w3.cell? ⟨q, 5, none⟩ = some (.int .i64 pa) := FR.out.cell 0 5 rfl rfl rfl
      have c10 : w3.cell? ⟨q + 1, 0, none⟩ = some (.int .i64 31) := FR.out.cell 1 0 rfl rfl rfl
      have c11 : w3.cell? ⟨q + 1, 1, none⟩ = some (.int .i64 a) := FR.out.cell 1 1 rfl rfl rfl
      have c12 : w3.cell? ⟨q + 1, 2, none⟩ = some (.int .i64 b) := FR.out.cell 1 2 rfl rfl rfl
      have c13 : w3.cell? ⟨q + 1, 3, none⟩ = some (.int .i64 x) := FR.out.cell 1 3 rfl rfl rfl
      go_wp2
      go_ret
      rw [HE.out]
      exact ⟨rfl, FR.out.out⟩
    · rw [h1] at OA
      replace OA := Lib.hid OA
      replace h1 := Lib.hid h1
      by_cases hb0 : b = 0
      · have f1 : (b == 0) = true := by simp [hb0]
        clear hb0
        have HE := Lib.hid (show syncB ki 31 a b x = (x == 0) from (show syncB ki 31 a b x = (objB ki a 2 && ((b == 0) && (x == 0))) from rfl).trans (by simp only [h1.out, f1, Bool.true_and, Bool.false_and, Bool.and_false, Bool.and_true]))
        go_wp2_with fail
        refine (OA.out _ (FR.out.es RX.out) (FR.out.es RY.out) (FR.out.es RZ.out)).mono ?_
        rintro e w3 ⟨rfl, hb⟩
        clear c00 c01 c02 c03 c04 c05 c10 c11 c12 c13
        replace FR := Lib.hid (FR.out.step hb)
        clear hb
        have c00 : w3.cell? ⟨q, 0, none⟩ = some (.slice A n c) := FR.out.cell 0 0 rfl rfl rfl
        have c01 : w3.cell? ⟨q, 1, none⟩ = some (.slice B m d) := FR.out.cell 0 1 rfl rfl rfl
        have c02 : w3.cell? ⟨q, 2, none⟩ = some (.slice C k f) := FR.out.cell 0 2 rfl rfl rfl
        have c03 : w3.cell? ⟨q, 3, none⟩ = some (.int .i64 ce) := FR.out.cell 0 3 rfl rfl rfl
        have c04 : w3.cell? ⟨q, 4, none⟩ = some (.int .i64 re) := FR.out.cell 0 4 rfl rfl rfl
        have c05 : w3.cell? ⟨q, 5, none⟩ = some (.int .i64 pa) := FR.out.cell 0 5 rfl rfl rfl
        have c10 : w3.cell? ⟨q + 1, 0, none⟩ = some (.int .i64 31) := FR.out.cell 1 0 rfl rfl rfl
        have c11 : w3.cell? ⟨q + 1, 1, none⟩ = some (.int .i64 a) := FR.out.cell 1 1 rfl rfl rfl
        have c12 : w3.cell? ⟨q + 1, 2, none⟩ = some (.int .i64 b) := FR.out.cell 1 2 rfl rfl rfl
        have c13 : w3.cell? ⟨q + 1, 3, none⟩ = some (.int .i64 x) := FR.out.cell 1 3 rfl rfl rfl
        go_wp2
        go_ret
        rw [HE.out]
        exact ⟨rfl, FR.out.out⟩
      · have f1 : (b == 0) = false := by simp [hb0]
        clear hb0
        have HE := Lib.hid (show syncB ki 31 a b x = false from (show syncB ki 31 a b x = (objB ki a 2 && ((b == 0) && (x == 0))) from rfl).trans (by simp only [h1.out, f1, Bool.true_and, Bool.false_and, Bool.and_false, Bool.and_true]))
        go_wp2_with fail
        refine (OA.out _ (FR.out.es RX.out) (FR.out.es RY.out) (FR.out.es RZ.out)).mono ?_
        rintro e w3 ⟨rfl, hb⟩
        clear c00 c01 c02 c03 c04 c05 c10 c11 c12 c13
        replace FR := Lib.hid (FR.out.step hb)
        clear hb
        have c00 : w3.cell? ⟨q, 0, none⟩ = some (.slice A n c) := FR.out.cell 0 0 rfl rfl rfl
        have c01 : w3.cell? ⟨q, 1, none⟩ = some (.slice B m d) := FR.out.cell 0 1 rfl rfl rfl
        have c02 : w3.cell? ⟨q, 2, none⟩ = some (.slice C k f) := FR.out.cell 0 2 rfl rfl rfl
        have c03 : w3.cell? ⟨q, 3, none⟩ = some (.int .i64 ce) := FR.out.cell 0 3 rfl rfl rfl
        have c04 : w3.cell? ⟨q, 4, none⟩ = some (.int .i64 re) := FR.out.cell 0 4 rfl rfl rfl
        have c05 : w3.cell? ⟨q, 5, none⟩ = some (.int .i64 pa) := FR.out.cell 0 5 rfl rfl rfl
        have c10 : w3.cell? ⟨q + 1, 0, none⟩ = some (.int .i64 31) := FR.out.cell 1 0 rfl rfl rfl
        have c11 : w3.cell? ⟨q + 1, 1, none⟩ = some (.int .i64 a) := FR.out.cell 1 1 rfl rfl rfl
        have c12 : w3.cell? ⟨q + 1, 2, none⟩ = some (.int .i64 b) := FR.out.cell 1 2 rfl rfl rfl
        have c13 : w3.cell? ⟨q + 1, 3, none⟩ = some (.int .i64 x) := FR.out.cell 1 3 rfl rfl rfl
        go_wp2
        go_ret
        rw [HE.out]
        exact ⟨rfl, FR.out.out⟩
  have hn31 : (o == 31) = false := by simpa using ho31
  replace ho31 := Lib.hid ho31
  by_cases ho32 : o = 32
  · subst ho32
    have OA := fun W h1 h2 h3 => OB.out W h1 h2 h3 a 3
    cases h1 : objB ki a 3
    · rw [h1] at OA
      replace OA := Lib.hid OA
      have HE := Lib.hid (show syncB ki 32 a b x = false from (show syncB ki 32 a b x = (objB ki a 3 && (inB b 4 && (x == 0))) from rfl).trans (by simp only [h1, Bool.true_and, Bool.false_and, Bool.and_false, Bool.and_true]))
      clear h1
      go_wp2_with fail
      refine (OA.out _ (FR.out.es RX.out) (FR.out.es RY.out) (FR.out.es RZ.out)).mono ?_
      rintro e w3 ⟨rfl, hb⟩
      clear c00 c01 c02 c03 c04 c05 c10 c11 c12 c13
      replace FR := Lib.hid (FR.out.step hb)
      clear hb
      have c00 : w3.cell? ⟨q, 0, none⟩ = some (.slice A n c) := FR.out.cell 0 0 rfl rfl rfl
      have c01 : w3.cell? ⟨q, 1, none⟩ = some (.slice B m d) := FR.out.cell 0 1 rfl rfl rfl
      have c02 : w3.cell? ⟨q, 2, none⟩ = some (.slice C k f) := FR.out.cell 0 2 rfl rfl rfl
      have c03 : w3.cell? ⟨q, 3, none⟩ = some (.int .i64 ce) := FR.out.cell 0 3 rfl rfl rfl
      have c04 : w3.cell? ⟨q, 4, none⟩ = some (.int .i64 re) := FR.out.cell 0 4 rfl rfl rfl
      have c05 : w3.cell? ⟨q, 5, none⟩ = some (.int .i64 pa) := FR.out.cell 0 5 rfl rfl rfl
      have c10 : w3.cell? ⟨q + 1, 0, none⟩ = some (.int .i64 32) := FR.out.cell 1 0 rfl rfl rfl
      have c11 : w3.cell? ⟨q + 1, 1, none⟩ = some (.int .i64 a) := FR.out.cell 1 1 rfl rfl rfl
      have c12 : w3.cell? ⟨q + 1, 2, none⟩ = some (.int .i64 b) := FR.out.cell 1 2 rfl rfl rfl
      have c13 : w3.cell? ⟨q + 1, 3, none⟩ = some (.int .i64 x) := FR.out.cell 1 3 rfl rfl rfl
      go_wp2
      go_ret
      rw [HE.out]
      exact ⟨rfl, FR.out.out⟩
    · rw [h1] at OA
      replace OA := Lib.hid OA
      replace h1 := Lib.hid h1
      have IB := fun (W : World) => refIn_any b 4 W
      cases h2 : inB b 4
      · rw [h2] at IB
        replace IB := Lib.hid IB
        have HE := Lib.hid (show syncB ki 32 a b x = false from (show syncB ki 32 a b x = (objB ki a 3 && (inB b 4 && (x == 0))) from rfl).trans (by simp only [h1.out, h2, Bool.true_and, Bool.false_and, Bool.and_false, Bool.and_true]))
        clear h2
        go_wp2_with fail
        refine (OA.out _ (FR.out.es RX.out) (FR.out.es RY.out) (FR.out.es RZ.out)).mono ?_
        rintro e w3 ⟨rfl, hb⟩
        clear c00 c01 c02 c03 c04 c05 c10 c11 c12 c13
        replace FR := Lib.hid (FR.out.step hb)
        clear hb
        have c00 : w3.cell? ⟨q, 0, none⟩ = some (.slice A n c) := FR.out.cell 0 0 rfl rfl rfl
        have c01 : w3.cell? ⟨q, 1, none⟩ = some (.slice B m d) := FR.out.cell 0 1 rfl rfl rfl
        have c02 : w3.cell? ⟨q, 2, none⟩ = some (.slice C k f) := FR.out.cell 0 2 rfl rfl rfl
        have c03 : w3.cell? ⟨q, 3, none⟩ = some (.int .i64 ce) := FR.out.cell 0 3 rfl rfl rfl
        have c04 : w3.cell? ⟨q, 4, none⟩ = some (.int .i64 re) := FR.out.cell 0 4 rfl rfl rfl
        have c05 : w3.cell? ⟨q, 5, none⟩ = some (.int .i64 pa) := FR.out.cell 0 5 rfl rfl rfl
        have c10 : w3.cell? ⟨q + 1, 0, none⟩ = some (.int .i64 32) := FR.out.cell 1 0 rfl rfl rfl
        have c11 : w3.cell? ⟨q + 1, 1, none⟩ = some (.int .i64 a) := FR.out.cell 1 1 rfl rfl rfl
        have c12 : w3.cell? ⟨q + 1, 2, none⟩ = some (.int .i64 b) := FR.out.cell 1 2 rfl rfl rfl
        have c13 : w3.cell? ⟨q + 1, 3, none⟩ = some (.int .i64 x) := FR.out.cell 1 3 rfl rfl rfl
        go_wp2_with fail
        refine (IB.out _).mono ?_
        rintro e wq ⟨rfl, rfl⟩
        go_wp2
        go_ret
        rw [HE.out]
        exact ⟨rfl, FR.out.out⟩
      · rw [h2] at IB
        replace IB := Lib.hid IB
        have HE := Lib.hid (show syncB ki 32 a b x = (x == 0) from (show syncB ki 32 a b x = (objB ki a 3 && (inB b 4 && (x == 0))) from rfl).trans (by simp only [h1.out, h2, Bool.true_and, Bool.false_and, Bool.and_false, Bool.and_true]))
        clear h2
        go_wp2_with fail
        refine (OA.out _ (FR.out.es RX.out) (FR.out.es RY.out) (FR.out.es RZ.out)).mono ?_
        rintro e w3 ⟨rfl, hb⟩
        clear c00 c01 c02 c03 c04 c05 c10 c11 c12 c13
        replace FR := Lib.hid (FR.out.step hb)
        clear hb
        have c00 : w3.cell? ⟨q, 0, none⟩ = some (.slice A n c) := FR.out.cell 0 0 rfl rfl rfl
        have c01 : w3.cell? ⟨q, 1, none⟩ = some (.slice B m d) := FR.out.cell 0 1 rfl rfl rfl
        have c02 : w3.cell? ⟨q, 2, none⟩ = some (.slice C k f) := FR.out.cell 0 2 rfl rfl rfl
        have c03 : w3.cell? ⟨q, 3, none⟩ = some (.int .i64 ce) := FR.out.cell 0 3 rfl rfl rfl
        have c04 : w3.cell? ⟨q, 4, none⟩ = some (.int .i64 re) := FR.out.cell 0 4 rfl rfl rfl
        have c05 : w3.cell? ⟨q, 5, none⟩ = some (.int .i64 pa) := FR.out.cell 0 5 rfl rfl rfl
        have c10 : w3.cell? ⟨q + 1, 0, none⟩ = some (.int .i64 32) := FR.out.cell 1 0 rfl rfl rfl
        have c11 : w3.cell? ⟨q + 1, 1, none⟩ = some (.int .i64 a) := FR.out.cell 1 1 rfl rfl rfl
        have c12 : w3.cell? ⟨q + 1, 2, none⟩ = some (.int .i64 b) := FR.out.cell 1 2 rfl rfl rfl
        have c13 : w3.cell? ⟨q + 1, 3, none⟩ = some (.int .i64 x) := FR.out.cell 1 3 rfl rfl rfl
        go_wp2_with fail
        refine (IB.out _).mono ?_
        rintro e wq ⟨rfl, rfl⟩
        go_wp2
        go_ret
        rw [HE.out]
        exact ⟨rfl, FR.out.out⟩
  have hn32 : (o == 32) = false := by simpa using ho32
  replace ho32 := Lib.hid ho32
  by_cases ho33 : o = 33
  · subst ho33
    have OA := fun W h1 h2 h3 => OB.out W h1 h2 h3 a 3
    cases h1 : objB ki a 3
    · rw [h1] at OA
      replace OA := Lib.hid OA
      have HE := Lib.hid (show syncB ki 33 a b x = false from (show syncB ki 33 a b x = (objB ki a 3 && ((b == 0) && (x == 0))) from rfl).trans (by simp only [h1, Bool.true_and, Bool.false_and, Bool.and_false, Bool.and_true]))
      clear h1
      go_wp2_with fail
      refine (OA.out _ (FR.out.es RX.out) (FR.out.es RY.out) (FR.out.es RZ.out)).mono ?_
      rintro e w3 ⟨rfl, hb⟩
      clear c00 c01 c02 c03 c04 c05 c10 c11 c12 c13
      replace FR := Lib.hid (FR.out.step hb)
      clear hb
      have c00 : w3.cell? ⟨q, 0, none⟩ = some (.slice A n c) := FR.out.cell 0 0 rfl rfl rfl
      have c01 : w3.cell? ⟨q, 1, none⟩ = some (.slice B m d) := FR.out.cell 0 1 rfl rfl rfl
      have c02 : w3.cell? ⟨q, 2, none⟩ = some (.slice C k f) := FR.out.cell 0 2 rfl rfl rfl
      have c03 : w3.cell? ⟨q, 3, none⟩ = some (.int .i64 ce) := FR.out.cell 0 3 rfl rfl rfl
      have c04 : w3.cell? ⟨q, 4, none⟩ = some (.int .i64 re) := FR.out.cell 0 4 rfl rfl rfl
      have c05 : w3.cell? ⟨q, 5, none⟩ = some (.int .i64 pa) := FR.out.cell 0 5 rfl rfl rfl
      have c10 : w3.cell? ⟨q + 1, 0, none⟩ = some (.int .i64 33) := FR.out.cell 1 0 rfl rfl rfl
      have c11 : w3.cell? ⟨q + 1, 1, none⟩ = some (.int .i64 a) := FR.out.cell 1 1 rfl rfl rfl
      have c12 : w3.cell? ⟨q + 1, 2, none⟩ = some (.int .i64 b) := FR.out.cell 1 2 rfl rfl rfl
      have c13 : w3.cell? ⟨q + 1, 3, none⟩ = some (.int .i64 x) := FR.out.cell 1 3 rfl rfl rfl
      go_wp2
      go_ret
      rw [HE.out]
      exact ⟨rfl, FR.out.out⟩
    · rw [h1] at OA
      replace OA := Lib.hid OA
      replace h1 := Lib.hid h1
      by_cases hb0 : b = 0
      · have f1 : (b == 0) = true := by simp [hb0]
        clear hb0
        have HE := Lib.hid (show syncB ki 33 a b x = (x == 0) from (show syncB ki 33 a b x = (objB ki a 3 && ((b == 0) && (x == 0))) from rfl).trans (by simp only [h1.out, f1, Bool.true_and, Bool.false_and, Bool.and_false, Bool.and_true]))
        go_wp2_with fail
        refine (OA.out _ (FR.out.es RX.out) (FR.out.es RY.out) (FR.out.es RZ.out)).mono ?_
        rintro e w3 ⟨rfl, hb⟩
        clear c00 c01 c02 c03 c04 c05 c10 c11 c12 c13
        replace FR := Lib.hid (FR.out.step hb)
        clear hb
        have c00 : w3.cell? ⟨q, 0, none⟩ = some (.slice A n c) := FR.out.cell 0 0 rfl rfl rfl
        have c01 : w3.cell? ⟨q, 1, none⟩ = some (.slice B m d) := FR.out.cell 0 1 rfl rfl rfl
        have c02 : w3.cell? ⟨q, 2, none⟩ = some (.slice C k f) := FR.out.cell 0 2 rfl rfl rfl
        have c03 : w3.cell? ⟨q, 3, none⟩ = some (.int .i64 ce) := FR.out.cell 0 3 rfl rfl rfl
        have c04 : w3.cell? ⟨q, 4, none⟩ = some (.int .i64 re) := FR.out.cell 0 4 rfl rfl rfl
        have c05 : w3.cell? ⟨q, 5, none⟩ = some (.int .i64 pa) := FR.out.cell 0 5 rfl rfl rfl
        have c10 : w3.cell? ⟨q + 1, 0, none⟩ = some (.int .i64 33) := FR.out.cell 1 0 rfl rfl rfl
        have c11 : w3.cell? ⟨q + 1, 1, none⟩ = some (.int .i64 a) := FR.out.cell 1 1 rfl rfl rfl
        have c12 : w3.cell? ⟨q + 1, 2, none⟩ = some (.int .i64 b) := FR.out.cell 1 2 rfl rfl rfl
        have c13 : w3.cell? ⟨q + 1, 3, none⟩ = some (.int .i64 x) := FR.out.cell 1 3 rfl rfl rfl
        go_wp2
        go_ret
        rw [HE.out]
        exact ⟨rfl, FR.out.out⟩
      · have f1 : (b == 0) = false := by simp [hb0]
        clear hb0
        have HE := Lib.hid (show syncB ki 33 a b x = false from (show syncB ki 33 a b x = (objB ki a 3 && ((b == 0) && (x == 0))) from rfl).trans (by simp only [h1.out, f1, Bool.true_and, Bool.false_and, Bool.and_false, Bool.and_true]))
        go_wp2_with fail
        refine (OA.out _ (FR.out.es RX.out) (FR.out.es RY.out) (FR.out.es RZ.out)).mono ?_
        rintro e w3 ⟨rfl, hb⟩
        clear c00 c01 c02 c03 c04 c05 c10 c11 c12 c13
        replace FR := Lib.hid (FR.out.step hb)
        clear hb
        have c00 : w3.cell? ⟨q, 0, none⟩ = some (.slice A n c) := FR.out.cell 0 0 rfl rfl rfl
        have c01 : w3.cell? ⟨q, 1, none⟩ = some (.slice B m d) := FR.out.cell 0 1 rfl rfl rfl
        have c02 : w3.cell? ⟨q, 2, none⟩ = some (.slice C k f) := FR.out.cell 0 2 rfl rfl rfl
        have c03 : w3.cell? ⟨q, 3, none⟩ = some (.int .i64 ce) := FR.out.cell 0 3 rfl rfl rfl
        have c04 : w3.cell? ⟨q, 4, none⟩ = some (.int .i64 re) := FR.out.cell 0 4 rfl rfl rfl
        have c05 : w3.cell? ⟨q, 5, none⟩ = some (.int .i64 pa) := FR.out.cell 0 5 rfl rfl rfl
        have c10 : w3.cell? ⟨q + 1, 0, none⟩ = some (.int .i64 33) := FR.out.cell 1 0 rfl rfl rfl
        have c11 : w3.cell? ⟨q + 1, 1, none⟩ = some (.int .i64 a) := FR.out.cell 1 1 rfl rfl rfl
        have c12 : w3.cell? ⟨q + 1, 2, none⟩ = some (.int .i64 b) := FR.out.cell 1 2 rfl rfl rfl
        have c13 : w3.cell? ⟨q + 1, 3, none⟩ = some (.int .i64 x) := FR.out.cell 1 3 rfl rfl rfl
        go_wp2
        go_ret
        rw [HE.out]
        exact ⟨rfl, FR.out.out⟩
  have hn33 : (o == 33) = false := by simpa using ho33
  replace ho33 := Lib.hid ho33
  by_cases ho34 : o = 34
  · subst ho34
    have OA := fun W h1 h2 h3 => OB.out W h1 h2 h3 a 4
    cases h1 : objB ki a 4
    · rw [h1] at OA
      replace OA := Lib.hid OA
      have HE := Lib.hid (show syncB ki 34 a b x = false from (show syncB ki 34 a b x = (objB ki a 4 && (inB b 4 && (x == 0))) from rfl).trans (by simp only [h1, Bool.true_and, Bool.false_and, Bool.and_false, Bool.and_true]))
      clear h1
      go_wp2_with fail
      refine (OA.out _ (FR.out.es RX.out) (FR.out.es RY.out) (FR.out.es RZ.out)).mono ?_
      rintro e w3 ⟨rfl, hb⟩
      clear c00 c01 c02 c03 c04 c05 c10 c11 c12 c13
      replace FR := Lib.hid (FR.out.step hb)
      clear hb
      have c00 : w3.cell? ⟨q, 0, none⟩ = some (.slice A n c) := FR.out.cell 0 0 rfl rfl rfl
      have c01 : w3.cell? ⟨q, 1, none⟩ = some (.slice B m d) := FR.out.cell 0 1 rfl rfl rfl
      have c02 : w3.cell? ⟨q, 2, none⟩ = some (.slice C k f) := FR.out.cell 0 2 rfl rfl rfl
      have c03 : w3.cell? ⟨q, 3, none⟩ = some (.int .i64 ce) := FR.out.cell 0 3 rfl rfl rfl
      have c04 : w3.cell? ⟨q, 4, none⟩ = some (.int .i64 re) := FR.out.cell 0 4 rfl rfl rfl
      have c05 : w3.cell? ⟨q, 5, none⟩ = some (.int .i64 pa) := FR.out.cell 0 5 rfl rfl rfl
      have c10 : w3.cell? ⟨q + 1, 0, none⟩ = some (.int .i64 34) := FR.out.cell 1 0 rfl rfl rfl
      have c11 : w3.cell? ⟨q + 1, 1, none⟩ = some (.int .i64 a) := FR.out.cell 1 1 rfl rfl rfl
      have c12 : w3.cell? ⟨q + 1, 2, none⟩ = some (.int .i64 b) := FR.out.cell 1 2 rfl rfl rfl
      have c13 : w3.cell? ⟨q + 1, 3, none⟩ = some (.int .i64 x) := FR.out.cell 1 3 rfl rfl rfl
      go_wp2
      go_ret
      rw [HE.out]
      exact ⟨rfl, FR.out.out⟩
    · rw [h1] at OA
      replace OA := Lib.hid OA
      replace h1 := Lib.hid h1
      have IB := fun (W : World) => refIn_any b 4 W
      cases h2 : inB b 4
      · rw [h2] at IB
        replace IB := Lib.hid IB
        have HE := Lib.hid (show syncB ki 34 a b x = false from (show syncB ki 34 a b x = (objB ki a 4 && (inB b 4 && (x == 0))) from rfl).trans (by simp only [h1.out, h2, Bool.true_and, Bool.false_and, Bool.and_false, Bool.and_true]))
        clear h2
        go_wp2_with fail
        refine (OA.out _ (FR.out.es RX.out) (FR.out.es RY.out) (FR.out.es RZ.out)).mono ?_
        rintro e w3 ⟨rfl, hb⟩
        clear c00 c01 c02 c03 c04 c05 c10 c11 c12 c13
        replace FR := Lib.hid (FR.out.step hb)
        clear hb
        have c00 : w3.cell? ⟨q, 0, none⟩ = some (.slice A n c) := FR.out.cell 0 0 rfl rfl rfl
        have c01 : w3.cell? ⟨q, 1, none⟩ = some (.slice B m d) := FR.out.cell 0 1 rfl rfl rfl
        have c02 : w3.cell? ⟨q, 2, none⟩ = some (.slice C k f) := FR.out.cell 0 2 rfl rfl rfl
        have c03 : w3.cell? ⟨q, 3, none⟩ = some (.int .i64 ce) := FR.out.cell 0 3 rfl rfl rfl
        have c04 : w3.cell? ⟨q, 4, none⟩ = some (.int .i64 re) := FR.out.cell 0 4 rfl rfl rfl
        have c05 : w3.cell? ⟨q, 5, none⟩ = some (.int .i64 pa) := FR.out.cell 0 5 rfl rfl rfl
        have c10 : w3.cell? ⟨q + 1, 0, none⟩ = some (.int .i64 34) := FR.out.cell 1 0 rfl rfl rfl
        have c11 : w3.cell? ⟨q + 1, 1, none⟩ = some (.int .i64 a) := FR.out.cell 1 1 rfl rfl rfl
        have c12 : w3.cell? ⟨q + 1, 2, none⟩ = some (.int .i64 b) := FR.out.cell 1 2 rfl rfl rfl
        have c13 : w3.cell? ⟨q + 1, 3, none⟩ = some (.int .i64 x) := FR.out.cell 1 3 rfl rfl rfl
        go_wp2_with fail
        refine (IB.out _).mono ?_
        rintro e wq ⟨rfl, rfl⟩
        go_wp2
        go_ret
        rw [HE.out]
        exact ⟨rfl, FR.out.out⟩
      · rw [h2] at IB
        replace IB := Lib.hid IB
        have HE := Lib.hid (show syncB ki 34 a b x = (x == 0) from (show syncB ki 34 a b x = (objB ki a 4 && (inB b 4 && (x == 0))) from rfl).trans (by simp only [h1.out, h2, Bool.true_and, Bool.false_and, Bool.and_false, Bool.and_true]))
        clear h2
        go_wp2_with fail
        refine (OA.out _ (FR.out.es RX.out) (FR.out.es RY.out) (FR.out.es RZ.out)).mono ?_
        rintro e w3 ⟨rfl, hb⟩
        clear c00 c01 c02 c03 c04 c05 c10 c11 c12 c13
        replace FR := Lib.hid (FR.out.step hb)
        clear hb
        have c00 : w3.cell? ⟨q, 0, none⟩ = some (.slice A n c) := FR.out.cell 0 0 rfl rfl rfl
        have c01 : w3.cell? ⟨q, 1, none⟩ = some (.slice B m d) := FR.out.cell 0 1 rfl rfl rfl
        have c02 : w3.cell? ⟨q, 2, none⟩ = some (.slice C k f) := FR.out.cell 0 2 rfl rfl rfl
        have c03 : w3.cell? ⟨q, 3, none⟩ = some (.int .i64 ce) := FR.out.cell 0 3 rfl rfl rfl
        have c04 : w3.cell? ⟨q, 4, none⟩ = some (.int .i64 re) := FR.out.cell 0 4 rfl rfl rfl
        have c05 : w3.cell? ⟨q, 5, none⟩ = some (.int .i64 pa) := FR.out.cell 0 5 rfl rfl rfl
        have c10 : w3.cell? ⟨q + 1, 0, none⟩ = some (.int .i64 34) := FR.out.cell 1 0 rfl rfl rfl
        have c11 : w3.cell? ⟨q + 1, 1, none⟩ = some (.int .i64 a) := FR.out.cell 1 1 rfl rfl rfl
        have c12 : w3.cell? ⟨q + 1, 2, none⟩ = some (.int .i64 b) := FR.out.cell 1 2 rfl rfl rfl
        have c13 : w3.cell? ⟨q + 1, 3, none⟩ = some (.int .i64 x) := FR.out.cell 1 3 rfl rfl rfl
        go_wp2_with fail
        refine (IB.out _).mono ?_
        rintro e wq ⟨rfl, rfl⟩
        go_wp2
        go_ret
        rw [HE.out]
        exact ⟨rfl, FR.out.out⟩
  have hn34 : (o == 34) = false := by simpa using ho34
  replace ho34 := Lib.hid ho34
  by_cases ho35 : o = 35
  · subst ho35
    have OA := fun W h1 h2 h3 => OB.out W h1 h2 h3 a 4
    cases h1 : objB ki a 4
    · rw [h1] at OA
      replace OA := Lib.hid OA
      have HE := Lib.hid (show syncB ki 35 a b x = false from (show syncB ki 35 a b x = (objB ki a 4 && ((b == 0) && (x == 0))) from rfl).trans (by simp only [h1, Bool.true_and, Bool.false_and, Bool.and_false, Bool.and_true]))
      clear h1
      go_wp2_with fail
      refine (OA.out _ (FR.out.es RX.out) (FR.out.es RY.out) (FR.out.es RZ.out)).mono ?_
      rintro e w3 ⟨rfl, hb⟩
      clear c00 c01 c02 c03 c04 c05 c10 c11 c12 c13
      replace FR := Lib.hid (FR.out.step hb)
      clear hb
      have c00 : w3.cell? ⟨q, 0, none⟩ = some (.slice A n c) := FR.out.cell 0 0 rfl rfl rfl
      have c01 : w3.cell? ⟨q, 1, none⟩ = some (.slice B m d) := FR.out.cell 0 1 rfl rfl rfl
      have c02 : w3.cell? ⟨q, 2, none⟩ = some (.slice C k f) := FR.out.cell 0 2 rfl rfl rfl
      have c03 : w3.cell? ⟨q, 3, none⟩ = some (.int .i64 ce) := FR.out.cell 0 3 rfl rfl rfl
      have c04 : w3.cell? ⟨q, 4, none⟩ = some (.int .i64 re) := FR.out.cell 0 4 rfl rfl rfl
      have c05 : w3.cell? ⟨q, 5, none⟩ = some (.int .i64 pa) := FR.out.cell 0 5 rfl rfl rfl
      have c10 : w3.cell? ⟨q + 1, 0, none⟩ = some (.int .i64 35) := FR.out.cell 1 0 rfl rfl rfl
      have c11 : w3.cell? ⟨q + 1, 1, none⟩ = some (.int .i64 a) := FR.out.cell 1 1 rfl rfl rfl
      have c12 : w3.cell? ⟨q + 1, 2, none⟩ = some (.int .i64 b) := FR.out.cell 1 2 rfl rfl rfl
      have c13 : w3.cell? ⟨q + 1, 3, none⟩ = some (.int .i64 x) := FR.out.cell 1 3 rfl rfl rfl
      go_wp2
      go_ret
      rw [HE.out]
      exact ⟨rfl, FR.out.out⟩
    · rw [h1] at OA
      replace OA := Lib.hid OA
      replace h1 := Lib.hid h1
      by_cases hb0 : b = 0
      · have f1 : (b == 0) = true := by simp [hb0]
        clear hb0
        have HE := Lib.hid (show syncB ki 35 a b x = (x == 0) from (show syncB ki 35 a b x = (objB ki a 4 && ((b == 0) && (x == 0))) from rfl).trans (by simp only [h1.out, f1, Bool.true_and, Bool.false_and, Bool.and_false, Bool.and_true]))
        go_wp2_with fail
        refine (OA.out _ (FR.out.es RX.out) (FR.out.es RY.out) (FR.out.es RZ.out)).mono ?_
        rintro e w3 ⟨rfl, hb⟩
        clear c00 c01 c02 c03 c04 c05 c10 c11 c12 c13
        replace FR := Lib.hid (FR.out.step hb)
        clear hb
        have c00 : w3.cell? ⟨q, 0, none⟩ = some (.slice A n c) := FR.out.cell 0 0 rfl rfl rfl
        have c01 : w3.cell? ⟨q, 1, none⟩ = some (.slice B m d) := FR.out.cell 0 1 rfl rfl rfl
        have c02 : w3.cell? ⟨q, 2, none⟩ = some (.slice C k f) := FR.out.cell 0 2 rfl rfl rfl
        have c03 : w3.cell? ⟨q, 3, none⟩ = some (.int .i64 ce) := FR.out.cell 0 3 rfl rfl rfl
        have c04 : w3.cell? ⟨q, 4, none⟩ = some (.int .i64 re) := FR.out.cell 0 4 rfl rfl rfl
        have c05 : w3.cell? ⟨q, 5, none⟩ = some (.int .i64 pa) := FR.out.cell 0 5 rfl rfl rfl
        have c10 : w3.cell? ⟨q + 1, 0, none⟩ = some (.int .i64 35) := FR.out.cell 1 0 rfl rfl rfl
        have c11 : w3.cell? ⟨q + 1, 1, none⟩ = some (.int .i64 a) := FR.out.cell 1 1 rfl rfl rfl
        have c12 : w3.cell? ⟨q + 1, 2, none⟩ = some (.int .i64 b) := FR.out.cell 1 2 rfl rfl rfl
        have c13 : w3.cell? ⟨q + 1, 3, none⟩ = some (.int .i64 x) := FR.out.cell 1 3 rfl rfl rfl
        go_wp2
        go_ret
        rw [HE.out]
        exact ⟨rfl, FR.out.out⟩
      · have f1 : (b == 0) = false := by simp [hb0]
        clear hb0
        have HE := Lib.hid (show syncB ki 35 a b x = false from (show syncB ki 35 a b x = (objB ki a 4 && ((b == 0) && (x == 0))) from rfl).trans (by simp only [h1.out, f1, Bool.true_and, Bool.false_and, Bool.and_false, Bool.and_true]))
        go_wp2_with fail
        refine (OA.out _ (FR.out.es RX.out) (FR.out.es RY.out) (FR.out.es RZ.out)).mono ?_
        rintro e w3 ⟨rfl, hb⟩
        clear c00 c01 c02 c03 c04 c05 c10 c11 c12 c13
        replace FR := Lib.hid (FR.out.step hb)
        clear hb
        have c00 : w3.cell? ⟨q, 0, none⟩ = some (.slice A n c) := FR.out.cell 0 0 rfl rfl rfl
        have c01 : w3.cell? ⟨q, 1, none⟩ = some (.slice B m d) := FR.out.cell 0 1 rfl rfl rfl
        have c02 : w3.cell? ⟨q, 2, none⟩ = some (.slice C k f) := FR.out.cell 0 2 rfl rfl rfl
        have c03 : w3.cell? ⟨q, 3, none⟩ = some (.int .i64 ce) := FR.out.cell 0 3 rfl rfl rfl
        have c04 : w3.cell? ⟨q, 4, none⟩ = some (.int .i64 re) := FR.out.cell 0 4 rfl rfl rfl
        have c05 : w3.cell? ⟨q, 5, none⟩ = some (.int .i64 pa) := FR.out.cell 0 5 rfl rfl rfl
        have c10 : w3.cell? ⟨q + 1, 0, none⟩ = some (.int .i64 35) := FR.out.cell 1 0 rfl rfl rfl
        have c11 : w3.cell? ⟨q + 1, 1, none⟩ = some (.int .i64 a) := FR.out.cell 1 1 rfl rfl rfl
        have c12 : w3.cell? ⟨q + 1, 2, none⟩ = some (.int .i64 b) := FR.out.cell 1 2 rfl rfl rfl
        have c13 : w3.cell? ⟨q + 1, 3, none⟩ = some (.int .i64 x) := FR.out.cell 1 3 rfl rfl rfl
        go_wp2
        go_ret
        rw [HE.out]
        exact ⟨rfl, FR.out.out⟩
  have hn35 : (o == 35) = false := by simpa using ho35
  replace ho35 := Lib.hid ho35
  by_cases ho36 : o = 36
  · subst ho36
    have OA := fun W h1 h2 h3 => OB.out W h1 h2 h3 a 5
    cases h1 : objB ki a 5
    · rw [h1] at OA
      replace OA := Lib.hid OA
      have HE := Lib.hid (show syncB ki 36 a b x = false from (show syncB ki 36 a b x = (objB ki a 5 && (objB ki b 1 && (x == 0))) from rfl).trans (by simp only [h1, Bool.true_and, Bool.false_and, Bool.and_false, Bool.and_true]))
      clear h1
      go_wp2_with fail
      refine (OA.out _ (FR.out.es RX.out) (FR.out.es RY.out) (FR.out.es RZ.out)).mono ?_
      rintro e w3 ⟨rfl, hb⟩
      clear c00 c01 c02 c03 c04 c05 c10 c11 c12 c13
      replace FR := Lib.hid (FR.out.step hb)
      clear hb
      have c00 : w3.cell? ⟨q, 0, none⟩ = some (.slice A n c) := FR.out.cell 0 0 rfl rfl rfl
      have c01 : w3.cell? ⟨q, 1, none⟩ = some (.slice B m d) := FR.out.cell 0 1 rfl rfl rfl
      have c02 : w3.cell? ⟨q, 2, none⟩ = some (.slice C k f) := FR.out.cell 0 2 rfl rfl rfl
      have c03 : w3.cell? ⟨q, 3, none⟩ = some (.int .i64 ce) := FR.out.cell 0 3 rfl rfl rfl
      have c04 : w3.cell? ⟨q, 4, none⟩ = some (.int .i64 re) := FR.out.cell 0 4 rfl rfl rfl
      have c05 : w3.cell? ⟨q, 5, none⟩ = some (.int .i64 pa) := FR.out.cell 0 5 rfl rfl rfl
      have c10 : w3.cell? ⟨q + 1, 0, none⟩ = some (.int .i64 36) := FR.out.cell 1 0 rfl rfl rfl
      have c11 : w3.cell? ⟨q + 1, 1, none⟩ = some (.int .i64 a) := FR.out.cell 1 1 rfl rfl rfl
      have c12 : w3.cell? ⟨q + 1, 2, none⟩ = some (.int .i64 b) := FR.out.cell 1 2 rfl rfl rfl
      have c13 : w3.cell? ⟨q + 1, 3, none⟩ = some (.int .i64 x) := FR.out.cell 1 3 rfl rfl rfl
      go_wp2
      go_ret
      rw [HE.out]
      exact ⟨rfl, FR.out.out⟩
    · rw [h1] at OA
      replace OA := Lib.hid OA
      replace h1 := Lib.hid h1
      have OC := fun W h1 h2 h3 => OB.out W h1 h2 h3 b 1
      cases h2 : objB ki b 1
      · rw [h2] at OC
        replace OC := Lib.hid OC
        have HE := Lib.hid (show syncB ki 36 a b x = false from (show syncB ki 36 a b x = (objB ki a 5 && (objB ki b 1 && (x == 0))) from rfl).trans (by simp only [h1.out, h2, Bool.true_and, Bool.false_and, Bool.and_false, Bool.and_true]))
        clear h2
        go_wp2_with fail
        refine (OA.out _ (FR.out.es RX.out) (FR.out.es RY.out) (FR.out.es RZ.out)).mono ?_
        rintro e w3 ⟨rfl, hb⟩
        clear c00 c01 c02 c03 c04 c05 c10 c11 c12 c13
        replace FR := Lib.hid (FR.out.step hb)
        clear hb
        have c00 : w3.cell? ⟨q, 0, none⟩ = some (.slice A n c) := FR.out.cell 0 0 rfl rfl rfl
        have c01 : w3.cell? ⟨q, 1, none⟩ = some (.slice B m d) := FR.out.cell 0 1 rfl rfl rfl
        have c02 : w3.cell? ⟨q, 2, none⟩ = some (.slice C k f) := FR.out.cell 0 2 rfl rfl rfl
        have c03 : w3.cell? ⟨q, 3, none⟩ = some (.int .i64 ce) := FR.out.cell 0 3 rfl rfl rfl
        have c04 : w3.cell? ⟨q, 4, none⟩ = some (.int .i64 re) := FR.out.cell 0 4 rfl rfl rfl
        have c05 : w3.cell? ⟨q, 5, none⟩ = some (.int .i64 pa) := FR.out.cell 0 5 rfl rfl rfl
        have c10 : w3.cell? ⟨q + 1, 0, none⟩ = some (.int .i64 36) := FR.out.cell 1 0 rfl rfl rfl
        have c11 : w3.cell? ⟨q + 1, 1, none⟩ = some (.int .i64 a) := FR.out.cell 1 1 rfl rfl rfl
        have c12 : w3.cell? ⟨q + 1, 2, none⟩ = some (.int .i64 b) := FR.out.cell 1 2 rfl rfl rfl
        have c13 : w3.cell? ⟨q + 1, 3, none⟩ = some (.int .i64 x) := FR.out.cell 1 3 rfl rfl rfl
        go_wp2_with fail
        refine (OC.out _ (FR.out.es RX.out) (FR.out.es RY.out) (FR.out.es RZ.out)).mono ?_
        rintro e w4 ⟨rfl, hb⟩
        clear c00 c01 c02 c03 c04 c05 c10 c11 c12 c13
        replace FR := Lib.hid (FR.out.step hb)
        clear hb
        have c00 : w4.cell? ⟨q, 0, none⟩ = some (.slice A n c) := FR.out.cell 0 0 rfl rfl rfl
        have c01 : w4.cell? ⟨q, 1, none⟩ = some (.slice B m d) := FR.out.cell 0 1 rfl rfl rfl
        have c02 : w4.cell? ⟨q, 2, none⟩ = some (.slice C k f) := FR.out.cell 0 2 rfl rfl rfl
        have c03 : w4.cell? ⟨q, 3, none⟩ = some (.int .i64 ce) := FR.out.cell 0 3 rfl rfl rfl
        have c04 : w4.cell? ⟨q, 4, none⟩ = some (.int .i64 re) := FR.out.cell 0 4 rfl rfl rfl
        have c05 : w4.cell? ⟨q, 5, none⟩ = some (.int .i64 pa) := FR.out.cell 0 5 rfl rfl rfl
        have c10 : w4.cell? ⟨q + 1, 0, none⟩ = some (.int .i64 36) := FR.out.cell 1 0 rfl rfl rfl
        have c11 : w4.cell? ⟨q + 1, 1, none⟩ = some (.int .i64 a) := FR.out.cell 1 1 rfl rfl rfl
        have c12 : w4.cell? ⟨q + 1, 2, none⟩ = some (.int .i64 b) := FR.out.cell 1 2 rfl rfl rfl
        have c13 : w4.cell? ⟨q + 1, 3, none⟩ = some (.int .i64 x) := FR.out.cell 1 3 rfl rfl rfl
        go_wp2
        go_ret
        rw [HE.out]
        exact ⟨rfl, FR.out.out⟩
      · rw [h2] at OC
        replace OC := Lib.hid OC
        have HE := Lib.hid (show syncB ki 36 a b x = (x == 0) from (show syncB ki 36 a b x = (objB ki a 5 && (objB ki b 1 && (x == 0))) from rfl).trans (by simp only [h1.out, h2, Bool.true_and, Bool.false_and, Bool.and_false, Bool.and_true]))
        clear h2
        go_wp2_with fail
        refine (OA.out _ (FR.out.es RX.out) (FR.out.es RY.out) (FR.out.es RZ.out)).mono ?_
        rintro e w3 ⟨rfl, hb⟩
        clear c00 c01 c02 c03 c04 c05 c10 c11 c12 c13
        replace FR := Lib.hid (FR.out.step hb)
        clear hb
        have c00 : w3.cell? ⟨q, 0, none⟩ = some (.slice A n c) := FR.out.cell 0 0 rfl rfl rfl
        have c01 : w3.cell? ⟨q, 1, none⟩ = some (.slice B m d) := FR.out.cell 0 1 rfl rfl rfl
        have c02 : w3.cell? ⟨q, 2, none⟩ = some (.slice C k f) := FR.out.cell 0 2 rfl rfl rfl
        have c03 : w3.cell? ⟨q, 3, none⟩ = some (.int .i64 ce) := FR.out.cell 0 3 rfl rfl rfl
        have c04 : w3.cell? ⟨q, 4, none⟩ = some (.int .i64 re) := FR.out.cell 0 4 rfl rfl rfl
        have c05 : w3.cell? ⟨q, 5, none⟩ = some (.int .i64 pa) := FR.out.cell 0 5 rfl rfl rfl
        have c10 : w3.cell? ⟨q + 1, 0, none⟩ = some (.int .i64 36) := FR.out.cell 1 0 rfl rfl rfl
        have c11 : w3.cell? ⟨q + 1, 1, none⟩ = some (.int .i64 a) := FR.out.cell 1 1 rfl rfl rfl
        have c12 : w3.cell? ⟨q + 1, 2, none⟩ = some (.int .i64 b) := FR.out.cell 1 2 rfl rfl rfl
        have c13 : w3.cell? ⟨q + 1, 3, none⟩ = some (.int .i64 x) := FR.out.cell 1 3 rfl rfl rfl
        go_wp2_with fail
        refine (OC.out _ (FR.out.es RX.out) (FR.out.es RY.out) (FR.out.es RZ.out)).mono ?_
        rintro e w4 ⟨rfl, hb⟩
        clear c00 c01 c02 c03 c04 c05 c10 c11 c12 c13
        replace FR := Lib.hid (FR.out.step hb)
        clear hb
        have c00 : w4.cell? ⟨q, 0, none⟩ = some (.slice A n c) := FR.out.cell 0 0 rfl rfl rfl
        have c01 : w4.cell? ⟨q, 1, none⟩ = some (.slice B m d) := FR.out.cell 0 1 rfl rfl rfl
        have c02 : w4.cell? ⟨q, 2, none⟩ = some (.slice C k f) := FR.out.cell 0 2 rfl rfl rfl
        have c03 : w4.cell? ⟨q, 3, none⟩ = some (.int .i64 ce) := FR.out.cell 0 3 rfl rfl rfl
        have c04 : w4.cell? ⟨q, 4, none⟩ = some (.int .i64 re) := FR.out.cell 0 4 rfl rfl rfl
        have c05 : w4.cell? ⟨q, 5, none⟩ = some (.int .i64 pa) := FR.out.cell 0 5 rfl rfl rfl
        have c10 : w4.cell? ⟨q + 1, 0, none⟩ = some (.int .i64 36) := FR.out.cell 1 0 rfl rfl rfl
        have c11 : w4.cell? ⟨q + 1, 1, none⟩ = some (.int .i64 a) := FR.out.cell 1 1 rfl rfl rfl
        have c12 : w4.cell? ⟨q + 1, 2, none⟩ = some (.int .i64 b) := FR.out.cell 1 2 rfl rfl rfl
        have c13 : w4.cell? ⟨q + 1, 3, none⟩ = some (.int .i64 x) := FR.out.cell 1 3 rfl rfl rfl
        go_wp2
        go_ret
        rw [HE.out]
        exact ⟨rfl, FR.out.out⟩
  have hn36 : (o == 36) = false := by simpa using ho36
  replace ho36 := Lib.hid ho36
  by_cases ho37 : o = 37
  · subst ho37
    have OA := fun W h1 h2 h3 => OB.out W h1 h2 h3 a 5
    cases h1 : objB ki a 5
    · rw [h1] at OA
      replace OA := Lib.hid OA
      have HE := Lib.hid (show syncB ki 37 a b x = false from (show syncB ki 37 a b x = (objB ki a 5 && ((b == 0) && (x == 0))) from rfl).trans (by simp only [h1, Bool.true_and, Bool.false_and, Bool.and_false, Bool.and_true]))
      clear h1
      go_wp2_with fail
      refine (OA.out _ (FR.out.es RX.out) (FR.out.es RY.out) (FR.out.es RZ.out)).mono ?_
      rintro e w3 ⟨rfl, hb⟩
      clear c00 c01 c02 c03 c04 c05 c10 c11 c12 c13
      replace FR := Lib.hid (FR.out.step hb)
      clear hb
      have c00 : w3.cell? ⟨q, 0, none⟩ = some (.slice A n c) := FR.out.cell 0 0 rfl rfl rfl
      have c01 : w3.cell? ⟨q, 1, none⟩ = some (.slice B m d) := FR.out.cell 0 1 rfl rfl rfl
      have c02 : w3.cell? ⟨q, 2, none⟩ = some (.slice C k f) := FR.out.cell 0 2 rfl rfl rfl
      have c03 : w3.cell? ⟨q, 3, none⟩ = some (.int .i64 ce) := FR.out.cell 0 3 rfl rfl rfl
      have c04 : w3.cell? ⟨q, 4, none⟩ = some (.int .i64 re) := FR.out.cell 0 4 rfl rfl rfl
      have c05 : w3.cell? ⟨q, 5, none⟩ = some (.int .i64 pa) := FR.out.cell 0 5 rfl rfl rfl
      have c10 : w3.cell? ⟨q + 1, 0, none⟩ = some (.int .i64 37) := FR.out.cell 1 0 rfl rfl rfl
      have c11 : w3.cell? ⟨q + 1, 1, none⟩ = some (.int .i64 a) := FR.out.cell 1 1 rfl rfl rfl
      have c12 : w3.cell? ⟨q + 1, 2, none⟩ = some (.int .i64 b) := FR.out.cell 1 2 rfl rfl rfl
      have c13 : w3.cell? ⟨q + 1, 3, none⟩ = some (.int .i64 x) := FR.out.cell 1 3 rfl rfl rfl
      go_wp2
      go_ret
      rw [HE.out]
      exact ⟨rfl, FR.out.out⟩
    · rw [h1] at OA
      replace OA := Lib.hid OA
      replace h1 := Lib.hid h1
      by_cases hb0 : b = 0
      · have f1 : (b == 0) = true := by simp [hb0]
        clear hb0
        have HE := Lib.hid (show syncB ki 37 a b x = (x == 0) from (show syncB ki 37 a b x = (objB ki a 5 && ((b == 0) && (x == 0))) from rfl).trans (by simp only [h1.out, f1, Bool.true_and, Bool.false_and, Bool.and_false, Bool.and_true]))
        go_wp2_with fail
        refine (OA.out _ (FR.out.es RX.out) (FR.out.es RY.out) (FR.out.es RZ.out)).mono ?_
        rintro e w3 ⟨rfl, hb⟩
        clear c00 c01 c02 c03 c04 c05 c10 c11 c12 c13
        replace FR := Lib.hid (FR.out.step hb)
        clear hb
        have c00 : w3.cell? ⟨q, 0, none⟩ = some (.slice A n c) := FR.out.cell 0 0 rfl rfl rfl
        have c01 : w3.cell? ⟨q, 1, none⟩ = some (.slice B m d) := FR.out.cell 0 1 rfl rfl rfl
        have c02 : w3.cell? ⟨q, 2, none⟩ = some (.slice C k f) := FR.out.cell 0 2 rfl rfl rfl
        have c03 : w3.cell? ⟨q, 3, none⟩ = some (.int .i64 ce) := FR.out.cell 0 3 rfl rfl rfl
        have c04 : w3.cell? ⟨q, 4, none⟩ = some (.int .i64 re) := FR.out.cell 0 4 rfl rfl rfl
        have c05 : w3.cell? ⟨q, 5, none⟩ = some (.int .i64 pa) := FR.out.cell 0 5 rfl rfl rfl
        have c10 : w3.cell? ⟨q + 1, 0, none⟩ = some (.int .i64 37) := FR.out.cell 1 0 rfl rfl rfl
        have c11 : w3.cell? ⟨q + 1, 1, none⟩ = some (.int .i64 a) := FR.out.cell 1 1 rfl rfl rfl
        have c12 : w3.cell? ⟨q + 1, 2, none⟩ = some (.int .i64 b) := FR.out.cell 1 2 rfl rfl rfl
        have c13 : w3.cell? ⟨q + 1, 3, none⟩ = some (.int .i64 x) := FR.out.cell 1 3 rfl rfl rfl
        go_wp2
        go_ret
        rw [HE.out]
        exact ⟨rfl, FR.out.out⟩
      · have f1 : (b == 0) = false := by simp [hb0]
        clear hb0
        have HE := Lib.hid (show syncB ki 37 a b x = false from (show syncB ki 37 a b x = (objB ki a 5 && ((b == 0) && (x == 0))) from rfl).trans (by simp only [h1.out, f1, Bool.true_and, Bool.false_and, Bool.and_false, Bool.and_true]))
        go_wp2_with fail
        refine (OA.out _ (FR.out.es RX.out) (FR.out.es RY.out) (FR.out.es RZ.out)).mono ?_
        rintro e w3 ⟨rfl, hb⟩
        clear c00 c01 c02 c03 c04 c05 c10 c11 c12 c13
        replace FR := Lib.hid (FR.out.step hb)
        clear hb
        have c00 : w3.cell? ⟨q, 0, none⟩ = some (.slice A n c) := FR.out.cell 0 0 rfl rfl rfl
        have c01 : w3.cell? ⟨q, 1, none⟩ = some (.slice B m d) := FR.out.cell 0 1 rfl rfl rfl
        have c02 : w3.cell? ⟨q, 2, none⟩ = some (.slice C k f) := FR.out.cell 0 2 rfl rfl rfl
        have c03 : w3.cell? ⟨q, 3, none⟩ = some (.int .i64 ce) := FR.out.cell 0 3 rfl rfl rfl
        have c04 : w3.cell? ⟨q, 4, none⟩ = some (.int .i64 re) := FR.out.cell 0 4 rfl rfl rfl
        have c05 : w3.cell? ⟨q, 5, none⟩ = some (.int .i64 pa) := FR.out.cell 0 5 rfl rfl rfl
        have c10 : w3.cell? ⟨q + 1, 0, none⟩ = some (.int .i64 37) := FR.out.cell 1 0 rfl rfl rfl
        have c11 : w3.cell? ⟨q + 1, 1, none⟩ = some (.int .i64 a) := FR.out.cell 1 1 rfl rfl rfl
        have c12 : w3.cell? ⟨q + 1, 2, none⟩ = some (.int .i64 b) := FR.out.cell 1 2 rfl rfl rfl
        have c13 : w3.cell? ⟨q + 1, 3, none⟩ = some (.int .i64 x) := FR.out.cell 1 3 rfl rfl rfl
        go_wp2
        go_ret
        rw [HE.out]
        exact ⟨rfl, FR.out.out⟩
  have hn37 : (o == 37) = false := by simpa using ho37
  replace ho37 := Lib.hid ho37
  by_cases ho38 : o = 38
  · subst ho38
    have OA := fun W h1 h2 h3 => OB.out W h1 h2 h3 a 5
    cases h1 : objB ki a 5
    · rw [h1] at OA
      replace OA := Lib.hid OA
      have HE := Lib.hid (show syncB ki 38 a b x = false from (show syncB ki 38 a b x = (objB ki a 5 && ((b == 0) && (x == 0))) from rfl).trans (by simp only [h1, Bool.true_and, Bool.false_and, Bool.and_false, Bool.and_true]))
      clear h1
      go_wp2_with fail
      refine (OA.out _ (FR.out.es RX.out) (FR.out.es RY.out) (FR.out.es RZ.out)).mono ?_
      rintro e w3 ⟨rfl, hb⟩
      clear c00 c01 c02 c03 c04 c05 c10 c11 c12 c13
      replace FR := Lib.hid (FR.out.step hb)
      clear hb
      have c00 : w3.cell? ⟨q, 0, none⟩ = some (.slice A n c) := FR.out.cell 0 0 rfl rfl rfl
      have c01 : w3.cell? ⟨q, 1, none⟩ = some (.slice B m d) := FR.out.cell 0 1 rfl rfl rfl
      have c02 : w3.cell? ⟨q, 2, none⟩ = some (.slice C k f) := FR.out.cell 0 2 rfl rfl rfl
      have c03 : w3.cell? ⟨q, 3, none⟩ = some (.int .i64 ce) := FR.out.cell 0 3 rfl rfl rfl
      have c04 : w3.cell? ⟨q, 4, none⟩ = some (.int .i64 re) := FR.out.cell 0 4 rfl rfl rfl
      have c05 : w3.cell? ⟨q, 5, none⟩ = some (.int .i64 pa) := FR.out.cell 0 5 rfl rfl rfl
      have c10 : w3.cell? ⟨q + 1, 0, none⟩ = some (.int .i64 38) := FR.out.cell 1 0 rfl rfl rfl
      have c11 : w3.cell? ⟨q + 1, 1, none⟩ = some (.int .i64 a) := FR.out.cell 1 1 rfl rfl rfl
      have c12 : w3.cell? ⟨q + 1, 2, none⟩ = some (.int .i64 b) := FR.out.cell 1 2 rfl rfl rfl
      have c13 : w3.cell? ⟨q + 1, 3, none⟩ = some (.int .i64 x) := FR.out.cell 1 3 rfl rfl rfl
      go_wp2
      go_ret
      rw [HE.out]
      exact ⟨rfl, FR.out.out⟩
    · rw [h1] at OA
      replace OA := Lib.hid OA
      replace h1 := Lib.hid h1
      by_cases hb0 : b = 0
      · have f1 : (b == 0) = true := by simp [hb0]
        clear hb0
        have HE := Lib.hid (show syncB ki 38 a b x = (x == 0) from (show syncB ki 38 a b x = (objB ki a 5 && ((b == 0) && (x == 0))) from rfl).trans (by simp only [h1.out, f1, Bool.true_and, Bool.false_and, Bool.and_false, Bool.and_true]))
        go_wp2_with fail
        refine (OA.out _ (FR.out.es RX.out) (FR.out.es RY.out) (FR.out.es RZ.out)).mono ?_
        rintro e w3 ⟨rfl, hb⟩
        clear c00 c01 c02 c03 c04 c05 c10 c11 c12 c13
        replace FR := Lib.hid (FR.out.step hb)
        clear hb
        have c00 : w3.cell? ⟨q, 0, none⟩ = some (.slice A n c) := FR.out.cell 0 0 rfl rfl rfl
        have c01 : w3.cell? ⟨q, 1, none⟩ = some (.slice B m d) := FR.out.cell 0 1 rfl rfl rfl
        have c02 : w3.cell? ⟨q, 2, none⟩ = some (.slice C k f) := FR.out.cell 0 2 rfl rfl rfl
        have c03 : w3.cell? ⟨q, 3, none⟩ = some (.int .i64 ce) := FR.out.cell 0 3 rfl rfl rfl
        have c04 : w3.cell? ⟨q, 4, none⟩ = some (.int .i64 re) := FR.out.cell 0 4 rfl rfl rfl
        have c05 : w3.cell? ⟨q, 5, none⟩ = some (.int .i64 pa) := FR.out.cell 0 5 rfl rfl rfl
        have c10 : w3.cell? ⟨q + 1, 0, none⟩ = some (.int .i64 38) := FR.out.cell 1 0 rfl rfl rfl
        have c11 : w3.cell? ⟨q + 1, 1, none⟩ = some (.int .i64 a) := FR.out.cell 1 1 rfl rfl rfl
        have c12 : w3.cell? ⟨q + 1, 2, none⟩ = some (.int .i64 b) := FR.out.cell 1 2 rfl rfl rfl
        have c13 : w3.cell? ⟨q + 1, 3, none⟩ = some (.int .i64 x) := FR.out.cell 1 3 rfl rfl rfl
        go_wp2
        go_ret
        rw [HE.out]
        exact ⟨rfl, FR.out.out⟩
      · have f1 : (b == 0) = false := by simp [hb0]
        clear hb0
        have HE := Lib.hid (show syncB ki 38 a b x = false from (show syncB ki 38 a b x = (objB ki a 5 && ((b == 0) && (x == 0))) from rfl).trans (by simp only [h1.out, f1, Bool.true_and, Bool.false_and, Bool.and_false, Bool.and_true]))
        go_wp2_with fail
        refine (OA.out _ (FR.out.es RX.out) (FR.out.es RY.out) (FR.out.es RZ.out)).mono ?_
        rintro e w3 ⟨rfl, hb⟩
        clear c00 c01 c02 c03 c04 c05 c10 c11 c12 c13
        replace FR := Lib.hid (FR.out.step hb)
        clear hb
        have c00 : w3.cell? ⟨q, 0, none⟩ = some (.slice A n c) := FR.out.cell 0 0 rfl rfl rfl
        have c01 : w3.cell? ⟨q, 1, none⟩ = some (.slice B m d) := FR.out.cell 0 1 rfl rfl rfl
        have c02 : w3.cell? ⟨q, 2, none⟩ = some (.slice C k f) := FR.out.cell 0 2 rfl rfl rfl
        have c03 : w3.cell? ⟨q, 3, none⟩ = some (.int .i64 ce) := FR.out.cell 0 3 rfl rfl rfl
        have c04 : w3.cell? ⟨q, 4, none⟩ = some (.int .i64 re) := FR.out.cell 0 4 rfl rfl rfl
        have c05 : w3.cell? ⟨q, 5, none⟩ = some (.int .i64 pa) := FR.out.cell 0 5 rfl rfl rfl
        have c10 : w3.cell? ⟨q + 1, 0, none⟩ = some (.int .i64 38) := FR.out.cell 1 0 rfl rfl rfl
        have c11 : w3.cell? ⟨q + 1, 1, none⟩ = some (.int .i64 a) := FR.out.cell 1 1 rfl rfl rfl
        have c12 : w3.cell? ⟨q + 1, 2, none⟩ = some (.int .i64 b) := FR.out.cell 1 2 rfl rfl rfl
        have c13 : w3.cell? ⟨q + 1, 3, none⟩ = some (.int .i64 x) := FR.out.cell 1 3 rfl rfl rfl
        go_wp2
        go_ret
        rw [HE.out]
        exact ⟨rfl, FR.out.out⟩
  have hn38 : (o == 38) = false := by simpa using ho38
  replace ho38 := Lib.hid ho38
  by_cases ho39 : o = 39
  · subst ho39
    have OA := fun W h1 h2 h3 => OB.out W h1 h2 h3 a 6
    cases h1 : objB ki a 6
    · rw [h1] at OA
      replace OA := Lib.hid OA
      have HE := Lib.hid (show syncB ki 39 a b x = false from (show syncB ki 39 a b x = (objB ki a 6 && (inB b 4 && (x == 0))) from rfl).trans (by simp only [h1, Bool.true_and, Bool.false_and, Bool.and_false, Bool.and_true]))
      clear h1
      go_wp2_with fail
      refine (OA.out _ (FR.out.es RX.out) (FR.out.es RY.out) (FR.out.es RZ.out)).mono ?_
      rintro e w3 ⟨rfl, hb⟩
      clear c00 c01 c02 c03 c04 c05 c10 c11 c12 c13
      replace FR := Lib.hid (FR.out.step hb)
      clear hb
      have c00 : w3.cell? ⟨q, 0, none⟩ = some (.slice A n c) := FR.out.cell 0 0 rfl rfl rfl
      have c01 : w3.cell? ⟨q, 1, none⟩ = some (.slice B m d) := FR.out.cell 0 1 rfl rfl rfl
      have c02 : w3.cell? ⟨q, 2, none⟩ = some (.slice C k f) := FR.out.cell 0 2 rfl rfl rfl
      have c03 : w3.cell? ⟨q, 3, none⟩ = some (.int .i64 ce) := FR.out.cell 0 3 rfl rfl rfl
      have c04 : w3.cell? ⟨q, 4, none⟩ = some (.int .i64 re) := FR.out.cell 0 4 rfl rfl rfl
      have c05 : w3.cell? ⟨q, 5, none⟩ = some (.int .i64 pa) := FR.out.cell 0 5 rfl rfl rfl
      have c10 : w3.cell? ⟨q + 1, 0, none⟩ = some (.int .i64 39) := FR.out.cell 1 0 rfl rfl rfl
      have c11 : w3.cell? ⟨q + 1, 1, none⟩ = some (.int .i64 a) := FR.out.cell 1 1 rfl rfl rfl
      have c12 : w3.cell? ⟨q + 1, 2, none⟩ = some (.int .i64 b) := FR.out.cell 1 2 rfl rfl rfl
      have c13 : w3.cell? ⟨q + 1, 3, none⟩ = some (.int .i64 x) := FR.out.cell 1 3 rfl rfl rfl
      go_wp2
      go_ret
      rw [HE.out]
      exact ⟨rfl, FR.out.out⟩
    · rw [h1] at OA
      replace OA := Lib.hid OA
      replace h1 := Lib.hid h1
      have IB := fun (W : World) => refIn_any b 4 W
      cases h2 : inB b 4
      · rw [h2] at IB
        replace IB := Lib.hid IB
        have HE := Lib.hid (show syncB ki 39 a b x = false from (show syncB ki 39 a b x = (objB ki a 6 && (inB b 4 && (x == 0))) from rfl).trans (by simp only [h1.out, h2, Bool.true_and, Bool.false_and, Bool.and_false, Bool.and_true]))
        clear h2
        go_wp2_with fail
        refine (OA.out _ (FR.out.es RX.out) (FR.out.es RY.out) (FR.out.es RZ.out)).mono ?_
        rintro e w3 ⟨rfl, hb⟩
        clear c00 c01 c02 c03 c04 c05 c10 c11 c12 c13
        replace FR := Lib.hid (FR.out.step hb)
        clear hb
        have c00 : w3.cell? ⟨q, 0, none⟩ = some (.slice A n c) := FR.out.cell 0 0 rfl rfl rfl
        have c01 : w3.cell? ⟨q, 1, none⟩ = some (.slice B m d) := FR.out.cell 0 1 rfl rfl rfl
        have c02 : w3.cell? ⟨q, 2, none⟩ = some (.slice C k f) := FR.out.cell 0 2 rfl rfl rfl
        have c03 : w3.cell? ⟨q, 3, none⟩ = some (.int .i64 ce) := FR.out.cell 0 3 rfl rfl rfl
        have c04 : w3.cell? ⟨q, 4, none⟩ = some (.int .i64 re) := FR.out.cell 0 4 rfl rfl rfl
        have c05 : w3.cell? ⟨q, 5, none⟩ = some (.int .i64 pa) := FR.out.cell 0 5 rfl rfl rfl
        have c10 : w3.cell? ⟨q + 1, 0, none⟩ = some (.int .i64 39) := FR.out.cell 1 0 rfl rfl rfl
        have c11 : w3.cell? ⟨q + 1, 1, none⟩ = some (.int .i64 a) := FR.out.cell 1 1 rfl rfl rfl
        have c12 : w3.cell? ⟨q + 1, 2, none⟩ = some (.int .i64 b) := FR.out.cell 1 2 rfl rfl rfl
        have c13 : w3.cell? ⟨q + 1, 3, none⟩ = some (.int .i64 x) := FR.out.cell 1 3 rfl rfl rfl
        go_wp2_with fail
        refine (IB.out _).mono ?_
        rintro e wq ⟨rfl, rfl⟩
        go_wp2
        go_ret
        rw [HE.out]
        exact ⟨rfl, FR.out.out⟩
      · rw [h2] at IB
        replace IB := Lib.hid IB
        have HE := Lib.hid (show syncB ki 39 a b x = (x == 0) from (show syncB ki 39 a b x = (objB ki a 6 && (inB b 4 && (x == 0))) from rfl).trans (by simp only [h1.out, h2, Bool.true_and, Bool.false_and, Bool.and_false, Bool.and_true]))
        clear h2
        go_wp2_with fail
        refine (OA.out _ (FR.out.es RX.out) (FR.out.es RY.out) (FR.out.es RZ.out)).mono ?_
        rintro e w3 ⟨rfl, hb⟩
        clear c00 c01 c02 c03 c04 c05 c10 c11 c12 c13
        replace FR := Lib.hid (FR.out.step hb)
        clear hb
        have c00 : w3.cell? ⟨q, 0, none⟩ = some (.slice A n c) := FR.out.cell 0 0 rfl rfl rfl
        have c01 : w3.cell? ⟨q, 1, none⟩ = some (.slice B m d) := FR.out.cell 0 1 rfl rfl rfl
        have c02 : w3.cell? ⟨q, 2, none⟩ = some (.slice C k f) := FR.out.cell 0 2 rfl rfl rfl
        have c03 : w3.cell? ⟨q, 3, none⟩ = some (.int .i64 ce) := FR.out.cell 0 3 rfl rfl rfl
        have c04 : w3.cell? ⟨q, 4, none⟩ = some (.int .i64 re) := FR.out.cell 0 4 rfl rfl rfl
        have c05 : w3.cell? ⟨q, 5, none⟩ = some (.int .i64 pa) := FR.out.cell 0 5 rfl rfl rfl
        have c10 : w3.cell? ⟨q + 1, 0, none⟩ = some (.int .i64 39) := FR.out.cell 1 0 rfl rfl rfl
        have c11 : w3.cell? ⟨q + 1, 1, none⟩ = some (.int .i64 a) := FR.out.cell 1 1 rfl rfl rfl
        have c12 : w3.cell? ⟨q + 1, 2, none⟩ = some (.int .i64 b) := FR.out.cell 1 2 rfl rfl rfl
        have c13 : w3.cell? ⟨q + 1, 3, none⟩ = some (.int .i64 x) := FR.out.cell 1 3 rfl rfl rfl
        go_wp2_with fail
        refine (IB.out _).mono ?_
        rintro e wq ⟨rfl, rfl⟩
        go_wp2
        go_ret
        rw [HE.out]
        exact ⟨rfl, FR.out.out⟩
  have hn39 : (o == 39) = false := by simpa using ho39
  replace ho39 := Lib.hid ho39
  by_cases ho40 : o = 40
  · subst ho40
    have OA := fun W h1 h2 h3 => OB.out W h1 h2 h3 a 6
    cases h1 : objB ki a 6
    · rw [h1] at OA
      replace OA := Lib.hid OA
      have HE := Lib.hid (show syncB ki 40 a b x = false from (show syncB ki 40 a b x = (objB ki a 6 && (inB b 4 && (x == 0))) from rfl).trans (by simp only [h1, Bool.true_and, Bool.false_and, Bool.and_false, Bool.and_true]))
      clear h1
      go_wp2_with fail
      refine (OA.out _ (FR.out.es RX.out) (FR.out.es RY.out) (FR.out.es RZ.out)).mono ?_
      rintro e w3 ⟨rfl, hb⟩
      clear c00 c01 c02 c03 c04 c05 c10 c11 c12 c13
      replace FR := Lib.hid (FR.out.step hb)
      clear hb
      have c00 : w3.cell? ⟨q, 0, none⟩ = some (.slice A n c) := FR.out.cell 0 0 rfl rfl rfl
      have c01 : w3.cell? ⟨q, 1, none⟩ = some (.slice B m d) := FR.out.cell 0 1 rfl rfl rfl
      have c02 : w3.cell? ⟨q, 2, none⟩ = some (.slice C k f) := FR.out.cell 0 2 rfl rfl rfl
      have c03 : w3.cell? ⟨q, 3, none⟩ = some (.int .i64 ce) := FR.out.cell 0 3 rfl rfl rfl
      have c04 : w3.cell? ⟨q, 4, none⟩ = some (.int .i64 re) := FR.out.cell 0 4 rfl rfl rfl
      have c05 : w3.cell? ⟨q, 5, none⟩ = some (.int .i64 pa) := FR.out.cell 0 5 rfl rfl rfl
      have c10 : w3.cell? ⟨q + 1, 0, none⟩ = some (.int .i64 40) := FR.out.cell 1 0 rfl rfl rfl
      have c11 : w3.cell? ⟨q + 1, 1, none⟩ = some (.int .i64 a) := FR.out.cell 1 1 rfl rfl rfl
      have c12 : w3.cell? ⟨q + 1, 2, none⟩ = some (.int .i64 b) := FR.out.cell 1 2 rfl rfl rfl
      have c13 : w3.cell? ⟨q + 1, 3, none⟩ = some (.int .i64 x) := FR.out.cell 1 3 rfl rfl rfl
      go_wp2
      go_ret
      rw [HE.out]
      exact ⟨rfl, FR.out.out⟩
    · rw [h1] at OA
      replace OA := Lib.hid OA
      replace h1 := Lib.hid h1
      have IB := fun (W : World) => refIn_any b 4 W
      cases h2 : inB b 4
      · rw [h2] at IB
        replace IB := Lib.hid IB
        have HE := Lib.hid (show syncB ki 40 a b x = false from (show syncB ki 40 a b x = (objB ki a 6 && (inB b 4 && (x == 0))) from rfl).trans (by simp only [h1.out, h2, Bool.true_and, Bool.false_and, Bool.and_false, Bool.and_true]))
        clear h2
        go_wp2_with fail
        refine (OA.out _ (FR.out.es RX.out) (FR.out.es RY.out) (FR.out.es RZ.out)).mono ?_
        rintro e w3 ⟨rfl, hb⟩
        clear c00 c01 c02 c03 c04 c05 c10 c11 c12 c13
        replace FR := Lib.hid (FR.out.step hb)
        clear hb
        have c00 : w3.cell? ⟨q, 0, none⟩ = some (.slice A n c) := FR.out.cell 0 0 rfl rfl rfl
        have c01 : w3.cell? ⟨q, 1, none⟩ = some (.slice B m d) := FR.out.cell 0 1 rfl rfl rfl
        have c02 : w3.cell? ⟨q, 2, none⟩ = some (.slice C k f) := FR.out.cell 0 2 rfl rfl rfl
        have c03 : w3.cell? ⟨q, 3, none⟩ = some (.int .i64 ce) := FR.out.cell 0 3 rfl rfl rfl
        have c04 : w3.cell? ⟨q, 4, none⟩ = some (.int .i64 re) := FR.out.cell 0 4 rfl rfl rfl
        have c05 : w3.cell? ⟨q, 5, none⟩ = some (.int .i64 pa) := FR.out.cell 0 5 rfl rfl rfl
        have c10 : w3.cell? ⟨q + 1, 0, none⟩ = some (.int .i64 40) := FR.out.cell 1 0 rfl rfl rfl
        have c11 : w3.cell? ⟨q + 1, 1, none⟩ = some (.int .i64 a) := FR.out.cell 1 1 rfl rfl rfl
        have c12 : w3.cell? ⟨q + 1, 2, none⟩ = some (.int .i64 b) := FR.out.cell 1 2 rfl rfl rfl
        have c13 : w3.cell? ⟨q + 1, 3, none⟩ = some (.int .i64 x) := FR.out.cell 1 3 rfl rfl rfl
        go_wp2_with fail
        refine (IB.out _).mono ?_
        rintro e wq ⟨rfl, rfl⟩
        go_wp2
        go_ret
        rw [HE.out]
        exact ⟨rfl, FR.out.out⟩
      · rw [h2] at IB
        replace IB := Lib.hid IB
        have HE := Lib.hid (show syncB ki 40 a b x = (x == 0) from (show syncB ki 40 a b x = (objB ki a 6 && (inB b 4 && (x == 0))) from rfl).trans (by simp only [h1.out, h2, Bool.true_and, Bool.false_and, Bool.and_false, Bool.and_true]))
        clear h2
        go_wp2_with fail
        refine (OA.out _ (FR.out.es RX.out) (FR.out.es RY.out) (FR.out.es RZ.out)).mono ?_
        rintro e w3 ⟨rfl, hb⟩
        clear c00 c01 c02 c03 c04 c05 c10 c11 c12 c13
        replace FR := Lib.hid (FR.out.step hb)
        clear hb
        have c00 : w3.cell? ⟨q, 0, none⟩ = some (.slice A n c) := FR.out.cell 0 0 rfl rfl rfl
        have c01 : w3.cell? ⟨q, 1, none⟩ = some (.slice B m d) := FR.out.cell 0 1 rfl rfl rfl
        have c02 : w3.cell? ⟨q, 2, none⟩ = some (.slice C k f) := FR.out.cell 0 2 rfl rfl rfl
        have c03 : w3.cell? ⟨q, 3, none⟩ = some (.int .i64 ce) := FR.out.cell 0 3 rfl rfl rfl
        have c04 : w3.cell? ⟨q, 4, none⟩ = some (.int .i64 re) := FR.out.cell 0 4 rfl rfl rfl
        have c05 : w3.cell? ⟨q, 5, none⟩ = some (.int .i64 pa) := FR.out.cell 0 5 rfl rfl rfl
        have c10 : w3.cell? ⟨q + 1, 0, none⟩ = some (.int .i64 40) := FR.out.cell 1 0 rfl rfl rfl
        have c11 : w3.cell? ⟨q + 1, 1, none⟩ = some (.int .i64 a) := FR.out.cell 1 1 rfl rfl rfl
        have c12 : w3.cell? ⟨q + 1, 2, none⟩ = some (.int .i64 b) := FR.out.cell 1 2 rfl rfl rfl
        have c13 : w3.cell? ⟨q + 1, 3, none⟩ = some (.int .i64 x) := FR.out.cell 1 3 rfl rfl rfl
        go_wp2_with fail
        refine (IB.out _).mono ?_
        rintro e wq ⟨rfl, rfl⟩
        go_wp2
        go_ret
        rw [HE.out]
        exact ⟨rfl, FR.out.out⟩
  have hn40 : (o == 40) = false := by simpa using ho40
  replace ho40 := Lib.hid ho40
  have HE := Lib.hid (show syncB ki o a b x = false from by
    unfold syncB
    rw [if_neg (by have q26 := ho26.out; have q27 := ho27.out; omega)]
    rw [if_neg (by have q28 := ho28.out; have q29 := ho29.out; have q30 := ho30.out; have q31 := ho31.out; omega)]
    rw [if_neg (by have q32 := ho32.out; omega)]
    rw [if_neg (by have q33 := ho33.out; omega)]
    rw [if_neg (by have q34 := ho34.out; omega)]
    rw [if_neg (by have q35 := ho35.out; omega)]
    rw [if_neg (by have q36 := ho36.out; omega)]
    rw [if_neg (by have q37 := ho37.out; have q38 := ho38.out; omega)]
    rw [if_neg (by have q39 := ho39.out; have q40 := ho40.out; omega)])
  go_wp2
  go_ret
  rw [HE.out]
  exact ⟨rfl, FR.out.out⟩
theorem rng4 {w : World} {b o : Nat} {v0 v1 v2 v3 : Value} (h0 : w.cell? ⟨b, o, none⟩ = some v0) (h1 : w.cell? ⟨b, o + 1, none⟩ = some v1) (h2 : w.cell? ⟨b, o + 2, none⟩ = some v2) (h3 : w.cell? ⟨b, o + 3, none⟩ = some v3) : w.rangeAt b o [v0, v1, v2, v3] := by
  intro j v hj
  match j, hj with
  | 0, hj => simp at hj; subst hj; exact h0
  | 1, hj => simp at hj; subst hj; exact h1
  | 2, hj => simp at hj; subst hj; exact h2
  | 3, hj => simp at hj; subst hj; exact h3
  | j + 4, hj => simp at hj
set_option maxRecDepth 100000 in
set_option maxHeartbeats 16000000 in
theorem refIns_any (A : Option Addr) (n c : Nat) (B : Option Addr) (m d : Nat) (C : Option Addr) (k f : Nat) (co : List I4) (ki si : List Int) (ce re pa : Int) (y : Int) (w : World) (hx : I4s w A n c co) (hy : Is w B m d ki) (hz : Is w C k f si) (hn : n ≤ 16384) (hm : m ≤ 16384) (hk : k ≤ 16384) :
    Calls Try.prog 12 #[.agg #[.slice A n c, .slice B m d, .slice C k f, .int .i64 ce, .int .i64 re, .int .i64 pa], .int .i64 y] w (YesC w (insB ⟨co, ki, si, ce, re, pa⟩ y)) := by
  have hlen := hx.len
  have RX := Lib.hid hx; have RY := Lib.hid hy; have RZ := Lib.hid hz
  have IN := fun (W : World) => refIn_any y (n : Int) W
  have HO : insB ⟨co, ki, si, ce, re, pa⟩ y = (inB y (n : Int) && insX ⟨co, ki, si, ce, re, pa⟩ (inAt co y.toNat)) := by unfold insB; rw [show (⟨co, ki, si, ce, re, pa⟩ : Pg).code.length = n from hlen]
  cases hi : inB y (n : Int)
  · rw [hi] at IN HO
    replace IN := Lib.hid IN
    have HE := Lib.hid (HO.trans (Bool.false_and _))
    clear HO hi hlen hx hy hz
    obtain ⟨v1, hv1⟩ : ∃ W, w.alloc (.cells #[.slice A n c, .slice B m d, .slice C k f, .int .i64 ce, .int .i64 re, .int .i64 pa] 25) = W := ⟨_, rfl⟩
    have fr1 : Fr w v1 w.heap.size [.cells #[.slice A n c, .slice B m d, .slice C k f, .int .i64 ce, .int .i64 re, .int .i64 pa] 25] := hv1 ▸ Fr.first w _
    have z1 : v1.heap.size = w.heap.size + 1 := by rw [← hv1, Fr.size1]
    generalize hq : w.heap.size = q at *
    have FR := Lib.hid fr1
    clear fr1
    go_enter Try.func12, Try.ntmps12
    have c00 : v1.cell? ⟨q, 0, none⟩ = some (.slice A n c) := FR.out.cell 0 0 rfl rfl rfl
    have c01 : v1.cell? ⟨q, 1, none⟩ = some (.slice B m d) := FR.out.cell 0 1 rfl rfl rfl
    have c02 : v1.cell? ⟨q, 2, none⟩ = some (.slice C k f) := FR.out.cell 0 2 rfl rfl rfl
    have c03 : v1.cell? ⟨q, 3, none⟩ = some (.int .i64 ce) := FR.out.cell 0 3 rfl rfl rfl
    have c04 : v1.cell? ⟨q, 4, none⟩ = some (.int .i64 re) := FR.out.cell 0 4 rfl rfl rfl
    have c05 : v1.cell? ⟨q, 5, none⟩ = some (.int .i64 pa) := FR.out.cell 0 5 rfl rfl rfl
    go_wp2
    refine wp_region_noPanic ?_
    refine wp_region_held_drew (S := (fun wv => Hid (Fr w wv q [.cells #[.slice A n c, .slice B m d, .slice C k f, .int .i64 ce, .int .i64 re, .int .i64 pa] 25]))) (by kernel_rfl) (Lib.hid FR.out.drew) (fun hS => ?_)
    refine wpAnyH_take (i := 0) (oi := ⟨some 5, .move (.tmp 1), 3, "ref.go:69", #[], none⟩) (v := ?_) rfl (by kernel_rfl) (by kernel_rfl) (by kernel_rfl) (fun _ _ _ h => h) (Or.inl ⟨by rfl, ?_⟩) hS ?_
    rotate_left
    · intro wv _; go_simp; try with_reducible rfl
    try simp only [Act.put, List.setIfInBounds_toArray, List.set_cons_zero, List.set_cons_succ]
    refine wpAnyH_take (i := 1) (oi := ⟨some 6, .fieldAddr 25 (.tmp 2) 0, 0, "ref.go:69", #[], none⟩) (v := ?_) rfl (by kernel_rfl) (by kernel_rfl) (by kernel_rfl) (fun _ _ _ h => h) (Or.inl ⟨by rfl, ?_⟩) hS ?_
    rotate_left
    · intro wv _; go_simp; try with_reducible rfl
    try simp only [Act.put, List.setIfInBounds_toArray, List.set_cons_zero, List.set_cons_succ]
    refine wpAnyH_take (i := 2) (oi := ⟨some 7, .load 22 (.tmp 6), 22, "ref.go:69", #[⟨1, .data⟩], none⟩) (v := ?_) rfl (by kernel_rfl) (by kernel_rfl) (by kernel_rfl) (fun _ _ _ h => h) (Or.inl ⟨by rfl, ?_⟩) hS ?_
    rotate_left
    · intro wv hS; have hrun := (show wv.cell? ⟨q, 0, none⟩ = some (.slice A n c) from hS.out.cell 0 0 rfl rfl rfl); go_simp; try with_reducible rfl
    try simp only [Act.put, List.setIfInBounds_toArray, List.set_cons_zero, List.set_cons_succ]
    refine wpAnyH_take (i := 3) (oi := ⟨some 8, .call { callee := .builtin .len, args := #[.tmp 7], argTypes := #[22] }, 3, "ref.go:69", #[⟨2, .data⟩], none⟩) (v := ?_) rfl (by kernel_rfl) (by kernel_rfl) (by kernel_rfl) (fun _ _ _ h => h) (Or.inl ⟨by rfl, ?_⟩) hS ?_
    rotate_left
    · intro wv _; go_simp; try with_reducible rfl
    try simp only [Act.put, List.setIfInBounds_toArray, List.set_cons_zero, List.set_cons_succ]
    refine wpAnyH_ready (rs := [4]) (by kernel_rfl) (by simp) (AllReadyH.cons (o := ⟨some 9, .call { callee := .value (.func 27), args := #[.tmp 5, .tmp 8], argTypes := #[3, 3] }, 4, "ref.go:69", #[⟨0, .data⟩, ⟨3, .data⟩], none⟩) rfl (fun K hK => ?_) AllReadyH.nil)
    go_simp
    refine (IN.out _).mono ?_; rintro e wb ⟨rfl, rfl⟩
    go_wp2_with fail
    refine Shut.out hK _ _ hS (fun _ => ?_)
    clear hK K
    try simp only [Act.put, List.setIfInBounds_toArray, List.set_cons_zero, List.set_cons_succ]
    refine wpAnyH_take (i := 5) (oi := ⟨some 10, .move (.tmp 9), 4, "ref.go:69", #[⟨4, .data⟩, ⟨4, .chain⟩], none⟩) (v := ?_) rfl (by kernel_rfl) (by kernel_rfl) (by kernel_rfl) (fun _ _ _ h => h) (Or.inl ⟨by rfl, ?_⟩) hS ?_
    rotate_left
    · intro wv _; go_simp; try with_reducible rfl
    try simp only [Act.put, List.setIfInBounds_toArray, List.set_cons_zero, List.set_cons_succ]
    refine wpAnyH_take (i := 6) (oi := ⟨some 11, .load 25 (.tmp 2), 25, "ref.go:69", #[⟨5, .guard⟩], some (5, true)⟩) (v := undef) rfl (by kernel_rfl) (by kernel_rfl) (by kernel_rfl) (fun _ _ _ h => h) (Or.inr ⟨by rfl, rfl⟩) hS ?_
    try simp only [Act.put, List.setIfInBounds_toArray, List.set_cons_zero, List.set_cons_succ]
    refine wpAnyH_take (i := 7) (oi := ⟨some 12, .fieldAddr 25 (.tmp 2) 0, 0, "ref.go:69", #[⟨5, .guard⟩], some (5, true)⟩) (v := undef) rfl (by kernel_rfl) (by kernel_rfl) (by kernel_rfl) (fun _ _ _ h => h) (Or.inr ⟨by rfl, rfl⟩) hS ?_
    try simp only [Act.put, List.setIfInBounds_toArray, List.set_cons_zero, List.set_cons_succ]
    refine wpAnyH_take (i := 8) (oi := ⟨some 13, .load 22 (.tmp 12), 22, "ref.go:69", #[⟨7, .data⟩, ⟨5, .guard⟩], some (5, true)⟩) (v := undef) rfl (by kernel_rfl) (by kernel_rfl) (by kernel_rfl) (fun _ _ _ h => h) (Or.inr ⟨by rfl, rfl⟩) hS ?_
    try simp only [Act.put, List.setIfInBounds_toArray, List.set_cons_zero, List.set_cons_succ]
    refine wpAnyH_take (i := 9) (oi := ⟨some 14, .move (.tmp 1), 3, "ref.go:69", #[⟨5, .guard⟩], some (5, true)⟩) (v := undef) rfl (by kernel_rfl) (by kernel_rfl) (by kernel_rfl) (fun _ _ _ h => h) (Or.inr ⟨by rfl, rfl⟩) hS ?_
    try simp only [Act.put, List.setIfInBounds_toArray, List.set_cons_zero, List.set_cons_succ]
    refine wpAnyH_take (i := 10) (oi := ⟨some 15, .indexAddr 22 (.tmp 13) (.tmp 14), 0, "ref.go:69", #[⟨8, .data⟩, ⟨9, .data⟩, ⟨5, .guard⟩], some (5, true)⟩) (v := undef) rfl (by kernel_rfl) (by kernel_rfl) (by kernel_rfl) (fun _ _ _ h => h) (Or.inr ⟨by rfl, rfl⟩) hS ?_
    try simp only [Act.put, List.setIfInBounds_toArray, List.set_cons_zero, List.set_cons_succ]
    refine wpAnyH_take (i := 11) (oi := ⟨some 16, .load 40 (.tmp 15), 40, "ref.go:69", #[⟨10, .data⟩, ⟨5, .guard⟩], some (5, true)⟩) (v := undef) rfl (by kernel_rfl) (by kernel_rfl) (by kernel_rfl) (fun _ _ _ h => h) (Or.inr ⟨by rfl, rfl⟩) hS ?_
    try simp only [Act.put, List.setIfInBounds_toArray, List.set_cons_zero, List.set_cons_succ]
    refine wpAnyH_take (i := 12) (oi := ⟨some 17, .call { callee := .value (.func 28), args := #[.tmp 11, .tmp 16], argTypes := #[25, 40] }, 4, "ref.go:69", #[⟨6, .data⟩, ⟨11, .data⟩, ⟨5, .chain⟩, ⟨5, .guard⟩], some (5, true)⟩) (v := undef) rfl (by kernel_rfl) (by kernel_rfl) (by kernel_rfl) (fun _ _ _ h => h) (Or.inr ⟨by rfl, rfl⟩) hS ?_
    try simp only [Act.put, List.setIfInBounds_toArray, List.set_cons_zero, List.set_cons_succ]
    refine wpAnyH_take (i := 13) (oi := ⟨some 18, .move (.tmp 17), 4, "ref.go:69", #[⟨12, .data⟩, ⟨12, .chain⟩, ⟨5, .guard⟩], some (5, true)⟩) (v := undef) rfl (by kernel_rfl) (by kernel_rfl) (by kernel_rfl) (fun _ _ _ h => h) (Or.inr ⟨by rfl, rfl⟩) hS ?_
    try simp only [Act.put, List.setIfInBounds_toArray, List.set_cons_zero, List.set_cons_succ]
    refine wpAnyH_take (i := 14) (oi := ⟨some 19, .load 25 (.tmp 2), 25, "ref.go:69", #[⟨13, .guard⟩], some (13, false)⟩) (v := undef) rfl (by kernel_rfl) (by kernel_rfl) (by kernel_rfl) (fun _ _ _ h => h) (Or.inr ⟨by rfl, rfl⟩) hS ?_
    try simp only [Act.put, List.setIfInBounds_toArray, List.set_cons_zero, List.set_cons_succ]
    refine wpAnyH_take (i := 15) (oi := ⟨some 20, .fieldAddr 25 (.tmp 2) 0, 0, "ref.go:69", #[⟨13, .guard⟩], some (13, false)⟩) (v := undef) rfl (by kernel_rfl) (by kernel_rfl) (by kernel_rfl) (fun _ _ _ h => h) (Or.inr ⟨by rfl, rfl⟩) hS ?_
    try simp only [Act.put, List.setIfInBounds_toArray, List.set_cons_zero, List.set_cons_succ]
    refine wpAnyH_take (i := 16) (oi := ⟨some 21, .load 22 (.tmp 20), 22, "ref.go:69", #[⟨15, .data⟩, ⟨13, .guard⟩], some (13, false)⟩) (v := undef) rfl (by kernel_rfl) (by kernel_rfl) (by kernel_rfl) (fun _ _ _ h => h) (Or.inr ⟨by rfl, rfl⟩) hS ?_
    try simp only [Act.put, List.setIfInBounds_toArray, List.set_cons_zero, List.set_cons_succ]
    refine wpAnyH_take (i := 17) (oi := ⟨some 22, .move (.tmp 1), 3, "ref.go:69", #[⟨13, .guard⟩], some (13, false)⟩) (v := undef) rfl (by kernel_rfl) (by kernel_rfl) (by kernel_rfl) (fun _ _ _ h => h) (Or.inr ⟨by rfl, rfl⟩) hS ?_
    try simp only [Act.put, List.setIfInBounds_toArray, List.set_cons_zero, List.set_cons_succ]
    refine wpAnyH_take (i := 18) (oi := ⟨some 23, .indexAddr 22 (.tmp 21) (.tmp 22), 0, "ref.go:69", #[⟨16, .data⟩, ⟨17, .data⟩, ⟨13, .guard⟩], some (13, false)⟩) (v := undef) rfl (by kernel_rfl) (by kernel_rfl) (by kernel_rfl) (fun _ _ _ h => h) (Or.inr ⟨by rfl, rfl⟩) hS ?_
    try simp only [Act.put, List.setIfInBounds_toArray, List.set_cons_zero, List.set_cons_succ]
    refine wpAnyH_take (i := 19) (oi := ⟨some 24, .load 40 (.tmp 23), 40, "ref.go:69", #[⟨18, .data⟩, ⟨13, .guard⟩], some (13, false)⟩) (v := undef) rfl (by kernel_rfl) (by kernel_rfl) (by kernel_rfl) (fun _ _ _ h => h) (Or.inr ⟨by rfl, rfl⟩) hS ?_
    try simp only [Act.put, List.setIfInBounds_toArray, List.set_cons_zero, List.set_cons_succ]
    refine wpAnyH_take (i := 20) (oi := ⟨some 25, .call { callee := .value (.func 29), args := #[.tmp 19, .tmp 24], argTypes := #[25, 40] }, 4, "ref.go:69", #[⟨14, .data⟩, ⟨19, .data⟩, ⟨13, .chain⟩, ⟨13, .guard⟩], some (13, false)⟩) (v := undef) rfl (by kernel_rfl) (by kernel_rfl) (by kernel_rfl) (fun _ _ _ h => h) (Or.inr ⟨by rfl, rfl⟩) hS ?_
    try simp only [Act.put, List.setIfInBounds_toArray, List.set_cons_zero, List.set_cons_succ]
    refine wpAnyH_take (i := 21) (oi := ⟨some 26, .pick (.tmp 18) (.const (Value.bool true)) (.tmp 25), 4, "ref.go:69", #[⟨13, .data⟩, ⟨20, .data⟩, ⟨5, .guard⟩], some (5, true)⟩) (v := undef) rfl (by kernel_rfl) (by kernel_rfl) (by kernel_rfl) (fun _ _ _ h => h) (Or.inr ⟨by rfl, rfl⟩) hS ?_
    try simp only [Act.put, List.setIfInBounds_toArray, List.set_cons_zero, List.set_cons_succ]
    refine wpAnyH_take (i := 22) (oi := ⟨some 27, .pick (.tmp 10) (.tmp 26) (.const (Value.bool false)), 4, "ref.go:69", #[⟨5, .data⟩, ⟨21, .data⟩], none⟩) (v := ?_) rfl (by kernel_rfl) (by kernel_rfl) (by kernel_rfl) (fun _ _ _ h => h) (Or.inl ⟨by rfl, ?_⟩) hS ?_
    rotate_left
    · intro wv _; go_simp; try with_reducible rfl
    try simp only [Act.put, List.setIfInBounds_toArray, List.set_cons_zero, List.set_cons_succ]
    refine wpAnyH_take (i := 23) (oi := ⟨some 4, .assign (.tmp 27), 4, "ref.go:69", #[⟨22, .data⟩, ⟨20, .chain⟩, ⟨0, .phase⟩, ⟨1, .phase⟩, ⟨2, .phase⟩, ⟨3, .phase⟩, ⟨4, .phase⟩, ⟨5, .phase⟩, ⟨6, .phase⟩, ⟨7, .phase⟩, ⟨8, .phase⟩, ⟨9, .phase⟩, ⟨10, .phase⟩, ⟨11, .phase⟩, ⟨12, .phase⟩, ⟨13, .phase⟩, ⟨14, .phase⟩, ⟨15, .phase⟩, ⟨16, .phase⟩, ⟨17, .phase⟩, ⟨18, .phase⟩, ⟨19, .phase⟩, ⟨20, .phase⟩, ⟨21, .phase⟩, ⟨22, .phase⟩], none⟩) (v := ?_) rfl (by kernel_rfl) (by kernel_rfl) (by kernel_rfl) (fun _ _ _ h => h) (Or.inl ⟨by rfl, ?_⟩) hS ?_
    rotate_left
    · intro wv _; go_simp; try with_reducible rfl
    try simp only [Act.put, List.setIfInBounds_toArray, List.set_cons_zero, List.set_cons_succ]
    refine wpAnyH_done (by kernel_rfl) ?_ _
    refine NoPanic.normal ?_
    go_wp2
    go_ret
    rw [HE.out]
    exact ⟨rfl, hS.out.out⟩
  · rw [hi] at IN HO
    replace IN := Lib.hid IN
    rw [Bool.true_and] at HO
    obtain ⟨i0, i1⟩ := inB_iff.1 hi
    obtain ⟨i, rfl⟩ : ∃ i : Nat, y = i := ⟨y.toNat, by omega⟩
    have e2 : ((i : Int)).toNat = i := by omega
    rw [e2] at HO
    obtain ⟨b, off, rfl, hbw, k0, k1, k2, k3⟩ := I4s.look (l := co) hx i (by omega)
    obtain ⟨⟨o, a, bb, x⟩, hxx⟩ : ∃ z, inAt co i = z := ⟨_, rfl⟩
    rw [hxx] at HO k0 k1 k2 k3
    simp only at k0 k1 k2 k3
    have hq1 : insX ⟨co, ki, si, ce, re, pa⟩ (o, a, bb, x) = (plainB n ce o a bb x || syncB ki o a bb x) := by unfold insX; rw [show (⟨co, ki, si, ce, re, pa⟩ : Pg).code.length = n from hlen]
    rw [hq1] at HO
    have K0 := Lib.hid k0; have K1 := Lib.hid k1; have K2 := Lib.hid k2; have K3 := Lib.hid k3
    have PL := fun (W : World) (h1 : I4s W (some ⟨b, off, none⟩) n c co) (h2 : Is W B m d ki) (h3 : Is W C k f si) => refPlain_any (some ⟨b, off, none⟩) n c B m d C k f co ki si ce re pa o a bb x W h1 h2 h3 hn hm hk
    have SY := fun (W : World) (h1 : I4s W (some ⟨b, off, none⟩) n c co) (h2 : Is W B m d ki) (h3 : Is W C k f si) => refSync_any (some ⟨b, off, none⟩) n c B m d C k f co ki si ce re pa o a bb x W h1 h2 h3 hn hm hk
    clear hxx hq1 hlen hx hy hz e2 hi k0 k1 k2 k3
    obtain ⟨v1, hv1⟩ : ∃ W, w.alloc (.cells #[.slice (some ⟨b, off, none⟩) n c, .slice B m d, .slice C k f, .int .i64 ce, .int .i64 re, .int .i64 pa] 25) = W := ⟨_, rfl⟩
    have fr1 : Fr w v1 w.heap.size [.cells #[.slice (some ⟨b, off, none⟩) n c, .slice B m d, .slice C k f, .int .i64 ce, .int .i64 re, .int .i64 pa] 25] := hv1 ▸ Fr.first w _
    have z1 : v1.heap.size = w.heap.size + 1 := by rw [← hv1, Fr.size1]
    generalize hq : w.heap.size = q at *
    have FR := Lib.hid fr1
    clear fr1
    have HBW := hbw
    cases hp : plainB n ce o a bb x
    · rw [hp] at PL HO
      replace PL := Lib.hid PL
      have HE := Lib.hid (HO.trans (Bool.false_or _))
      obtain ⟨sb, hsb⟩ : ∃ t, syncB ki o a bb x = t := ⟨_, rfl⟩
      rw [hsb] at SY HE
      replace SY := Lib.hid SY
      clear hsb
      clear HO hp
      go_enter Try.func12, Try.ntmps12
      have c00 : v1.cell? ⟨q, 0, none⟩ = some (.slice (some ⟨b, off, none⟩) n c) := FR.out.cell 0 0 rfl rfl rfl
      have c01 : v1.cell? ⟨q, 1, none⟩ = some (.slice B m d) := FR.out.cell 0 1 rfl rfl rfl
      have c02 : v1.cell? ⟨q, 2, none⟩ = some (.slice C k f) := FR.out.cell 0 2 rfl rfl rfl
      have c03 : v1.cell? ⟨q, 3, none⟩ = some (.int .i64 ce) := FR.out.cell 0 3 rfl rfl rfl
      have c04 : v1.cell? ⟨q, 4, none⟩ = some (.int .i64 re) := FR.out.cell 0 4 rfl rfl rfl
      have c05 : v1.cell? ⟨q, 5, none⟩ = some (.int .i64 pa) := FR.out.cell 0 5 rfl rfl rfl
      go_wp2
      refine wp_region_noPanic ?_
      refine wp_region_held_drew (S := (fun wv => Hid (Fr w wv q [.cells #[.slice (some ⟨b, off, none⟩) n c, .slice B m d, .slice C k f, .int .i64 ce, .int .i64 re, .int .i64 pa] 25]))) (by kernel_rfl) (Lib.hid FR.out.drew) (fun hS => ?_)
      refine wpAnyH_take (i := 0) (oi := ⟨some 5, .move (.tmp 1), 3, "ref.go:69", #[], none⟩) (v := ?_) rfl (by kernel_rfl) (by kernel_rfl) (by kernel_rfl) (fun _ _ _ h => h) (Or.inl ⟨by rfl, ?_⟩) hS ?_
      rotate_left
      · intro wv _; go_simp; try with_reducible rfl
      try simp only [Act.put, List.setIfInBounds_toArray, List.set_cons_zero, List.set_cons_succ]
      refine wpAnyH_take (i := 1) (oi := ⟨some 6, .fieldAddr 25 (.tmp 2) 0, 0, "ref.go:69", #[], none⟩) (v := ?_) rfl (by kernel_rfl) (by kernel_rfl) (by kernel_rfl) (fun _ _ _ h => h) (Or.inl ⟨by rfl, ?_⟩) hS ?_
      rotate_left
      · intro wv _; go_simp; try with_reducible rfl
      try simp only [Act.put, List.setIfInBounds_toArray, List.set_cons_zero, List.set_cons_succ]
      refine wpAnyH_take (i := 2) (oi := ⟨some 7, .load 22 (.tmp 6), 22, "ref.go:69", #[⟨1, .data⟩], none⟩) (v := ?_) rfl (by kernel_rfl) (by kernel_rfl) (by kernel_rfl) (fun _ _ _ h => h) (Or.inl ⟨by rfl, ?_⟩) hS ?_
      rotate_left
      · intro wv hS; have hrun := (show wv.cell? ⟨q, 0, none⟩ = some (.slice (some ⟨b, off, none⟩) n c) from hS.out.cell 0 0 rfl rfl rfl); go_simp; try with_reducible rfl
      try simp only [Act.put, List.setIfInBounds_toArray, List.set_cons_zero, List.set_cons_succ]
      refine wpAnyH_take (i := 3) (oi := ⟨some 8, .call { callee := .builtin .len, args := #[.tmp 7], argTypes := #[22] }, 3, "ref.go:69", #[⟨2, .data⟩], none⟩) (v := ?_) rfl (by kernel_rfl) (by kernel_rfl) (by kernel_rfl) (fun _ _ _ h => h) (Or.inl ⟨by rfl, ?_⟩) hS ?_
      rotate_left
      · intro wv _; go_simp; try with_reducible rfl
      try simp only [Act.put, List.setIfInBounds_toArray, List.set_cons_zero, List.set_cons_succ]
      refine wpAnyH_ready (rs := [4]) (by kernel_rfl) (by simp) (AllReadyH.cons (o := ⟨some 9, .call { callee := .value (.func 27), args := #[.tmp 5, .tmp 8], argTypes := #[3, 3] }, 4, "ref.go:69", #[⟨0, .data⟩, ⟨3, .data⟩], none⟩) rfl (fun K hK => ?_) AllReadyH.nil)
      go_simp
      refine (IN.out _).mono ?_; rintro e wb ⟨rfl, rfl⟩
      go_wp2_with fail
      refine Shut.out hK _ _ hS (fun _ => ?_)
      clear hK K
      try simp only [Act.put, List.setIfInBounds_toArray, List.set_cons_zero, List.set_cons_succ]
      refine wpAnyH_take (i := 5) (oi := ⟨some 10, .move (.tmp 9), 4, "ref.go:69", #[⟨4, .data⟩, ⟨4, .chain⟩], none⟩) (v := ?_) rfl (by kernel_rfl) (by kernel_rfl) (by kernel_rfl) (fun _ _ _ h => h) (Or.inl ⟨by rfl, ?_⟩) hS ?_
      rotate_left
      · intro wv _; go_simp; try with_reducible rfl
      try simp only [Act.put, List.setIfInBounds_toArray, List.set_cons_zero, List.set_cons_succ]
      refine wpAnyH_take (i := 6) (oi := ⟨some 11, .load 25 (.tmp 2), 25, "ref.go:69", #[⟨5, .guard⟩], some (5, true)⟩) (v := .agg (([.slice (some ⟨b, off, none⟩) n c, .slice B m d, .slice C k f, .int .i64 ce, .int .i64 re, .int .i64 pa] : List Value)).toArray) rfl (by kernel_rfl) (by kernel_rfl) (by kernel_rfl) (fun _ _ _ h => h) (yieldsIf_load_mid (by rfl) _ _ (by rfl) (q) (0) (by rfl) (([.slice (some ⟨b, off, none⟩) n c, .slice B m d, .slice C k f, .int .i64 ce, .int .i64 re, .int .i64 pa] : List Value)) _ (fun wv hS => hS.out.rng 0 rfl rfl) Try.underlying25 (by rfl) (by kernel_rfl)) hS ?_
      try simp only [Act.put, List.setIfInBounds_toArray, List.set_cons_zero, List.set_cons_succ]
      refine wpAnyH_take (i := 7) (oi := ⟨some 12, .fieldAddr 25 (.tmp 2) 0, 0, "ref.go:69", #[⟨5, .guard⟩], some (5, true)⟩) (v := ?_) rfl (by kernel_rfl) (by kernel_rfl) (by kernel_rfl) (fun _ _ _ h => h) (Or.inl ⟨by rfl, ?_⟩) hS ?_
      rotate_left
      · intro wv _; go_simp; try with_reducible rfl
      try simp only [Act.put, List.setIfInBounds_toArray, List.set_cons_zero, List.set_cons_succ]
      refine wpAnyH_take (i := 8) (oi := ⟨some 13, .load 22 (.tmp 12), 22, "ref.go:69", #[⟨7, .data⟩, ⟨5, .guard⟩], some (5, true)⟩) (v := ?_) rfl (by kernel_rfl) (by kernel_rfl) (by kernel_rfl) (fun _ _ _ h => h) (Or.inl ⟨by rfl, ?_⟩) hS ?_
      rotate_left
      · intro wv hS; have hrun := (show wv.cell? ⟨q, 0, none⟩ = some (.slice (some ⟨b, off, none⟩) n c) from hS.out.cell 0 0 rfl rfl rfl); go_simp; try with_reducible rfl
      try simp only [Act.put, List.setIfInBounds_toArray, List.set_cons_zero, List.set_cons_succ]
      refine wpAnyH_take (i := 9) (oi := ⟨some 14, .move (.tmp 1), 3, "ref.go:69", #[⟨5, .guard⟩], some (5, true)⟩) (v := ?_) rfl (by kernel_rfl) (by kernel_rfl) (by kernel_rfl) (fun _ _ _ h => h) (Or.inl ⟨by rfl, ?_⟩) hS ?_
      rotate_left
      · intro wv _; go_simp; try with_reducible rfl
      try simp only [Act.put, List.setIfInBounds_toArray, List.set_cons_zero, List.set_cons_succ]
      refine wpAnyH_take (i := 10) (oi := ⟨some 15, .indexAddr 22 (.tmp 13) (.tmp 14), 0, "ref.go:69", #[⟨8, .data⟩, ⟨9, .data⟩, ⟨5, .guard⟩], some (5, true)⟩) (v := ?_) rfl (by kernel_rfl) (by kernel_rfl) (by kernel_rfl) (fun _ _ _ h => h) (Or.inl ⟨by rfl, ?_⟩) hS ?_
      rotate_left
      · intro wv _; go_simp; try with_reducible rfl
      try simp only [Act.put, List.setIfInBounds_toArray, List.set_cons_zero, List.set_cons_succ]
      refine wpAnyH_take (i := 11) (oi := ⟨some 16, .load 40 (.tmp 15), 40, "ref.go:69", #[⟨10, .data⟩, ⟨5, .guard⟩], some (5, true)⟩) (v := .agg (([.int .i64 o, .int .i64 a, .int .i64 bb, .int .i64 x] : List Value)).toArray) rfl (by kernel_rfl) (by kernel_rfl) (by kernel_rfl) (fun _ _ _ h => h) (yieldsIf_load_mid (by rfl) _ _ (by rfl) (b) (off + i * 4) (by rfl) (([.int .i64 o, .int .i64 a, .int .i64 bb, .int .i64 x] : List Value)) _ (fun wv hS => rng4 ((hS.out.out.cell (p := ⟨b, off + i * 4, none⟩) (by rw [hq]; exact HBW)).trans K0.out) ((hS.out.out.cell (p := ⟨b, off + i * 4 + 1, none⟩) (by rw [hq]; exact HBW)).trans K1.out) ((hS.out.out.cell (p := ⟨b, off + i * 4 + 2, none⟩) (by rw [hq]; exact HBW)).trans K2.out) ((hS.out.out.cell (p := ⟨b, off + i * 4 + 3, none⟩) (by rw [hq]; exact HBW)).trans K3.out)) Try.underlying40 (by rfl) (by kernel_rfl)) hS ?_
      try simp only [Act.put, List.setIfInBounds_toArray, List.set_cons_zero, List.set_cons_succ]
      refine wpAnyH_ready (rs := [12]) (by kernel_rfl) (by simp) (AllReadyH.cons (o := ⟨some 17, .call { callee := .value (.func 28), args := #[.tmp 11, .tmp 16], argTypes := #[25, 40] }, 4, "ref.go:69", #[⟨6, .data⟩, ⟨11, .data⟩, ⟨5, .chain⟩, ⟨5, .guard⟩], some (5, true)⟩) rfl (fun K hK => ?_) AllReadyH.nil)
      go_simp
      refine (PL.out _ (hS.out.es RX.out) (hS.out.es RY.out) (hS.out.es RZ.out)).mono ?_; rintro e wb ⟨rfl, hb⟩; replace hS := Lib.hid (hS.out.step hb); clear hb
      go_wp2_with fail
      refine Shut.out hK _ _ hS (fun _ => ?_)
      clear hK K
      try simp only [Act.put, List.setIfInBounds_toArray, List.set_cons_zero, List.set_cons_succ]
      refine wpAnyH_take (i := 13) (oi := ⟨some 18, .move (.tmp 17), 4, "ref.go:69", #[⟨12, .data⟩, ⟨12, .chain⟩, ⟨5, .guard⟩], some (5, true)⟩) (v := ?_) rfl (by kernel_rfl) (by kernel_rfl) (by kernel_rfl) (fun _ _ _ h => h) (Or.inl ⟨by rfl, ?_⟩) hS ?_
      rotate_left
      · intro wv _; go_simp; try with_reducible rfl
      try simp only [Act.put, List.setIfInBounds_toArray, List.set_cons_zero, List.set_cons_succ]
      refine wpAnyH_take (i := 14) (oi := ⟨some 19, .load 25 (.tmp 2), 25, "ref.go:69", #[⟨13, .guard⟩], some (13, false)⟩) (v := .agg (([.slice (some ⟨b, off, none⟩) n c, .slice B m d, .slice C k f, .int .i64 ce, .int .i64 re, .int .i64 pa] : List Value)).toArray) rfl (by kernel_rfl) (by kernel_rfl) (by kernel_rfl) (fun _ _ _ h => h) (yieldsIf_load_mid (by rfl) _ _ (by rfl) (q) (0) (by rfl) (([.slice (some ⟨b, off, none⟩) n c, .slice B m d, .slice C k f, .int .i64 ce, .int .i64 re, .int .i64 pa] : List Value)) _ (fun wv hS => hS.out.rng 0 rfl rfl) Try.underlying25 (by rfl) (by kernel_rfl)) hS ?_
      try simp only [Act.put, List.setIfInBounds_toArray, List.set_cons_zero, List.set_cons_succ]
      refine wpAnyH_take (i := 15) (oi := ⟨some 20, .fieldAddr 25 (.tmp 2) 0, 0, "ref.go:69", #[⟨13, .guard⟩], some (13, false)⟩) (v := ?_) rfl (by kernel_rfl) (by kernel_rfl) (by kernel_rfl) (fun _ _ _ h => h) (Or.inl ⟨by rfl, ?_⟩) hS ?_
      rotate_left
      · intro wv _; go_simp; try with_reducible rfl
      try simp only [Act.put, List.setIfInBounds_toArray, List.set_cons_zero, List.set_cons_succ]
      refine wpAnyH_take (i := 16) (oi := ⟨some 21, .load 22 (.tmp 20), 22, "ref.go:69", #[⟨15, .data⟩, ⟨13, .guard⟩], some (13, false)⟩) (v := ?_) rfl (by kernel_rfl) (by kernel_rfl) (by kernel_rfl) (fun _ _ _ h => h) (Or.inl ⟨by rfl, ?_⟩) hS ?_
      rotate_left
      · intro wv hS; have hrun := (show wv.cell? ⟨q, 0, none⟩ = some (.slice (some ⟨b, off, none⟩) n c) from hS.out.cell 0 0 rfl rfl rfl); go_simp; try with_reducible rfl
      try simp only [Act.put, List.setIfInBounds_toArray, List.set_cons_zero, List.set_cons_succ]
      refine wpAnyH_take (i := 17) (oi := ⟨some 22, .move (.tmp 1), 3, "ref.go:69", #[⟨13, .guard⟩], some (13, false)⟩) (v := ?_) rfl (by kernel_rfl) (by kernel_rfl) (by kernel_rfl) (fun _ _ _ h => h) (Or.inl ⟨by rfl, ?_⟩) hS ?_
      rotate_left
      · intro wv _; go_simp; try with_reducible rfl
      try simp only [Act.put, List.setIfInBounds_toArray, List.set_cons_zero, List.set_cons_succ]
      refine wpAnyH_take (i := 18) (oi := ⟨some 23, .indexAddr 22 (.tmp 21) (.tmp 22), 0, "ref.go:69", #[⟨16, .data⟩, ⟨17, .data⟩, ⟨13, .guard⟩], some (13, false)⟩) (v := ?_) rfl (by kernel_rfl) (by kernel_rfl) (by kernel_rfl) (fun _ _ _ h => h) (Or.inl ⟨by rfl, ?_⟩) hS ?_
      rotate_left
      · intro wv _; go_simp; try with_reducible rfl
      try simp only [Act.put, List.setIfInBounds_toArray, List.set_cons_zero, List.set_cons_succ]
      refine wpAnyH_take (i := 19) (oi := ⟨some 24, .load 40 (.tmp 23), 40, "ref.go:69", #[⟨18, .data⟩, ⟨13, .guard⟩], some (13, false)⟩) (v := .agg (([.int .i64 o, .int .i64 a, .int .i64 bb, .int .i64 x] : List Value)).toArray) rfl (by kernel_rfl) (by kernel_rfl) (by kernel_rfl) (fun _ _ _ h => h) (yieldsIf_load_mid (by rfl) _ _ (by rfl) (b) (off + i * 4) (by rfl) (([.int .i64 o, .int .i64 a, .int .i64 bb, .int .i64 x] : List Value)) _ (fun wv hS => rng4 ((hS.out.out.cell (p := ⟨b, off + i * 4, none⟩) (by rw [hq]; exact HBW)).trans K0.out) ((hS.out.out.cell (p := ⟨b, off + i * 4 + 1, none⟩) (by rw [hq]; exact HBW)).trans K1.out) ((hS.out.out.cell (p := ⟨b, off + i * 4 + 2, none⟩) (by rw [hq]; exact HBW)).trans K2.out) ((hS.out.out.cell (p := ⟨b, off + i * 4 + 3, none⟩) (by rw [hq]; exact HBW)).trans K3.out)) Try.underlying40 (by rfl) (by kernel_rfl)) hS ?_
      try simp only [Act.put, List.setIfInBounds_toArray, List.set_cons_zero, List.set_cons_succ]
      refine wpAnyH_ready (rs := [20]) (by kernel_rfl) (by simp) (AllReadyH.cons (o := ⟨some 25, .call { callee := .value (.func 29), args := #[.tmp 19, .tmp 24], argTypes := #[25, 40] }, 4, "ref.go:69", #[⟨14, .data⟩, ⟨19, .data⟩, ⟨13, .chain⟩, ⟨13, .guard⟩], some (13, false)⟩) rfl (fun K hK => ?_) AllReadyH.nil)
      go_simp
      refine (SY.out _ (hS.out.es RX.out) (hS.out.es RY.out) (hS.out.es RZ.out)).mono ?_; rintro e wc ⟨rfl, hb⟩; replace hS := Lib.hid (hS.out.step hb); clear hb
      go_wp2_with fail
      refine Shut.out hK _ _ hS (fun _ => ?_)
      clear hK K
      try simp only [Act.put, List.setIfInBounds_toArray, List.set_cons_zero, List.set_cons_succ]
      refine wpAnyH_take (i := 21) (oi := ⟨some 26, .pick (.tmp 18) (.const (Value.bool true)) (.tmp 25), 4, "ref.go:69", #[⟨13, .data⟩, ⟨20, .data⟩, ⟨5, .guard⟩], some (5, true)⟩) (v := ?_) rfl (by kernel_rfl) (by kernel_rfl) (by kernel_rfl) (fun _ _ _ h => h) (Or.inl ⟨by rfl, ?_⟩) hS ?_
      rotate_left
      · intro wv _; go_simp; try with_reducible rfl
      try simp only [Act.put, List.setIfInBounds_toArray, List.set_cons_zero, List.set_cons_succ]
      refine wpAnyH_take (i := 22) (oi := ⟨some 27, .pick (.tmp 10) (.tmp 26) (.const (Value.bool false)), 4, "ref.go:69", #[⟨5, .data⟩, ⟨21, .data⟩], none⟩) (v := ?_) rfl (by kernel_rfl) (by kernel_rfl) (by kernel_rfl) (fun _ _ _ h => h) (Or.inl ⟨by rfl, ?_⟩) hS ?_
      rotate_left
      · intro wv _; go_simp; try with_reducible rfl
      try simp only [Act.put, List.setIfInBounds_toArray, List.set_cons_zero, List.set_cons_succ]
      refine wpAnyH_take (i := 23) (oi := ⟨some 4, .assign (.tmp 27), 4, "ref.go:69", #[⟨22, .data⟩, ⟨20, .chain⟩, ⟨0, .phase⟩, ⟨1, .phase⟩, ⟨2, .phase⟩, ⟨3, .phase⟩, ⟨4, .phase⟩, ⟨5, .phase⟩, ⟨6, .phase⟩, ⟨7, .phase⟩, ⟨8, .phase⟩, ⟨9, .phase⟩, ⟨10, .phase⟩, ⟨11, .phase⟩, ⟨12, .phase⟩, ⟨13, .phase⟩, ⟨14, .phase⟩, ⟨15, .phase⟩, ⟨16, .phase⟩, ⟨17, .phase⟩, ⟨18, .phase⟩, ⟨19, .phase⟩, ⟨20, .phase⟩, ⟨21, .phase⟩, ⟨22, .phase⟩], none⟩) (v := ?_) rfl (by kernel_rfl) (by kernel_rfl) (by kernel_rfl) (fun _ _ _ h => h) (Or.inl ⟨by rfl, ?_⟩) hS ?_
      rotate_left
      · intro wv _; go_simp; try with_reducible rfl
      try simp only [Act.put, List.setIfInBounds_toArray, List.set_cons_zero, List.set_cons_succ]
      refine wpAnyH_done (by kernel_rfl) ?_ _
      refine NoPanic.normal ?_
      go_wp2
      go_ret
      rw [HE.out]
      exact ⟨rfl, hS.out.out⟩
    · rw [hp] at PL HO
      replace PL := Lib.hid PL
      have HE := Lib.hid (HO.trans (Bool.true_or _))
      clear SY
      clear HO hp
      go_enter Try.func12, Try.ntmps12
      have c00 : v1.cell? ⟨q, 0, none⟩ = some (.slice (some ⟨b, off, none⟩) n c) := FR.out.cell 0 0 rfl rfl rfl
      have c01 : v1.cell? ⟨q, 1, none⟩ = some (.slice B m d) := FR.out.cell 0 1 rfl rfl rfl
      have c02 : v1.cell? ⟨q, 2, none⟩ = some (.slice C k f) := FR.out.cell 0 2 rfl rfl rfl
      have c03 : v1.cell? ⟨q, 3, none⟩ = some (.int .i64 ce) := FR.out.cell 0 3 rfl rfl rfl
      have c04 : v1.cell? ⟨q, 4, none⟩ = some (.int .i64 re) := FR.out.cell 0 4 rfl rfl rfl
      have c05 : v1.cell? ⟨q, 5, none⟩ = some (.int .i64 pa) := FR.out.cell 0 5 rfl rfl rfl
      go_wp2
      refine wp_region_noPanic ?_
      refine wp_region_held_drew (S := (fun wv => Hid (Fr w wv q [.cells #[.slice (some ⟨b, off, none⟩) n c, .slice B m d, .slice C k f, .int .i64 ce, .int .i64 re, .int .i64 pa] 25]))) (by kernel_rfl) (Lib.hid FR.out.drew) (fun hS => ?_)
      refine wpAnyH_take (i := 0) (oi := ⟨some 5, .move (.tmp 1), 3, "ref.go:69", #[], none⟩) (v := ?_) rfl (by kernel_rfl) (by kernel_rfl) (by kernel_rfl) (fun _ _ _ h => h) (Or.inl ⟨by rfl, ?_⟩) hS ?_
      rotate_left
      · intro wv _; go_simp; try with_reducible rfl
      try simp only [Act.put, List.setIfInBounds_toArray, List.set_cons_zero, List.set_cons_succ]
      refine wpAnyH_take (i := 1) (oi := ⟨some 6, .fieldAddr 25 (.tmp 2) 0, 0, "ref.go:69", #[], none⟩) (v := ?_) rfl (by kernel_rfl) (by kernel_rfl) (by kernel_rfl) (fun _ _ _ h => h) (Or.inl ⟨by rfl, ?_⟩) hS ?_
      rotate_left
      · intro wv _; go_simp; try with_reducible rfl
      try simp only [Act.put, List.setIfInBounds_toArray, List.set_cons_zero, List.set_cons_succ]
      refine wpAnyH_take (i := 2) (oi := ⟨some 7, .load 22 (.tmp 6), 22, "ref.go:69", #[⟨1, .data⟩], none⟩) (v := ?_) rfl (by kernel_rfl) (by kernel_rfl) (by kernel_rfl) (fun _ _ _ h => h) (Or.inl ⟨by rfl, ?_⟩) hS ?_
      rotate_left
      · intro wv hS; have hrun := (show wv.cell? ⟨q, 0, none⟩ = some (.slice (some ⟨b, off, none⟩) n c) from hS.out.cell 0 0 rfl rfl rfl); go_simp; try with_reducible rfl
      try simp only [Act.put, List.setIfInBounds_toArray, List.set_cons_zero, List.set_cons_succ]
      refine wpAnyH_take (i := 3) (oi := ⟨some 8, .call { callee := .builtin .len, args := #[.tmp 7], argTypes := #[22] }, 3, "ref.go:69", #[⟨2, .data⟩], none⟩) (v := ?_) rfl (by kernel_rfl) (by kernel_rfl) (by kernel_rfl) (fun _ _ _ h => h) (Or.inl ⟨by rfl, ?_⟩) hS ?_
      rotate_left
      · intro wv _; go_simp; try with_reducible rfl
      try simp only [Act.put, List.setIfInBounds_toArray, List.set_cons_zero, List.set_cons_succ]
      refine wpAnyH_ready (rs := [4]) (by kernel_rfl) (by simp) (AllReadyH.cons (o := ⟨some 9, .call { callee := .value (.func 27), args := #[.tmp 5, .tmp 8], argTypes := #[3, 3] }, 4, "ref.go:69", #[⟨0, .data⟩, ⟨3, .data⟩], none⟩) rfl (fun K hK => ?_) AllReadyH.nil)
      go_simp
      refine (IN.out _).mono ?_; rintro e wb ⟨rfl, rfl⟩
      go_wp2_with fail
      refine Shut.out hK _ _ hS (fun _ => ?_)
      clear hK K
      try simp only [Act.put, List.setIfInBounds_toArray, List.set_cons_zero, List.set_cons_succ]
      refine wpAnyH_take (i := 5) (oi := ⟨some 10, .move (.tmp 9), 4, "ref.go:69", #[⟨4, .data⟩, ⟨4, .chain⟩], none⟩) (v := ?_) rfl (by kernel_rfl) (by kernel_rfl) (by kernel_rfl) (fun _ _ _ h => h) (Or.inl ⟨by rfl, ?_⟩) hS ?_
      rotate_left
      · intro wv _; go_simp; try with_reducible rfl
      try simp only [Act.put, List.setIfInBounds_toArray, List.set_cons_zero, List.set_cons_succ]
      refine wpAnyH_take (i := 6) (oi := ⟨some 11, .load 25 (.tmp 2), 25, "ref.go:69", #[⟨5, .guard⟩], some (5, true)⟩) (v := .agg (([.slice (some ⟨b, off, none⟩) n c, .slice B m d, .slice C k f, .int .i64 ce, .int .i64 re, .int .i64 pa] : List Value)).toArray) rfl (by kernel_rfl) (by kernel_rfl) (by kernel_rfl) (fun _ _ _ h => h) (yieldsIf_load_mid (by rfl) _ _ (by rfl) (q) (0) (by rfl) (([.slice (some ⟨b, off, none⟩) n c, .slice B m d, .slice C k f, .int .i64 ce, .int .i64 re, .int .i64 pa] : List Value)) _ (fun wv hS => hS.out.rng 0 rfl rfl) Try.underlying25 (by rfl) (by kernel_rfl)) hS ?_
      try simp only [Act.put, List.setIfInBounds_toArray, List.set_cons_zero, List.set_cons_succ]
      refine wpAnyH_take (i := 7) (oi := ⟨some 12, .fieldAddr 25 (.tmp 2) 0, 0, "ref.go:69", #[⟨5, .guard⟩], some (5, true)⟩) (v := ?_) rfl (by kernel_rfl) (by kernel_rfl) (by kernel_rfl) (fun _ _ _ h => h) (Or.inl ⟨by rfl, ?_⟩) hS ?_
      rotate_left
      · intro wv _; go_simp; try with_reducible rfl
      try simp only [Act.put, List.setIfInBounds_toArray, List.set_cons_zero, List.set_cons_succ]
      refine wpAnyH_take (i := 8) (oi := ⟨some 13, .load 22 (.tmp 12), 22, "ref.go:69", #[⟨7, .data⟩, ⟨5, .guard⟩], some (5, true)⟩) (v := ?_) rfl (by kernel_rfl) (by kernel_rfl) (by kernel_rfl) (fun _ _ _ h => h) (Or.inl ⟨by rfl, ?_⟩) hS ?_
      rotate_left
      · intro wv hS; have hrun := (show wv.cell? ⟨q, 0, none⟩ = some (.slice (some ⟨b, off, none⟩) n c) from hS.out.cell 0 0 rfl rfl rfl); go_simp; try with_reducible rfl
      try simp only [Act.put, List.setIfInBounds_toArray, List.set_cons_zero, List.set_cons_succ]
      refine wpAnyH_take (i := 9) (oi := ⟨some 14, .move (.tmp 1), 3, "ref.go:69", #[⟨5, .guard⟩], some (5, true)⟩) (v := ?_) rfl (by kernel_rfl) (by kernel_rfl) (by kernel_rfl) (fun _ _ _ h => h) (Or.inl ⟨by rfl, ?_⟩) hS ?_
      rotate_left
      · intro wv _; go_simp; try with_reducible rfl
      try simp only [Act.put, List.setIfInBounds_toArray, List.set_cons_zero, List.set_cons_succ]
      refine wpAnyH_take (i := 10) (oi := ⟨some 15, .indexAddr 22 (.tmp 13) (.tmp 14), 0, "ref.go:69", #[⟨8, .data⟩, ⟨9, .data⟩, ⟨5, .guard⟩], some (5, true)⟩) (v := ?_) rfl (by kernel_rfl) (by kernel_rfl) (by kernel_rfl) (fun _ _ _ h => h) (Or.inl ⟨by rfl, ?_⟩) hS ?_
      rotate_left
      · intro wv _; go_simp; try with_reducible rfl
      try simp only [Act.put, List.setIfInBounds_toArray, List.set_cons_zero, List.set_cons_succ]
      refine wpAnyH_take (i := 11) (oi := ⟨some 16, .load 40 (.tmp 15), 40, "ref.go:69", #[⟨10, .data⟩, ⟨5, .guard⟩], some (5, true)⟩) (v := .agg (([.int .i64 o, .int .i64 a, .int .i64 bb, .int .i64 x] : List Value)).toArray) rfl (by kernel_rfl) (by kernel_rfl) (by kernel_rfl) (fun _ _ _ h => h) (yieldsIf_load_mid (by rfl) _ _ (by rfl) (b) (off + i * 4) (by rfl) (([.int .i64 o, .int .i64 a, .int .i64 bb, .int .i64 x] : List Value)) _ (fun wv hS => rng4 ((hS.out.out.cell (p := ⟨b, off + i * 4, none⟩) (by rw [hq]; exact HBW)).trans K0.out) ((hS.out.out.cell (p := ⟨b, off + i * 4 + 1, none⟩) (by rw [hq]; exact HBW)).trans K1.out) ((hS.out.out.cell (p := ⟨b, off + i * 4 + 2, none⟩) (by rw [hq]; exact HBW)).trans K2.out) ((hS.out.out.cell (p := ⟨b, off + i * 4 + 3, none⟩) (by rw [hq]; exact HBW)).trans K3.out)) Try.underlying40 (by rfl) (by kernel_rfl)) hS ?_
      try simp only [Act.put, List.setIfInBounds_toArray, List.set_cons_zero, List.set_cons_succ]
      refine wpAnyH_ready (rs := [12]) (by kernel_rfl) (by simp) (AllReadyH.cons (o := ⟨some 17, .call { callee := .value (.func 28), args := #[.tmp 11, .tmp 16], argTypes := #[25, 40] }, 4, "ref.go:69", #[⟨6, .data⟩, ⟨11, .data⟩, ⟨5, .chain⟩, ⟨5, .guard⟩], some (5, true)⟩) rfl (fun K hK => ?_) AllReadyH.nil)
      go_simp
      refine (PL.out _ (hS.out.es RX.out) (hS.out.es RY.out) (hS.out.es RZ.out)).mono ?_; rintro e wb ⟨rfl, hb⟩; replace hS := Lib.hid (hS.out.step hb); clear hb
      go_wp2_with fail
      refine Shut.out hK _ _ hS (fun _ => ?_)
      clear hK K
      try simp only [Act.put, List.setIfInBounds_toArray, List.set_cons_zero, List.set_cons_succ]
      refine wpAnyH_take (i := 13) (oi := ⟨some 18, .move (.tmp 17), 4, "ref.go:69", #[⟨12, .data⟩, ⟨12, .chain⟩, ⟨5, .guard⟩], some (5, true)⟩) (v := ?_) rfl (by kernel_rfl) (by kernel_rfl) (by kernel_rfl) (fun _ _ _ h => h) (Or.inl ⟨by rfl, ?_⟩) hS ?_
      rotate_left
      · intro wv _; go_simp; try with_reducible rfl
      try simp only [Act.put, List.setIfInBounds_toArray, List.set_cons_zero, List.set_cons_succ]
      refine wpAnyH_take (i := 14) (oi := ⟨some 19, .load 25 (.tmp 2), 25, "ref.go:69", #[⟨13, .guard⟩], some (13, false)⟩) (v := undef) rfl (by kernel_rfl) (by kernel_rfl) (by kernel_rfl) (fun _ _ _ h => h) (Or.inr ⟨by rfl, rfl⟩) hS ?_
      try simp only [Act.put, List.setIfInBounds_toArray, List.set_cons_zero, List.set_cons_succ]
      refine wpAnyH_take (i := 15) (oi := ⟨some 20, .fieldAddr 25 (.tmp 2) 0, 0, "ref.go:69", #[⟨13, .guard⟩], some (13, false)⟩) (v := undef) rfl (by kernel_rfl) (by kernel_rfl) (by kernel_rfl) (fun _ _ _ h => h) (Or.inr ⟨by rfl, rfl⟩) hS ?_
      try simp only [Act.put, List.setIfInBounds_toArray, List.set_cons_zero, List.set_cons_succ]
      refine wpAnyH_take (i := 16) (oi := ⟨some 21, .load 22 (.tmp 20), 22, "ref.go:69", #[⟨15, .data⟩, ⟨13, .guard⟩], some (13, false)⟩) (v := undef) rfl (by kernel_rfl) (by kernel_rfl) (by kernel_rfl) (fun _ _ _ h => h) (Or.inr ⟨by rfl, rfl⟩) hS ?_
      try simp only [Act.put, List.setIfInBounds_toArray, List.set_cons_zero, List.set_cons_succ]
      refine wpAnyH_take (i := 17) (oi := ⟨some 22, .move (.tmp 1), 3, "ref.go:69", #[⟨13, .guard⟩], some (13, false)⟩) (v := undef) rfl (by kernel_rfl) (by kernel_rfl) (by kernel_rfl) (fun _ _ _ h => h) (Or.inr ⟨by rfl, rfl⟩) hS ?_
      try simp only [Act.put, List.setIfInBounds_toArray, List.set_cons_zero, List.set_cons_succ]
      refine wpAnyH_take (i := 18) (oi := ⟨some 23, .indexAddr 22 (.tmp 21) (.tmp 22), 0, "ref.go:69", #[⟨16, .data⟩, ⟨17, .data⟩, ⟨13, .guard⟩], some (13, false)⟩) (v := undef) rfl (by kernel_rfl) (by kernel_rfl) (by kernel_rfl) (fun _ _ _ h => h) (Or.inr ⟨by rfl, rfl⟩) hS ?_
      try simp only [Act.put, List.setIfInBounds_toArray, List.set_cons_zero, List.set_cons_succ]
      refine wpAnyH_take (i := 19) (oi := ⟨some 24, .load 40 (.tmp 23), 40, "ref.go:69", #[⟨18, .data⟩, ⟨13, .guard⟩], some (13, false)⟩) (v := undef) rfl (by kernel_rfl) (by kernel_rfl) (by kernel_rfl) (fun _ _ _ h => h) (Or.inr ⟨by rfl, rfl⟩) hS ?_
      try simp only [Act.put, List.setIfInBounds_toArray, List.set_cons_zero, List.set_cons_succ]
      refine wpAnyH_take (i := 20) (oi := ⟨some 25, .call { callee := .value (.func 29), args := #[.tmp 19, .tmp 24], argTypes := #[25, 40] }, 4, "ref.go:69", #[⟨14, .data⟩, ⟨19, .data⟩, ⟨13, .chain⟩, ⟨13, .guard⟩], some (13, false)⟩) (v := undef) rfl (by kernel_rfl) (by kernel_rfl) (by kernel_rfl) (fun _ _ _ h => h) (Or.inr ⟨by rfl, rfl⟩) hS ?_
      try simp only [Act.put, List.setIfInBounds_toArray, List.set_cons_zero, List.set_cons_succ]
      refine wpAnyH_take (i := 21) (oi := ⟨some 26, .pick (.tmp 18) (.const (Value.bool true)) (.tmp 25), 4, "ref.go:69", #[⟨13, .data⟩, ⟨20, .data⟩, ⟨5, .guard⟩], some (5, true)⟩) (v := ?_) rfl (by kernel_rfl) (by kernel_rfl) (by kernel_rfl) (fun _ _ _ h => h) (Or.inl ⟨by rfl, ?_⟩) hS ?_
      rotate_left
      · intro wv _; go_simp; try with_reducible rfl
      try simp only [Act.put, List.setIfInBounds_toArray, List.set_cons_zero, List.set_cons_succ]
      refine wpAnyH_take (i := 22) (oi := ⟨some 27, .pick (.tmp 10) (.tmp 26) (.const (Value.bool false)), 4, "ref.go:69", #[⟨5, .data⟩, ⟨21, .data⟩], none⟩) (v := ?_) rfl (by kernel_rfl) (by kernel_rfl) (by kernel_rfl) (fun _ _ _ h => h) (Or.inl ⟨by rfl, ?_⟩) hS ?_
      rotate_left
      · intro wv _; go_simp; try with_reducible rfl
      try simp only [Act.put, List.setIfInBounds_toArray, List.set_cons_zero, List.set_cons_succ]
      refine wpAnyH_take (i := 23) (oi := ⟨some 4, .assign (.tmp 27), 4, "ref.go:69", #[⟨22, .data⟩, ⟨20, .chain⟩, ⟨0, .phase⟩, ⟨1, .phase⟩, ⟨2, .phase⟩, ⟨3, .phase⟩, ⟨4, .phase⟩, ⟨5, .phase⟩, ⟨6, .phase⟩, ⟨7, .phase⟩, ⟨8, .phase⟩, ⟨9, .phase⟩, ⟨10, .phase⟩, ⟨11, .phase⟩, ⟨12, .phase⟩, ⟨13, .phase⟩, ⟨14, .phase⟩, ⟨15, .phase⟩, ⟨16, .phase⟩, ⟨17, .phase⟩, ⟨18, .phase⟩, ⟨19, .phase⟩, ⟨20, .phase⟩, ⟨21, .phase⟩, ⟨22, .phase⟩], none⟩) (v := ?_) rfl (by kernel_rfl) (by kernel_rfl) (by kernel_rfl) (fun _ _ _ h => h) (Or.inl ⟨by rfl, ?_⟩) hS ?_
      rotate_left
      · intro wv _; go_simp; try with_reducible rfl
      try simp only [Act.put, List.setIfInBounds_toArray, List.set_cons_zero, List.set_cons_succ]
      refine wpAnyH_done (by kernel_rfl) ?_ _
      refine NoPanic.normal ?_
      go_wp2
      go_ret
      rw [HE.out]
      exact ⟨rfl, hS.out.out⟩
end Go.Proofs.Ytkoodhnfphmbnaa
