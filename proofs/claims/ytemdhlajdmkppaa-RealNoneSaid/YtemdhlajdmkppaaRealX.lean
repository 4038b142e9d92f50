/- The walk of RealNone where one is none: it answers true, over any world; no condition. -/
import Derived.Test.YtemdhlajdmkppaaRealT
namespace Go.Proofs.Ytemdhlajdmkppaa
set_option linter.unusedVariables false
set_option linter.unusedSimpArgs false
open Go.RowKit
open Ieee

theorem heap_lt5 {w : World} {b : Nat} {o : Obj} (h : w.heap[b]? = some o) : b < w.heap.size := by
  rcases Nat.lt_or_ge b w.heap.size with h2 | h2
  · exact h2
  · rw [Array.getElem?_eq_none h2] at h; cases h

set_option maxRecDepth 100000 in
set_option maxHeartbeats 4000000 in
theorem none5_core (x y c : Int) (w : World) 
    (A : Hid (∀ w, Calls Try.prog 31 #[.int .u64 x, .int .u64 y] w fun e w' => e = .returned (.int .u64 9221120237041090560) ∧ Below w.heap.size w w'))
    (S : Hid (∀ w, Calls Try.prog 33 #[.int .u64 x, .int .u64 y] w fun e w' => e = .returned (.int .u64 9221120237041090560) ∧ Below w.heap.size w w'))
    (M : Hid (∀ w, Calls Try.prog 35 #[.int .u64 x, .int .u64 y] w fun e w' => e = .returned (.int .u64 9221120237041090560) ∧ Below w.heap.size w w'))
    (D : Hid (∀ w, Calls Try.prog 37 #[.int .u64 x, .int .u64 y] w fun e w' => e = .returned (.int .u64 9221120237041090560) ∧ Below w.heap.size w w'))
    (CN : Hid (∀ w, Calls Try.prog 11 #[.int .u64 9221120237041090560] w fun e w' => e = .returned (.int .i64 4) ∧ Below w.heap.size w w'))
    (CX : Hid (∀ w, Calls Try.prog 11 #[.int .u64 x] w fun e w' => e = .returned (.int .i64 4) ∧ Below w.heap.size w w')) 
    (CY : Hid (∀ w, Calls Try.prog 11 #[.int .u64 y] w fun e w' => e = .returned (.int .i64 c) ∧ Below w.heap.size w w')) 
    (TN : Hid (∀ w, Calls Try.prog 43 #[.int .u64 9221120237041090560] w fun e w' => e = .returned (.int .i64 0) ∧ Below w.heap.size w w'))
    (IN : Hid (∀ w, Calls Try.prog 41 #[.int .u64 9221120237041090560] w fun e w' => e = .returned (.int .i64 0) ∧ Below w.heap.size w w')) :
    Calls Try.prog 9 #[.int .u64 x, .int .u64 y] w fun e w' => e = .returned (.bool true) ∧ Below w.heap.size w w' := by
  have None_ := Lib.hid (fun w => refNone_any w)
  have HB := Lib.hid (Below.refl w.heap.size w)
  go_enter Try.func9, Try.ntmps9
  go_wp2_with fail
  refine (alive5 _).mono ?_
  rintro e w1 ⟨rfl, hb⟩
  go_wp2_with fail
  refine (None_.out _).mono ?_
  rintro e wk ⟨rfl, rfl⟩
  go_wp2_with fail
  refine (A.out _).mono ?_
  rintro e w2 ⟨rfl, hb2⟩
  go_wp2_with fail
  refine (S.out _).mono ?_
  rintro e w3 ⟨rfl, hb3⟩
  go_wp2_with fail
  refine (M.out _).mono ?_
  rintro e w4 ⟨rfl, hb4⟩
  go_wp2_with fail
  refine (D.out _).mono ?_
  rintro e w5 ⟨rfl, hb5⟩
  have H0 := Lib.hid (heap_alloc_new w5 (.cells #[.int .u64 9221120237041090560, .int .u64 9221120237041090560, .int .u64 9221120237041090560, .int .u64 9221120237041090560] 33))
  have HB5 := Lib.hid (((((HB.out.trans (hb.mono HB.out.size)).trans (hb2.mono (HB.out.trans (hb.mono HB.out.size)).size)) |> fun h => (h.trans (hb3.mono h.size))) |> fun h => (h.trans (hb4.mono h.size))) |> fun h => (h.trans (hb5.mono h.size)))
  have HB6 := Lib.hid (HB5.out.alloc HB5.out.size (.cells #[.int .u64 9221120237041090560, .int .u64 9221120237041090560, .int .u64 9221120237041090560, .int .u64 9221120237041090560] 33))
  clear hb hb2 hb3 hb4 hb5 HB
  go_wp2_with fail
  obtain ⟨b, hbb⟩ : ∃ b, w5.heap.size = b := ⟨_, rfl⟩
  rw [hbb] at H0
  generalize w5.alloc (.cells #[.int .u64 9221120237041090560, .int .u64 9221120237041090560, .int .u64 9221120237041090560, .int .u64 9221120237041090560] 33) = w6 at *
  rw [hbb]
  clear HB5 hbb
  go_loopw [8] (fun iv wr => ∃ i : Nat, iv = .int .i64 i ∧ i ≤ 4 ∧ Hid (wr.heap[b]? = some (.cells #[.int .u64 9221120237041090560, .int .u64 9221120237041090560, .int .u64 9221120237041090560, .int .u64 9221120237041090560] 33 (0, 0))) ∧ Hid (Below w.heap.size w wr)) (fun iv _ => 4 - (intOf iv).toNat)
  case atStart => exact ⟨0, rfl, by omega, H0, HB6⟩
  case round =>
    clear H0 HB6
    obtain ⟨i, rfl, hi, ht, hbl⟩ := hrel
    by_cases hlt : i < 4
    · have hcell : ∀ wv : World, wv.heap[b]? = some (.cells #[.int .u64 9221120237041090560, .int .u64 9221120237041090560, .int .u64 9221120237041090560, .int .u64 9221120237041090560] 33 (0, 0)) → wv.cell? ⟨b, i, none⟩ = some (.int .u64 9221120237041090560) := by
        intro wv hv
        rw [cell_of_row wv b i _ 33 (0, 0) hv]
        rcases (show i = 0 ∨ i = 1 ∨ i = 2 ∨ i = 3 by omega) with rfl | rfl | rfl | rfl <;> rfl
      have HC := Lib.hid hcell
      clear hcell
      have hc1 := HC.out wr ht.out
      have hi0 : (0 : Int) ≤ (i : Int) := by omega
      have hi1 : (i : Int) < 4 := by omega
      have hi2 : (i : Int) ≤ 3 := by omega
      go_wp2_with fail
      refine (CN.out _).mono ?_
      rintro e w7 ⟨rfl, hb⟩
      have ht7 := (hb.block b (heap_lt5 ht.out)).trans ht.out
      have HBl := Lib.hid (hbl.out.trans (hb.mono hbl.out.size))
      have hc7 := HC.out w7 ht7
      have HT7 := Lib.hid ht7
      clear hb ht7 hc1
      go_wp2_with fail
      refine (CX.out _).mono ?_
      rintro e w8 ⟨rfl, hb⟩
      have ht8 := (hb.block b (heap_lt5 HT7.out)).trans HT7.out
      have HBm := Lib.hid (HBl.out.trans (hb.mono HBl.out.size))
      have hc8 := HC.out w8 ht8
      have HT8 := Lib.hid ht8
      clear hb ht8 hc7
      go_wp2
      go_roundw
      case rel => exact ⟨i + 1, by go_num, by omega, HT8, HBm⟩
      case measure => simp [intOf]; omega
    · obtain rfl : i = 4 := by omega
      have HB := hbl
      clear ht hbl
      go_wp2_with fail
      refine (CX.out _).mono ?_
      rintro e wk ⟨rfl, hb⟩
      replace HB := Lib.hid (HB.out.trans (hb.mono HB.out.size))
      clear hb
      go_wp2_with fail
      refine (CY.out _).mono ?_
      rintro e wk ⟨rfl, hb⟩
      replace HB := Lib.hid (HB.out.trans (hb.mono HB.out.size))
      clear hb
      go_wp2_with fail
      refine (TN.out _).mono ?_
      rintro e wk ⟨rfl, hb⟩
      replace HB := Lib.hid (HB.out.trans (hb.mono HB.out.size))
      clear hb
      go_wp2_with fail
      refine (IN.out _).mono ?_
      rintro e wk ⟨rfl, hb⟩
      replace HB := Lib.hid (HB.out.trans (hb.mono HB.out.size))
      clear hb
      go_wp2
      go_ret
      exact ⟨rfl, HB.out⟩
set_option maxRecDepth 100000 in
set_option maxHeartbeats 4000000 in
theorem none5_core2 (x y c : Int) (w : World) (b1 : (c == 4) = false)
    (A : Hid (∀ w, Calls Try.prog 31 #[.int .u64 x, .int .u64 y] w fun e w' => e = .returned (.int .u64 9221120237041090560) ∧ Below w.heap.size w w'))
    (S : Hid (∀ w, Calls Try.prog 33 #[.int .u64 x, .int .u64 y] w fun e w' => e = .returned (.int .u64 9221120237041090560) ∧ Below w.heap.size w w'))
    (M : Hid (∀ w, Calls Try.prog 35 #[.int .u64 x, .int .u64 y] w fun e w' => e = .returned (.int .u64 9221120237041090560) ∧ Below w.heap.size w w'))
    (D : Hid (∀ w, Calls Try.prog 37 #[.int .u64 x, .int .u64 y] w fun e w' => e = .returned (.int .u64 9221120237041090560) ∧ Below w.heap.size w w'))
    (CN : Hid (∀ w, Calls Try.prog 11 #[.int .u64 9221120237041090560] w fun e w' => e = .returned (.int .i64 4) ∧ Below w.heap.size w w'))
    (CX : Hid (∀ w, Calls Try.prog 11 #[.int .u64 x] w fun e w' => e = .returned (.int .i64 c) ∧ Below w.heap.size w w')) 
    (CY : Hid (∀ w, Calls Try.prog 11 #[.int .u64 y] w fun e w' => e = .returned (.int .i64 4) ∧ Below w.heap.size w w')) 
    (TN : Hid (∀ w, Calls Try.prog 43 #[.int .u64 9221120237041090560] w fun e w' => e = .returned (.int .i64 0) ∧ Below w.heap.size w w'))
    (IN : Hid (∀ w, Calls Try.prog 41 #[.int .u64 9221120237041090560] w fun e w' => e = .returned (.int .i64 0) ∧ Below w.heap.size w w')) :
    Calls Try.prog 9 #[.int .u64 x, .int .u64 y] w fun e w' => e = .returned (.bool true) ∧ Below w.heap.size w w' := by
  have None_ := Lib.hid (fun w => refNone_any w)
  have HB := Lib.hid (Below.refl w.heap.size w)
  go_enter Try.func9, Try.ntmps9
  go_wp2_with fail
  refine (alive5 _).mono ?_
  rintro e w1 ⟨rfl, hb⟩
  go_wp2_with fail
  refine (None_.out _).mono ?_
  rintro e wk ⟨rfl, rfl⟩
  go_wp2_with fail
  refine (A.out _).mono ?_
  rintro e w2 ⟨rfl, hb2⟩
  go_wp2_with fail
  refine (S.out _).mono ?_
  rintro e w3 ⟨rfl, hb3⟩
  go_wp2_with fail
  refine (M.out _).mono ?_
  rintro e w4 ⟨rfl, hb4⟩
  go_wp2_with fail
  refine (D.out _).mono ?_
  rintro e w5 ⟨rfl, hb5⟩
  have H0 := Lib.hid (heap_alloc_new w5 (.cells #[.int .u64 9221120237041090560, .int .u64 9221120237041090560, .int .u64 9221120237041090560, .int .u64 9221120237041090560] 33))
  have HB5 := Lib.hid (((((HB.out.trans (hb.mono HB.out.size)).trans (hb2.mono (HB.out.trans (hb.mono HB.out.size)).size)) |> fun h => (h.trans (hb3.mono h.size))) |> fun h => (h.trans (hb4.mono h.size))) |> fun h => (h.trans (hb5.mono h.size)))
  have HB6 := Lib.hid (HB5.out.alloc HB5.out.size (.cells #[.int .u64 9221120237041090560, .int .u64 9221120237041090560, .int .u64 9221120237041090560, .int .u64 9221120237041090560] 33))
  clear hb hb2 hb3 hb4 hb5 HB
  go_wp2_with fail
  obtain ⟨b, hbb⟩ : ∃ b, w5.heap.size = b := ⟨_, rfl⟩
  rw [hbb] at H0
  generalize w5.alloc (.cells #[.int .u64 9221120237041090560, .int .u64 9221120237041090560, .int .u64 9221120237041090560, .int .u64 9221120237041090560] 33) = w6 at *
  rw [hbb]
  clear HB5 hbb
  go_loopw [8] (fun iv wr => ∃ i : Nat, iv = .int .i64 i ∧ i ≤ 4 ∧ Hid (wr.heap[b]? = some (.cells #[.int .u64 9221120237041090560, .int .u64 9221120237041090560, .int .u64 9221120237041090560, .int .u64 9221120237041090560] 33 (0, 0))) ∧ Hid (Below w.heap.size w wr)) (fun iv _ => 4 - (intOf iv).toNat)
  case atStart => exact ⟨0, rfl, by omega, H0, HB6⟩
  case round =>
    clear H0 HB6
    obtain ⟨i, rfl, hi, ht, hbl⟩ := hrel
    by_cases hlt : i < 4
    · have hcell : ∀ wv : World, wv.heap[b]? = some (.cells #[.int .u64 9221120237041090560, .int .u64 9221120237041090560, .int .u64 9221120237041090560, .int .u64 9221120237041090560] 33 (0, 0)) → wv.cell? ⟨b, i, none⟩ = some (.int .u64 9221120237041090560) := by
        intro wv hv
        rw [cell_of_row wv b i _ 33 (0, 0) hv]
        rcases (show i = 0 ∨ i = 1 ∨ i = 2 ∨ i = 3 by omega) with rfl | rfl | rfl | rfl <;> rfl
      have HC := Lib.hid hcell
      clear hcell
      have hc1 := HC.out wr ht.out
      have hi0 : (0 : Int) ≤ (i : Int) := by omega
      have hi1 : (i : Int) < 4 := by omega
      have hi2 : (i : Int) ≤ 3 := by omega
      go_wp2_with fail
      refine (CN.out _).mono ?_
      rintro e w7 ⟨rfl, hb⟩
      have ht7 := (hb.block b (heap_lt5 ht.out)).trans ht.out
      have HBl := Lib.hid (hbl.out.trans (hb.mono hbl.out.size))
      have hc7 := HC.out w7 ht7
      have HT7 := Lib.hid ht7
      clear hb ht7 hc1
      go_wp2_with fail
      refine (CX.out _).mono ?_
      rintro e w8 ⟨rfl, hb⟩
      have ht8 := (hb.block b (heap_lt5 HT7.out)).trans HT7.out
      have HBm := Lib.hid (HBl.out.trans (hb.mono HBl.out.size))
      have hc8 := HC.out w8 ht8
      have HT8 := Lib.hid ht8
      clear hb ht8 hc7 hc8
      go_wp2_with fail
      refine (CY.out _).mono ?_
      rintro e w9 ⟨rfl, hb⟩
      have ht9 := (hb.block b (heap_lt5 HT8.out)).trans HT8.out
      have HBn := Lib.hid (HBm.out.trans (hb.mono HBm.out.size))
      have hc9 := HC.out w9 ht9
      have HT9 := Lib.hid ht9
      clear hb ht9
      go_wp2
      go_roundw
      case rel => exact ⟨i + 1, by go_num, by omega, HT9, HBn⟩
      case measure => simp [intOf]; omega
    · obtain rfl : i = 4 := by omega
      have HB := hbl
      clear ht hbl
      go_wp2_with fail
      refine (CX.out _).mono ?_
      rintro e wk ⟨rfl, hb⟩
      replace HB := Lib.hid (HB.out.trans (hb.mono HB.out.size))
      clear hb
      go_wp2_with fail
      refine (CY.out _).mono ?_
      rintro e wk ⟨rfl, hb⟩
      replace HB := Lib.hid (HB.out.trans (hb.mono HB.out.size))
      clear hb
      go_wp2_with fail
      refine (TN.out _).mono ?_
      rintro e wk ⟨rfl, hb⟩
      replace HB := Lib.hid (HB.out.trans (hb.mono HB.out.size))
      clear hb
      go_wp2_with fail
      refine (IN.out _).mono ?_
      rintro e wk ⟨rfl, hb⟩
      replace HB := Lib.hid (HB.out.trans (hb.mono HB.out.size))
      clear hb
      go_wp2
      go_ret
      exact ⟨rfl, HB.out⟩
end Go.Proofs.Ytemdhlajdmkppaa
