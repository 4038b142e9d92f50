/- The walk of RealNone where none of both is none: it answers true, over any world; no condition. -/
import Derived.Test.YtemdhlajdmkppaaRealX
namespace Go.Proofs.Ytemdhlajdmkppaa
set_option linter.unusedVariables false
set_option linter.unusedSimpArgs false
open Go.RowKit
open Ieee

set_option maxRecDepth 100000 in
set_option maxHeartbeats 8000000 in
theorem some5_YC3 (x y cx cy s0 s1 s2 s3 k0 k1 k2 k3 m dv : Int) (p0 p3 q0 q3 e d0 d1 d2 d3 : Bool) (w : World)
    (fp0 : (cx == 0) = p0) (fp3 : (cx == 3) = p3) (fp4 : (cx == 4) = false) (fq0 : (cy == 0) = q0) (fq3 : (cy == 3) = q3) (fq4 : (cy == 4) = false) (fg : decide (2 < cx) = p3)
    (fe : (x == y) = e) (fe' : (x != y) = !e)
    (BA : bits .and .u64 x 9223372036854775808 = m) (BO : bits .or .u64 9218868437227405312 m = dv)
    (hd : p0 = true ∧ p3 = false ∧ q0 = false ∧ q3 = false ∧ e = e ∧ d0 = false ∧ d1 = false ∧ d2 = false ∧ d3 = false)
    (fk : ∀ i : Nat, i < 4 → ∃ s k d, #[.int .u64 s0, .int .u64 s1, .int .u64 s2, .int .u64 s3][i]? = some (Value.int .u64 s) ∧ (k == 4) = d ∧ (s != 9221120237041090560) = (!d) ∧ (∀ w, Calls Try.prog 11 #[.int .u64 s] w fun e w' => e = .returned (.int .i64 k) ∧ Below w.heap.size w w'))
    (fs0 : (s0 == 9221120237041090560) = d0) (fs1 : (s1 == 9221120237041090560) = d1) (fs2 : (s2 == 9221120237041090560) = d2) (fs3 : (s3 == 9221120237041090560) = d3)
    (A : Hid (∀ w, Calls Try.prog 31 #[.int .u64 x, .int .u64 y] w fun e w' => e = .returned (.int .u64 s0) ∧ Below w.heap.size w w'))
    (S : Hid (∀ w, Calls Try.prog 33 #[.int .u64 x, .int .u64 y] w fun e w' => e = .returned (.int .u64 s1) ∧ Below w.heap.size w w'))
    (M : Hid (∀ w, Calls Try.prog 35 #[.int .u64 x, .int .u64 y] w fun e w' => e = .returned (.int .u64 s2) ∧ Below w.heap.size w w'))
    (D : Hid (∀ w, Calls Try.prog 37 #[.int .u64 x, .int .u64 y] w fun e w' => e = .returned (.int .u64 s3) ∧ Below w.heap.size w w'))
    (CX : Hid (∀ w, Calls Try.prog 11 #[.int .u64 x] w fun e w' => e = .returned (.int .i64 cx) ∧ Below w.heap.size w w'))
    (CY : Hid (∀ w, Calls Try.prog 11 #[.int .u64 y] w fun e w' => e = .returned (.int .i64 cy) ∧ Below w.heap.size w w'))
    (SS : Hid (p3 = false → ∀ w, Calls Try.prog 33 #[.int .u64 x, .int .u64 x] w fun e w' => e = .returned (.int .u64 0) ∧ Below w.heap.size w w'))
    (DZ : Hid (p0 = false → p3 = false → ∀ w, Calls Try.prog 37 #[.int .u64 x, .int .u64 0] w fun e w' => e = .returned (.int .u64 dv) ∧ Below w.heap.size w w')) :
    Calls Try.prog 9 #[.int .u64 x, .int .u64 y] w fun e w' => e = .returned (.bool true) ∧ Below w.heap.size w w' := by
  have None_ := Lib.hid (fun w => refNone_any w)
  have HB := Lib.hid (Below.refl w.heap.size w)
  replace fk := Lib.hid fk
  replace hd := Lib.hid hd
  go_enter Try.func9, Try.ntmps9
  go_wp2_with fail
  refine (alive5 _).mono ?_
  rintro e w1 ⟨rfl, hb⟩
  go_wp2_with fail
  refine (None_.out _).mono ?_
  rintro e wk ⟨rfl, rfl⟩
  go_wp2_with fail
  refine (A.out _).mono ?_
  rintro e w2 ⟨rfl, hb2⟩
  go_wp2_with fail
  refine (S.out _).mono ?_
  rintro e w3 ⟨rfl, hb3⟩
  go_wp2_with fail
  refine (M.out _).mono ?_
  rintro e w4 ⟨rfl, hb4⟩
  go_wp2_with fail
  refine (D.out _).mono ?_
  rintro e w5 ⟨rfl, hb5⟩
  have H0 := Lib.hid (heap_alloc_new w5 (.cells #[.int .u64 s0, .int .u64 s1, .int .u64 s2, .int .u64 s3] 33))
  have HB5 := Lib.hid (((((HB.out.trans (hb.mono HB.out.size)).trans (hb2.mono (HB.out.trans (hb.mono HB.out.size)).size)) |> fun h => (h.trans (hb3.mono h.size))) |> fun h => (h.trans (hb4.mono h.size))) |> fun h => (h.trans (hb5.mono h.size)))
  have HB6 := Lib.hid (HB5.out.alloc HB5.out.size (.cells #[.int .u64 s0, .int .u64 s1, .int .u64 s2, .int .u64 s3] 33))
  clear hb hb2 hb3 hb4 hb5 HB
  go_wp2_with fail
  obtain ⟨b, hbb⟩ : ∃ b, w5.heap.size = b := ⟨_, rfl⟩
  rw [hbb] at H0
  generalize w5.alloc (.cells #[.int .u64 s0, .int .u64 s1, .int .u64 s2, .int .u64 s3] 33) = w6 at *
  rw [hbb]
  clear HB5 hbb
  go_loopw [8] (fun iv wr => ∃ i : Nat, iv = .int .i64 i ∧ i ≤ 4 ∧ Hid (wr.heap[b]? = some (.cells #[.int .u64 s0, .int .u64 s1, .int .u64 s2, .int .u64 s3] 33 (0, 0))) ∧ Hid (Below w.heap.size w wr)) (fun iv _ => 4 - (intOf iv).toNat)
  case atStart => exact ⟨0, rfl, by omega, H0, HB6⟩
  case round =>
    clear H0 HB6
    obtain ⟨i, rfl, hi, ht, hbl⟩ := hrel
    by_cases hlt : i < 4
    · obtain ⟨s, k, d, hs, hk, hn, CN⟩ := fk.out i hlt
      have hcell : ∀ wv : World, wv.heap[b]? = some (.cells #[.int .u64 s0, .int .u64 s1, .int .u64 s2, .int .u64 s3] 33 (0, 0)) → wv.cell? ⟨b, i, none⟩ = some (.int .u64 s) := by
        intro wv hv
        rw [cell_of_row wv b i _ 33 (0, 0) hv]
        exact hs
      have HC := Lib.hid hcell
      replace CN := Lib.hid CN
      clear hcell hs fs0 fs1 fs2 fs3 fp0 fp3 fq0 fq3 fg fe fe' BA BO
      have hc1 := HC.out wr ht.out
      have hi0 : (0 : Int) ≤ (i : Int) := by omega
      have hi1 : (i : Int) < 4 := by omega
      have hi2 : (i : Int) ≤ 3 := by omega
      go_wp2_with fail
      refine (CN.out _).mono ?_
      rintro e w7 ⟨rfl, hb⟩
      have ht7 := (hb.block b (heap_lt5 ht.out)).trans ht.out
      have HBl := Lib.hid (hbl.out.trans (hb.mono hbl.out.size))
      have hc7 := HC.out w7 ht7
      have HT7 := Lib.hid ht7
      clear hb ht7 hc1
      cases d
      all_goals
        go_wp2_with fail
        refine (CX.out _).mono ?_
        rintro e w8 ⟨rfl, hb⟩
        have ht8 := (hb.block b (heap_lt5 HT7.out)).trans HT7.out
        have HBm := Lib.hid (HBl.out.trans (hb.mono HBl.out.size))
        have HT8 := Lib.hid ht8
        clear hb ht8 hc7
        go_wp2_with fail
        refine (CY.out _).mono ?_
        rintro e w9 ⟨rfl, hb⟩
        have ht9 := (hb.block b (heap_lt5 HT8.out)).trans HT8.out
        have HBn := Lib.hid (HBm.out.trans (hb.mono HBm.out.size))
        have HT9 := Lib.hid ht9
        clear hb ht9
        go_wp2
        go_roundw
        case rel => exact ⟨i + 1, by go_num, by omega, HT9, HBn⟩
        case measure => simp [intOf]; omega
    · obtain rfl : i = 4 := by omega
      go_wp2_with fail
      refine (CX.out _).mono ?_
      rintro e w8 ⟨rfl, hb⟩
      have ht8 := (hb.block b (heap_lt5 ht.out)).trans ht.out
      have HBm := Lib.hid (hbl.out.trans (hb.mono hbl.out.size))
      clear hb
      go_wp2_with fail
      refine (CY.out _).mono ?_
      rintro e w9 ⟨rfl, hb⟩
      have ht9 := (hb.block b (heap_lt5 ht8)).trans ht8
      have HB := Lib.hid (HBm.out.trans (hb.mono HBm.out.size))
      clear hb ht8 hbl HBm
      have z0 : w9.cell? ⟨b, 0, none⟩ = some (.int .u64 s0) := by rw [cell_of_row w9 b 0 _ 33 (0, 0) ht9]; rfl
      have z1 : w9.cell? ⟨b, 1, none⟩ = some (.int .u64 s1) := by rw [cell_of_row w9 b 1 _ 33 (0, 0) ht9]; rfl
      have z2 : w9.cell? ⟨b, 2, none⟩ = some (.int .u64 s2) := by rw [cell_of_row w9 b 2 _ 33 (0, 0) ht9]; rfl
      have z3 : w9.cell? ⟨b, 3, none⟩ = some (.int .u64 s3) := by rw [cell_of_row w9 b 3 _ 33 (0, 0) ht9]; rfl
      clear ht9 ht
      have hd' := hd.out
      clear hd fk DZ BA BO
      clear CX CY A S M D None_
      obtain ⟨rfl, rfl, rfl, rfl, -, rfl, rfl, rfl, rfl⟩ := hd'
      replace SS := Lib.hid (SS.out rfl)
      go_wp2_with fail
      refine (SS.out _).mono ?_
      rintro e wk ⟨rfl, hb⟩
      replace HB := Lib.hid (HB.out.trans (hb.mono HB.out.size))
      clear hb SS
      go_wp2
      go_ret
      exact ⟨rfl, HB.out⟩
end Go.Proofs.Ytemdhlajdmkppaa
