/- SectionReads and SectionLists walked to their end: each answers true, over any world; no condition. -/
import Derived.Test.YtipjbgmikbbkoaaSecT
namespace Go.Proofs.Ytipjbgmikbbkoaa
set_option linter.unusedVariables false
set_option linter.unusedSimpArgs false
open Go.RowKit

theorem listA_len {bs : List Int} : ∀ (f k : Nat) (acc : List (Int × List Int)), (listA bs f k acc).1.length ≤ acc.length + f
  | 0, k, acc => by simp [listA]
  | f + 1, k, acc => by
    rw [listA]
    split
    · simp only; omega
    · split
      · simp
      · split
        · simp
        · have := listA_len f (secS bs k).2.1.toNat (acc ++ [(secS bs k).1]) (bs := bs)
          simp only [List.length_append, List.length_singleton] at this; omega
theorem listS_len (bs : List Int) : (listS bs).1.length ≤ bs.length := by have := listA_len bs.length 0 [] (bs := bs); simpa [listS] using this

set_option maxHeartbeats 4000000 in
set_option maxRecDepth 100000 in
theorem reads_walk (A : Option Addr) (n c : Nat) (xs : List Int) (at_ : Int) (w : World) (ha : Bs w A n c xs) :
    Calls Try.prog 4 #[.slice A n c, .int .i64 at_] w fun e w' => e = .returned (.bool true) ∧ Below w.heap.size w w' := by
  have HA := Lib.hid ha
  clear ha
  have AL := Lib.hid (secAlive_any w)
  by_cases h1 : 2000 < n
  · have hd1 : decide ((2000 : Int) < (n : Int)) = true := by simp; omega
    go_enter Try.func4, Try.ntmps4
    go_wp2_with fail
    refine AL.out.mono ?_; rintro e w1 ⟨rfl, hw1⟩
    have H1 := Lib.hid hw1
    clear hw1
    go_wp2
    go_ret
    exact ⟨rfl, H1.out⟩
  · have hd1 : decide ((2000 : Int) < (n : Int)) = false := by simp; omega
    have hll := listS_len xs
    rw [HA.out.len] at hll
    have Q1 := Lib.hid (fun w2 h => secRead_any A n c xs at_ w2 h (by omega))
    have Q2 := Lib.hid (fun w2 h => refSecRead_any A n c xs at_ w2 h (by omega))
    have Q3 := Lib.hid (fun w2 h => secList_any A n c xs w2 h (by omega))
    have Q4 := Lib.hid (fun w2 h => refSecList_any A n c xs w2 h (by omega))
    generalize secS xs at_ = R at Q1 Q2
    obtain ⟨⟨t, body⟩, k', er⟩ := R
    generalize listS xs = L at Q3 Q4 hll
    obtain ⟨l, el⟩ := L
    have HLL := Lib.hid (show l.length ≤ n from hll)
    clear hll
    go_enter Try.func4, Try.ntmps4
    go_wp2_with fail
    refine AL.out.mono ?_; rintro e w1 ⟨rfl, hw1⟩
    have H1 := Lib.hid hw1; have HA1 := Lib.hid (HA.out.below hw1)
    clear hw1
    go_wp2_with fail
    refine (Q1.out _ HA1.out).mono ?_; rintro e w2 ⟨A2, n2, c2, rfl, hb2, _, hw2⟩
    have hw2' := hd0 w2 (o := .cells #[.int .u8 t, .slice A2 n2 c2] 24)
    have hw2'' := hw2.trans (hw2'.mono hw2.size)
    have H2 := Lib.hid (H1.out.trans (hw2''.mono H1.out.size)); have HA2 := Lib.hid (HA1.out.below hw2''); have HB2 := Lib.hid (hb2.below hw2')
    have HP2 := Lib.hid (heap_alloc_new w2 (.cells #[.int .u8 t, .slice A2 n2 c2] 24))
    clear hb2 hw2 hw2' hw2''
    go_wp2_with fail
    generalize w2.heap.size = s1 at *
    generalize w2.alloc (.cells #[.int .u8 t, .slice A2 n2 c2] 24) = w3 at *
    refine (Q2.out _ HA2.out).mono ?_; rintro e w4 ⟨A4, n4, c4, rfl, hb4, _, hw4⟩
    have hw4' := hd0 w4 (o := .cells #[.int .u8 t, .slice A4 n4 c4] 24)
    have hw4'' := hw4.trans (hw4'.mono hw4.size)
    have H4 := Lib.hid (H2.out.trans (hw4''.mono H2.out.size)); have HA4 := Lib.hid (HA2.out.below hw4''); have HB4 := Lib.hid (HB2.out.below hw4''); have HC4 := Lib.hid (hb4.below hw4')
    have HP4 := Lib.hid ((hw4''.block _ (heap_lt HP2.out)).trans HP2.out)
    have HQ4 := Lib.hid (heap_alloc_new w4 (.cells #[.int .u8 t, .slice A4 n4 c4] 24))
    clear hb4 hw4 hw4' hw4''
    go_wp2_with fail
    generalize w4.heap.size = s2 at *
    generalize w4.alloc (.cells #[.int .u8 t, .slice A4 n4 c4] 24) = w5 at *
    refine (Q3.out _ HA4.out).mono ?_; rintro e w6 ⟨A6, n6, c6, rfl, hs6, hw6⟩
    have H6 := Lib.hid (H4.out.trans (hw6.mono H4.out.size)); have HA6 := Lib.hid (HA4.out.below hw6); have HB6 := Lib.hid (HB4.out.below hw6); have HC6 := Lib.hid (HC4.out.below hw6)
    have HP6 := Lib.hid ((hw6.block _ (heap_lt HP4.out)).trans HP4.out); have HQ6 := Lib.hid ((hw6.block _ (heap_lt HQ4.out)).trans HQ4.out)
    have HS6 := Lib.hid hs6
    clear hw6 hs6
    go_wp2_with fail
    refine (Q4.out _ HA6.out).mono ?_; rintro e w7 ⟨A7, n7, c7, rfl, hs7, hw7⟩
    have H7 := Lib.hid (H6.out.trans (hw7.mono H6.out.size))
    have p7 := (hw7.block _ (heap_lt HP6.out)).trans HP6.out; have q7 := (hw7.block _ (heap_lt HQ6.out)).trans HQ6.out
    have k0 := pair0 p7; have k1 := pair1 p7; have j0 := pair0 q7; have j1 := pair1 q7
    have x1 := (HB6.out.below hw7).text; have x2 := (HC6.out.below hw7).text
    have S := Lib.hid (same_any A6 n6 c6 l A7 n7 c7 l w7 (HS6.out.below hw7) hs7 (by have := HS6.out.len; have := HLL.out; omega))
    clear hw7 hs7 p7 q7
    go_wp2_with fail
    refine S.out.mono ?_; rintro e w8 ⟨rfl, hw8⟩
    have H8 := Lib.hid (H7.out.trans (hw8.mono H7.out.size))
    clear hw8
    go_wp2
    go_ret
    exact ⟨by simp, H8.out⟩

set_option maxHeartbeats 4000000 in
set_option maxRecDepth 100000 in
theorem lists_walk (A : Option Addr) (n c : Nat) (ss : List (Int × List Int)) (t : Int) (w : World) (hs : Ss w A n c ss) (t0 : 0 ≤ t) (t1 : t ≤ 255) :
    Calls Try.prog 5 #[.slice A n c, .int .u8 t] w fun e w' => e = .returned (.bool true) ∧ Below w.heap.size w w' := by
  have HS := Lib.hid hs
  clear hs
  have AL := Lib.hid (secAlive_any w)
  go_enter Try.func5, Try.ntmps5
  go_wp2_with fail
  refine AL.out.mono ?_; rintro e w1 ⟨rfl, hw1⟩
  have H1 := Lib.hid hw1; have HS1 := Lib.hid (HS.out.below hw1)
  clear hw1
  go_wp2_with fail
  refine (great_any A n c ss w1 HS1.out).mono ?_; rintro e w2 ⟨⟨g, rfl, hg⟩, rfl⟩
  cases g with
  | true =>
    clear hg
    go_wp2
    go_ret
    exact ⟨rfl, H1.out⟩
  | false =>
    have hg := hg rfl
    have hn : n ≤ 1000 := by have := len_tot1 ss; have := HS.out.len; omega
    have htot : tot ss ≤ 8192 := by have := tot_tot1 ss; omega
    have HTot := Lib.hid htot
    have Q1 := Lib.hid (fun w2 h => secAll_any A n c ss w2 h (by omega) HTot.out)
    have Q2 := Lib.hid (fun w2 h => refSecAll_any A n c ss w2 h (by omega) HTot.out)
    have Q3 := Lib.hid (fun w2 h => find_any A n c ss t w2 h (by omega) HTot.out)
    generalize allS ss = R at Q1 Q2
    obtain ⟨ys, er⟩ := R
    obtain ⟨F, hF⟩ : ∃ F, findS ss t = F := ⟨_, rfl⟩
    rw [hF] at Q3
    obtain ⟨fb, ok⟩ := F
    have HF := Lib.hid (show findS (ss.drop 0) t = (fb, ok) from hF)
    clear hg htot hF
    go_wp2_with fail
    refine (Q1.out _ HS1.out).mono ?_; rintro e w3 ⟨A3, n3, c3, rfl, hb3, hw3⟩
    have H3 := Lib.hid (H1.out.trans (hw3.mono H1.out.size)); have HS3 := Lib.hid (HS1.out.below hw3); have HB3 := Lib.hid hb3
    clear hb3 hw3
    go_wp2_with fail
    refine (Q2.out _ HS3.out).mono ?_; rintro e w4 ⟨A4, n4, c4, rfl, hb4, hw4⟩
    have H4 := Lib.hid (H3.out.trans (hw4.mono H3.out.size)); have HS4 := Lib.hid (HS3.out.below hw4)
    have x1 := (HB3.out.below hw4).text; have x2 := hb4.text
    clear hb4 hw4
    go_wp2_with fail
    refine (Q3.out _ HS4.out).mono ?_; rintro e w5 ⟨A5, n5, c5, rfl, hb5, hw5⟩
    have H5 := Lib.hid (H4.out.trans (hw5.mono H4.out.size)); have HS5 := Lib.hid (HS4.out.below hw5); have HB5 := Lib.hid hb5
    clear hb5 hw5 x1 x2
    go_wp2
    go_loop [11] (fun iv => ∃ i : Nat, i ≤ n ∧ iv = .int .i64 (i : Int) ∧ Hid (findS (ss.drop i) t = (fb, ok))) (fun iv => n - (intOf iv).toNat)
    case atStart => exact ⟨0, by omega, rfl, HF.out⟩
    case round =>
      obtain ⟨i, hi, rfl, hd⟩ := hrel
      have HD := Lib.hid hd
      clear hd
      by_cases hlt : i < n
      · have hd1 : decide ((i : Int) < (n : Int)) = true := by simpa using hlt
        obtain ⟨b, off, s, B, m, d, rfl, hb0, hc0, hc1, hbb, ⟨s0, s1⟩, hdr, hget⟩ := HS5.out.look i hlt
        have HBB := Lib.hid hbb; have HDr := Lib.hid hdr
        obtain ⟨u, body⟩ := s
        simp only at s0 s1 hc0
        have hib1 : (0 : Int) ≤ (i : Int) := by omega
        have hib2 : (i : Int) < (n : Int) := by omega
        clear hbb hdr hget
        cases hu : (u == t) with
        | true =>
          have hE : (body, true) = (fb, ok) := (findS_here HDr.out (by simpa using hu)).symm.trans HD.out.out
          injection hE with e1 e2
          subst e1; subst e2
          have x1 := fun k => (HB5.out.drewN k).text
          have x2 := fun k => (HBB.out.drewN k).text
          go_wp2
          go_quiet (fail)
          go_wp2
          go_ret
          exact ⟨by simp, ⟨H5.out.os, H5.out.tape, H5.out.output, H5.out.size, H5.out.block⟩⟩
        | false =>
          have HE := Lib.hid (show findS (ss.drop (i + 1)) t = (fb, ok) by rw [← HD.out.out]; exact (findS_next HDr.out (by simpa using hu)).symm)
          go_wp2
          go_round
          case rel => exact ⟨i + 1, by omega, by go_num, HE.out⟩
          case measure => simp [intOf]; omega
      · have hd1 : decide ((i : Int) < (n : Int)) = false := by simpa using hlt
        have hE : (fb, ok) = ([], false) := by
          rw [← HD.out.out, List.drop_of_length_le (by rw [HS.out.len]; omega)]; rfl
        injection hE with e1 e2
        subst e1; subst e2
        obtain rfl : n5 = 0 := HB5.out.len.symm
        go_wp2
        go_ret
        exact ⟨by simp, H5.out⟩
end Go.Proofs.Ytipjbgmikbbkoaa
