/- SectionBack walked to its end: it answers true, over any world; no condition. -/
import Derived.Test.YtipjbgmikbbkoaaSecU
namespace Go.Proofs.Ytipjbgmikbbkoaa
set_option linter.unusedVariables false
set_option linter.unusedSimpArgs false
open Go.RowKit

theorem allA_up : ∀ (l : List (Int × List Int)) (t : Int) (acc y : List Int), allA l t acc = (y, 0) → y.length ≤ acc.length + tot l
  | [], t, acc, y, h => by simp only [allA] at h; injection h with h1 _; subst h1; simp [tot]
  | s :: r, t, acc, y, h => by
    rw [allA] at h
    split at h
    · cases h
    · split at h
      · cases h
      · have h1 := allA_up r s.1 _ y h
        have h2 := secB_len s (by omega)
        simp only [List.length_append] at h1
        simp only [tot]; omega

/-- behind the first half: bytes are listed, and written as they were. -/
theorem back_math (bs : List Int) (hb : ∀ b ∈ bs, 0 ≤ b ∧ b ≤ 255) : ((listS bs).2 ≠ 0 ∧ (listS bs).1 = []) ∨ ((listS bs).2 = 0 ∧ allS (listS bs).1 = (bs, 0) ∧ tot (listS bs).1 ≤ 2 * bs.length) := by
  by_cases h : (listS bs).2 = 0
  · have h2 := all_list hb (listS bs).1 (Prod.ext rfl h)
    refine Or.inr ⟨h, h2, ?_⟩
    have := allA_len _ _ _ _ h2
    simpa using this
  · exact Or.inl ⟨h, listS_err0 h⟩

set_option maxHeartbeats 4000000 in
set_option maxRecDepth 100000 in
theorem back_walk (A : Option Addr) (n c : Nat) (ss : List (Int × List Int)) (B : Option Addr) (m d : Nat) (bs : List Int) (w : World) (hs : Ss w A n c ss) (hb : Bs w B m d bs) :
    Calls Try.prog 6 #[.slice A n c, .slice B m d] w fun e w' => e = .returned (.bool true) ∧ Below w.heap.size w w' := by
  have HS := Lib.hid hs; have HB := Lib.hid hb
  clear hs hb
  have AL := Lib.hid (secAlive_any w)
  by_cases h1 : 2000 < m
  · have hd1 : decide ((2000 : Int) < (m : Int)) = true := by simp; omega
    go_enter Try.func6, Try.ntmps6
    go_wp2_with fail
    refine AL.out.mono ?_; rintro e w1 ⟨rfl, hw1⟩
    have H1 := Lib.hid hw1; have HS1 := Lib.hid (HS.out.below hw1)
    clear hw1
    go_wp2_with fail
    refine (great_any A n c ss w1 HS1.out).mono ?_; rintro e w2 ⟨⟨g, rfl, hg⟩, rfl⟩
    clear hg
    cases g <;>
    · go_wp2
      go_ret
      exact ⟨rfl, H1.out⟩
  · have hd1 : decide ((2000 : Int) < (m : Int)) = false := by simp; omega
    have hmath := back_math bs HB.out.byte
    have hll := listS_len bs
    rw [HB.out.len] at hll hmath
    have Q5 := Lib.hid (fun w2 h => secList_any B m d bs w2 h (by omega))
    generalize listS bs = L at Q5 hll hmath
    obtain ⟨k, f⟩ := L
    have HLL := Lib.hid (show k.length ≤ m from hll)
    have HM := Lib.hid hmath
    clear hll hmath
    go_enter Try.func6, Try.ntmps6
    go_wp2_with fail
    refine AL.out.mono ?_; rintro e w1 ⟨rfl, hw1⟩
    have H1 := Lib.hid hw1; have HS1 := Lib.hid (HS.out.below hw1); have HB1 := Lib.hid (HB.out.below hw1)
    clear hw1
    go_wp2_with fail
    refine (great_any A n c ss w1 HS1.out).mono ?_; rintro e w2 ⟨⟨g, rfl, hg⟩, rfl⟩
    cases g with
    | true =>
      clear hg
      go_wp2
      go_ret
      exact ⟨rfl, H1.out⟩
    | false =>
      have hg := hg rfl
      have hn : n ≤ 1000 := by have := len_tot1 ss; have := HS.out.len; omega
      have htot8 : tot ss ≤ 8000 := by have := tot_tot1 ss; omega
      have HTot := Lib.hid htot8
      have Q1 := Lib.hid (fun w2 h => secAll_any A n c ss w2 h (by omega) (Nat.le_trans HTot.out (by omega)))
      obtain ⟨R, hR⟩ : ∃ R, allS ss = R := ⟨_, rfl⟩
      rw [hR] at Q1
      have HR := Lib.hid hR
      obtain ⟨ys, er⟩ := R
      clear hg htot8 hR
      -- the second half, from whatever world the first has left
      have second : ∀ w5 : World, Hid (Below w.heap.size w w5) → Hid (Bs w5 B m d bs) → Hid (Below w.heap.size w w5) ∧ Hid (Bs w5 B m d bs) := fun _ a b => ⟨a, b⟩
      by_cases he : er = 0
      · subst he
        have hyl : ys.length ≤ 8000 := by have := allA_up _ _ _ _ HR.out; have := HTot.out; simp only [List.length_nil] at *; omega
        have HL := Lib.hid (list_all ss ys HR.out)
        have HYl := Lib.hid hyl
        clear hyl
        go_wp2_with fail
        refine (Q1.out _ HS1.out).mono ?_; rintro e w3 ⟨A3, n3, c3, rfl, hb3, hw3⟩
        have H3 := Lib.hid (H1.out.trans (hw3.mono H1.out.size)); have HS3 := Lib.hid (HS1.out.below hw3); have HB3 := Lib.hid (HB1.out.below hw3)
        have Q3 := secList_any A3 n3 c3 ys w3 hb3 (by have h5 : ys.length = n3 := hb3.len; have := HYl.out; omega)
        rw [HL.out] at Q3
        have Q3 := Lib.hid Q3
        clear hb3 hw3
        go_wp2_with fail
        refine Q3.out.mono ?_; rintro e w4 ⟨A4, n4, c4, rfl, hs4, hw4⟩
        have H4 := Lib.hid (H3.out.trans (hw4.mono H3.out.size)); have HS4 := Lib.hid (HS3.out.below hw4); have HB4 := Lib.hid (HB3.out.below hw4)
        have S := same_any A4 n4 c4 ss A n c ss w4 hs4 HS4.out (by have h5 : ss.length = n4 := hs4.len; have := HS.out.len; omega)
        rw [show decide (ss = ss) = true by simp] at S
        have S := Lib.hid S
        clear hs4 hw4 Q3
        go_wp2_with fail
        refine S.out.mono ?_; rintro e w5 ⟨rfl, hw5⟩
        have H5 := Lib.hid (H4.out.trans (hw5.mono H4.out.size)); have HB5 := Lib.hid (HB4.out.below hw5)
        clear hw5 S
        go_wp2_with fail
        refine (Q5.out _ HB5.out).mono ?_; rintro e w6 ⟨A6, n6, c6, rfl, hs6, hw6⟩
        have H6 := Lib.hid (H5.out.trans (hw6.mono H5.out.size)); have HB6 := Lib.hid (HB5.out.below hw6)
        rcases HM.out with ⟨hf, hk⟩ | ⟨hf, hk, ht⟩
        · have hd3 : (f != 0) = true := by simpa using hf
          have hk : k = [] := hk
          subst hk
          obtain rfl : n6 = 0 := hs6.len.symm
          clear hs6 hw6 hf second
          go_wp2
          go_ret
          exact ⟨by simp, H6.out⟩
        · have hf : f = 0 := hf
          subst hf
          have Q6 := secAll_any A6 n6 c6 k w6 hs6 (by have h5 : k.length = n6 := hs6.len; have := HLL.out; omega) (Nat.le_trans ht (by omega))
          rw [show allS k = (bs, 0) from hk] at Q6
          have Q6 := Lib.hid Q6
          clear hs6 hw6 hk ht second
          go_wp2_with fail
          refine Q6.out.mono ?_; rintro e w7 ⟨A7, n7, c7, rfl, hb7, hw7⟩
          have H7 := Lib.hid (H6.out.trans (hw7.mono H6.out.size))
          have x1 := hb7.text; have x2 := (HB6.out.below hw7).text
          clear hb7 hw7
          go_wp2
          go_ret
          exact ⟨by simp, H7.out⟩
      · have hd2 : (er == 0) = false := by simpa using he
        have HE := Lib.hid he
        clear he
        go_wp2_with fail
        refine (Q1.out _ HS1.out).mono ?_; rintro e w5 ⟨A3, n3, c3, rfl, hb3, hw3⟩
        have H5 := Lib.hid (H1.out.trans (hw3.mono H1.out.size)); have HB5 := Lib.hid (HB1.out.below hw3)
        clear hb3 hw3
        go_wp2_with fail
        refine (Q5.out _ HB5.out).mono ?_; rintro e w6 ⟨A6, n6, c6, rfl, hs6, hw6⟩
        have H6 := Lib.hid (H5.out.trans (hw6.mono H5.out.size)); have HB6 := Lib.hid (HB5.out.below hw6)
        rcases HM.out with ⟨hf, hk⟩ | ⟨hf, hk, ht⟩
        · have hd3 : (f != 0) = true := by simpa using hf
          have hk : k = [] := hk
          subst hk
          obtain rfl : n6 = 0 := hs6.len.symm
          clear hs6 hw6 hf second
          go_wp2
          go_ret
          exact ⟨by simp, H6.out⟩
        · have hf : f = 0 := hf
          subst hf
          have Q6 := secAll_any A6 n6 c6 k w6 hs6 (by have h5 : k.length = n6 := hs6.len; have := HLL.out; omega) (Nat.le_trans ht (by omega))
          rw [show allS k = (bs, 0) from hk] at Q6
          have Q6 := Lib.hid Q6
          clear hs6 hw6 hk ht second
          go_wp2_with fail
          refine Q6.out.mono ?_; rintro e w7 ⟨A7, n7, c7, rfl, hb7, hw7⟩
          have H7 := Lib.hid (H6.out.trans (hw7.mono H6.out.size))
          have x1 := hb7.text; have x2 := (HB6.out.below hw7).text
          clear hb7 hw7
          go_wp2
          go_ret
          exact ⟨by simp, H7.out⟩
end Go.Proofs.Ytipjbgmikbbkoaa
