/- The walk of DrawMany: it answers true, over any world; no condition. -/
import Derived.Test.YtmjpemddndjcpaaDrawT
import Derived.BigQuiet
import Derived.Deep.QuietTactic
namespace Go.Proofs.Ytmjpemddndjcpaa
set_option linter.unusedVariables false
set_option linter.unusedSimpArgs false
open Go.RowKit

/-- two slices of words, one behind the other, in a row of the call's own. -/
theorem two_rows (w : World) (A : Option Addr) (n c : Nat) (xs : List Nat) (B : Option Addr) (m d : Nat) (ys : List Nat) (hx : Ws w A n c xs) (hy : Ws w B m d ys) (hn : n ≤ 16384) (hm : m ≤ 16384) :
    ∃ v w1 C k e w2, (Builtin.append_ #[26, 26] 26 #[.slice (some ⟨w.heap.size, 0, none⟩) 0 0, .slice A n c]).run Try.prog (w.alloc (.cells #[] 22)) = .ok v w1 ∧
      (Builtin.append_ #[26, 26] 26 #[v, .slice B m d]).run Try.prog w1 = .ok (.slice C k e) w2 ∧ Ws w2 C k e (xs ++ ys) ∧ Below w.heap.size w w2 := by
  obtain ⟨i5, hi5, hz0, hz1, hz2⟩ := info_any info64
  have h0 : (w.alloc (.cells #[] 22)).ownsRow w.heap.size 22 1 (.slice (some ⟨w.heap.size, 0, none⟩) 0 0) 0 [] := World.ownsRow_lit w #[] 0 (Nat.le_refl _) (by unfold maxLen; omega) (by simp)
  have hb0 : Below w.heap.size w (w.alloc (.cells #[] 22)) := (Below.refl _ _).alloc (Nat.le_refl _) _
  obtain ⟨v, w1, r1, o1, g1, k1⟩ := eapp_own (P := Try.prog) (w.alloc (.cells #[] 22)) w.heap.size 26 26 22 i5 _ 1 8 Try.underlying26 hi5 hz0 hz1 hz2 rfl (by decide) _ 0 _ h0 A n c _ (Es.alloc hx _) (by unfold maxLen; omega) (by omega) (by simp)
  rw [Nat.zero_add, List.nil_append] at o1
  have hb1 : Below w.heap.size w w1 := hb0.grown g1 (by simp) (by simp [Value.ownBlock])
  obtain ⟨v2, w2, r2, o2, g2, k2⟩ := eapp_own (P := Try.prog) w1 w.heap.size 26 26 22 i5 _ 1 8 Try.underlying26 hi5 hz0 hz1 hz2 rfl (by decide) v n _ o1 B m d _ (Es.below hy hb1) (by unfold maxLen; omega) (by omega) hb1.size
  rw [← U64s_app] at o2
  have hb2 : Below w.heap.size w w2 := hb1.grown g2 hb1.size (fun g hg => (o1.lt g hg).1)
  obtain ⟨C, e, rfl, hw⟩ := Es.of_own o2 (U64s_one _)
  exact ⟨v, w1, C, _, e, w2, r1, r2, hw, hb2⟩
set_option maxRecDepth 100000 in
set_option maxHeartbeats 8000000 in
theorem many6_walk (s a b : Int) (w : World) (s0 : (Lit.int .u64 s).wf = true) (a0 : (Lit.int .u8 a).wf = true) (b0 : (Lit.int .u8 b).wf = true) :
    Calls Try.prog 8 #[.int .u64 s, .agg #[.int .u8 a, .int .u8 b]] w fun e w' => e = .returned (.bool true) ∧ Below w.heap.size w w' := by
  obtain ⟨S, rfl, hs⟩ := nat_u64' s0
  obtain ⟨p, rfl, hp⟩ : ∃ p : Nat, a = p ∧ p ≤ 255 := ⟨a.toNat, by have := bounds_u8 a0; omega, by have := bounds_u8 a0; omega⟩
  obtain ⟨q, rfl, hq⟩ : ∃ q : Nat, b = q ∧ q ≤ 255 := ⟨b.toNat, by have := bounds_u8 b0; omega, by have := bounds_u8 b0; omega⟩
  have mk : ∀ n : Nat, n ≤ 1000 → manyK (n : Int) = n := fun n hn => by unfold manyK; rw [if_pos (by omega)]; rfl
  have M1 := fun w => drawMany_any S (p : Int) w hs (by omega) (by omega)
  have M2 := fun w => drawMany_any (statesN S p) (q : Int) w (statesN_lt hs p) (by omega) (by omega)
  have M3 := fun w => drawMany_any S ((p + q : Nat) : Int) w hs (by omega) (by omega)
  rw [mk p (by omega)] at M1
  rw [mk q (by omega), ← states_add] at M2
  rw [mk (p + q) (by omega), words_add, show ((p + q : Nat) : Int) = (p : Int) + (q : Int) by omega] at M3
  have K1 := fun (i : Nat) w => drawBack_any (backsN (statesN S p) i) w (by
    cases i with
    | zero => exact statesN_lt hs p
    | succ i => exact backN_lt _)
  have hend : backsN (statesN S p) p = S := by rw [backs_states hs p p (Nat.le_refl _), Nat.sub_self]; rfl
  have L1len := words_len S p
  have L2len := words_len (statesN S p) q
  have W := fun (A B : Option Addr) (n1 c1 n2 c2 : Nat) (w : World) (h1 : Ws w A n1 c1 (wordsN S p ++ wordsN (statesN S p) q)) (h2 : Ws w B n2 c2 (wordsN S p ++ wordsN (statesN S p) q)) =>
    (refWords_any A n1 c1 _ B n2 c2 _ w h1 h2 (by have := h1.len; rw [List.length_append] at this; omega)).mono (post_eq6 (b := .bool true) (by rw [decide_eq_true rfl]))
  generalize wordsN (statesN S p) q = l2 at *
  generalize wordsN S p = l1 at *
  generalize statesN S (p + q) = st3 at *
  generalize statesN S p = st1 at *
  replace M1 := Lib.hid M1; replace M2 := Lib.hid M2; replace M3 := Lib.hid M3; replace K1 := Lib.hid K1; replace W := Lib.hid W
  have HE := Lib.hid hend; have HL1 := Lib.hid L1len; have HL2 := Lib.hid L2len
  have B0 := Lib.hid ((Below.refl w.heap.size w).alloc (Nat.le_refl _) (.cells #[.int .u8 (p : Int), .int .u8 (q : Int)] 37))
  clear hs mk hend L1len L2len s0 a0 b0
  go_enter Try.func8, Try.ntmps8
  go_wp2_with fail
  refine (alive6 _).mono ?_
  rintro e w1 ⟨rfl, hb⟩
  have hc0 : w1.cell? ⟨w.heap.size, 0, none⟩ = some (.int .u8 (p : Int)) := by
    rw [hb.cell (p := ⟨w.heap.size, 0, none⟩) (by simp), cell_of_row _ w.heap.size 0 _ 37 (0, 0) (heap_alloc_new w _)]; rfl
  have hc1 : w1.cell? ⟨w.heap.size, 1, none⟩ = some (.int .u8 (q : Int)) := by
    rw [hb.cell (p := ⟨w.heap.size, 1, none⟩) (by simp), cell_of_row _ w.heap.size 1 _ 37 (0, 0) (heap_alloc_new w _)]; rfl
  have HB := Lib.hid (B0.out.trans (hb.mono (by simp)))
  clear hb B0
  go_wp2
  go_quiet (fail)
  have HB1 : Hid (Below w.heap.size w (w1.drewN nq)) := Lib.hid ⟨HB.out.os, HB.out.tape, HB.out.output, HB.out.size, HB.out.block⟩
  clear hc0 hc1 HB
  generalize w1.drewN nq = w2 at *
  go_wp2_with fail
  refine (M1.out _).mono ?_
  rintro e w3 ⟨A3, n3, c3, rfl, hl, hb⟩
  have R1 := Lib.hid hl
  have HB3 := Lib.hid (HB1.out.trans (hb.mono HB1.out.size))
  clear hb hl HB1 M1
  go_wp2_with fail
  refine (M2.out _).mono ?_
  rintro e w4 ⟨A4, n4, c4, rfl, hl, hb⟩
  have R2 := Lib.hid hl
  replace R1 := Lib.hid (Es.below R1.out hb)
  have HB4 := Lib.hid (HB3.out.trans (hb.mono HB3.out.size))
  clear hb hl HB3 M2
  go_wp2_with fail
  refine (M3.out _).mono ?_
  rintro e w5 ⟨A5, n5, c5, rfl, hl, hb⟩
  have R3 := Lib.hid hl
  replace R1 := Lib.hid (Es.below R1.out hb)
  replace R2 := Lib.hid (Es.below R2.out hb)
  have HB5 := Lib.hid (HB4.out.trans (hb.mono HB4.out.size))
  clear hb hl HB4 M3
  obtain rfl : n3 = p := by have := Ws.len R1.out; rw [HL1.out] at this; exact this.symm
  obtain rfl : n4 = q := by have := Ws.len R2.out; rw [HL2.out] at this; exact this.symm
  obtain rfl : n5 = n3 + n4 := by have := Ws.len R3.out; rw [List.length_append, HL1.out, HL2.out] at this; exact this.symm
  go_wp2
  go_loopw [8, 13] (fun tv iv wr => ∃ i : Nat, tv = .int .u64 ((backsN st1 i : Nat) : Int) ∧ iv = .int .i64 (i : Int) ∧ i ≤ n3 ∧ Hid (Ws wr A3 n3 c3 l1) ∧ Hid (Ws wr A4 n4 c4 l2) ∧ Hid (Ws wr A5 (n3 + n4) c5 (l1 ++ l2)) ∧ Hid (Below w.heap.size w wr)) (fun _ iv _ => n3 - (intOf iv).toNat)
  case atStart => exact ⟨0, rfl, rfl, by omega, R1, R2, R3, HB5⟩
  case round =>
    obtain ⟨i, rfl, rfl, hi, r1, r2, r3, hbl⟩ := hrel
    clear R1 R2 R3 HB5
    by_cases hlt : i < n3
    · have b1 : decide ((i : Int) < (n3 : Int)) = true := by simpa using hlt
      have K := Lib.hid (K1.out i)
      go_wp2_with fail
      refine (K.out _).mono ?_
      rintro e w6 ⟨rfl, hb⟩
      have r1' := Lib.hid (Es.below r1.out hb)
      have r2' := Lib.hid (Es.below r2.out hb)
      have r3' := Lib.hid (Es.below r3.out hb)
      have hbl' := Lib.hid (hbl.out.trans (hb.mono hbl.out.size))
      clear hb r1 r2 r3 hbl
      go_wp2
      go_roundw
      case rel => exact ⟨i + 1, rfl, by go_num, by omega, r1', r2', r3', hbl'⟩
      case measure => simp [intOf]; omega
    · obtain rfl : i = n3 := by omega
      have b1 : decide ((i : Int) < (i : Int)) = false := by simp
      rw [HE.out]
      obtain ⟨v, v1, C, k, e, v2, hap1, hap2, hw, hb⟩ := two_rows wr A3 i c3 l1 A4 n4 c4 l2 r1.out r2.out (by omega) (by omega)
      have HW := Lib.hid hw
      replace r3 := Lib.hid (Es.below r3.out hb)
      have HB6 := Lib.hid (hbl.out.trans (hb.mono hbl.out.size))
      clear hw hb hbl r1 r2 hlt
      go_wp2_with (first | (at_builtin; refine eapp_run (by rfl) rfl rfl rfl hap1 ?_; clear hap1) | (at_builtin; refine eapp_run (by rfl) rfl rfl rfl hap2 ?_; clear hap2))
      refine (W.out _ _ _ _ _ _ _ r3.out HW.out).mono ?_
      rintro e w7 ⟨rfl, hb⟩
      replace HB6 := Lib.hid (HB6.out.trans (hb.mono HB6.out.size))
      clear hb
      go_wp2
      go_ret
      exact ⟨rfl, HB6.out⟩
end Go.Proofs.Ytmjpemddndjcpaa
