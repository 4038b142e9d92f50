/- The walks of DrawAnswers, DrawWords, DrawUnlike: they answer true, over any world; no condition. -/
import Derived.Test.YtmjpemddndjcpaaDrawS
import Derived.Test.YtmjpemddndjcpaaL
namespace Go.Proofs.Ytmjpemddndjcpaa
set_option linter.unusedVariables false
set_option linter.unusedSimpArgs false
open Go.RowKit

theorem nat_u64' {x : Int} (h : (Lit.int .u64 x).wf = true) : ∃ X : Nat, x = X ∧ X < M64 := by
  have := bounds_u64 h
  exact ⟨x.toNat, by omega, by unfold M64; omega⟩
theorem wbelow {w w' : World} {e : Ending} {v : Value} (h : e = .returned v ∧ w = w') : e = .returned v ∧ Below w.heap.size w w' := ⟨h.1, h.2 ▸ Below.refl _ _⟩
set_option maxRecDepth 100000 in
set_option maxHeartbeats 4000000 in
theorem words6_walk (x p n : Int) (w : World) (x0 : (Lit.int .u64 x).wf = true) (p0 : (Lit.int .u64 p).wf = true) (n0 : (Lit.int .i64 n).wf = true) :
    Calls Try.prog 4 #[.int .u64 x, .int .u64 p, .int .i64 n] w fun e w' => e = .returned (.bool true) ∧ Below w.heap.size w w' := by
  obtain ⟨X, rfl, hx⟩ := nat_u64' x0
  obtain ⟨Pp, rfl, hp⟩ := nat_u64' p0
  have hn := bounds_i64 n0
  have B1 := fun w => drawBelow_any X n w hx (by omega)
  have B2 := fun w => (refBelow_any X n w hx (by omega)).mono fun _ _ => wbelow
  have U1 := fun w => drawUnit_any X w hx
  have U2 := fun w => refUnit_any X w hx
  have C1 := fun w => drawChance_any X Pp w hx hp
  have C2 := fun w => refChance_any X Pp w hx hp
  generalize belowI X n = g at *
  generalize lessN (unitN X) Pp = l at *
  generalize unitN X = u at *
  replace B1 := Lib.hid B1; replace B2 := Lib.hid B2; replace U1 := Lib.hid U1; replace U2 := Lib.hid U2; replace C1 := Lib.hid C1; replace C2 := Lib.hid C2
  clear hx hp hn x0 p0 n0
  have HB := Lib.hid (Below.refl w.heap.size w)
  go_enter Try.func4, Try.ntmps4
  go_wp2_with fail
  refine (alive6 _).mono ?_
  rintro e w1 ⟨rfl, hb⟩
  replace HB := Lib.hid (HB.out.trans (hb.mono HB.out.size))
  clear hb
  go_wp2_with fail
  refine (B1.out _).mono ?_
  rintro e w2 ⟨rfl, hb⟩
  replace HB := Lib.hid (HB.out.trans (hb.mono HB.out.size))
  clear hb
  go_wp2_with fail
  refine (B2.out _).mono ?_
  rintro e w3 ⟨rfl, hb⟩
  replace HB := Lib.hid (HB.out.trans (hb.mono HB.out.size))
  clear hb
  go_wp2_with fail
  refine (U1.out _).mono ?_
  rintro e w4 ⟨rfl, hb⟩
  replace HB := Lib.hid (HB.out.trans (hb.mono HB.out.size))
  clear hb
  go_wp2_with fail
  refine (U2.out _).mono ?_
  rintro e w5 ⟨rfl, hb⟩
  replace HB := Lib.hid (HB.out.trans (hb.mono HB.out.size))
  clear hb
  go_wp2_with fail
  refine (C1.out _).mono ?_
  rintro e w6 ⟨rfl, hb⟩
  replace HB := Lib.hid (HB.out.trans (hb.mono HB.out.size))
  clear hb
  go_wp2_with fail
  refine (C2.out _).mono ?_
  rintro e w7 ⟨rfl, hb⟩
  replace HB := Lib.hid (HB.out.trans (hb.mono HB.out.size))
  clear hb
  go_wp2
  go_ret
  exact ⟨rfl, HB.out⟩
set_option maxRecDepth 100000 in
set_option maxHeartbeats 4000000 in
theorem unlike6_walk (s t : Int) (w : World) (s0 : (Lit.int .u64 s).wf = true) (t0 : (Lit.int .u64 t).wf = true) :
    Calls Try.prog 5 #[.int .u64 s, .int .u64 t] w fun e w' => e = .returned (.bool true) ∧ Below w.heap.size w w' := by
  obtain ⟨S, rfl, hs⟩ := nat_u64' s0
  obtain ⟨T, rfl, ht⟩ := nat_u64' t0
  have N1 := fun w => drawNext_any S w hs
  have N2 := fun w => drawNext_any T w ht
  have K1 := fun w => drawBack_any (nextN S) w (nextN_lt S)
  rw [back_next hs] at K1
  have hi := next_inj hs ht
  have hj := (word_inj (nextN_lt S) (nextN_lt T)).trans hi
  obtain ⟨r, hr⟩ : ∃ r, decide (S = T) = r := ⟨_, rfl⟩
  have g1 : ((wordN (nextN S) : Int) == (wordN (nextN T) : Int)) = r := by rw [← hr, Bool.beq_eq_decide_eq]; exact decide_eq_decide.2 (by rw [Int.natCast_inj]; exact hj)
  have g2 : ((nextN S : Int) == (nextN T : Int)) = r := by rw [← hr, Bool.beq_eq_decide_eq]; exact decide_eq_decide.2 (by rw [Int.natCast_inj]; exact hi)
  have g3 : ((S : Int) == (T : Int)) = r := by rw [← hr, Bool.beq_eq_decide_eq]; exact decide_eq_decide.2 (by rw [Int.natCast_inj])
  clear hi hj hr
  generalize wordN (nextN S) = p at *
  generalize wordN (nextN T) = q at *
  generalize nextN S = a at *
  generalize nextN T = b at *
  replace N1 := Lib.hid N1; replace N2 := Lib.hid N2; replace K1 := Lib.hid K1
  clear hs ht s0 t0
  have HB := Lib.hid (Below.refl w.heap.size w)
  go_enter Try.func5, Try.ntmps5
  go_wp2_with fail
  refine (alive6 _).mono ?_
  rintro e w1 ⟨rfl, hb⟩
  replace HB := Lib.hid (HB.out.trans (hb.mono HB.out.size))
  clear hb
  go_wp2_with fail
  refine (N1.out _).mono ?_
  rintro e w2 ⟨rfl, hb⟩
  replace HB := Lib.hid (HB.out.trans (hb.mono HB.out.size))
  clear hb
  go_wp2_with fail
  refine (N2.out _).mono ?_
  rintro e w3 ⟨rfl, hb⟩
  replace HB := Lib.hid (HB.out.trans (hb.mono HB.out.size))
  clear hb
  go_wp2_with fail
  refine (K1.out _).mono ?_
  rintro e w4 ⟨rfl, hb⟩
  replace HB := Lib.hid (HB.out.trans (hb.mono HB.out.size))
  clear hb
  go_wp2
  go_ret
  exact ⟨rfl, HB.out⟩
set_option maxRecDepth 100000 in
set_option maxHeartbeats 4000000 in
theorem answers6_walk (s n p : Int) (w : World) (s0 : (Lit.int .u64 s).wf = true) (n0 : (Lit.int .i64 n).wf = true) (p0 : (Lit.int .u64 p).wf = true) :
    Calls Try.prog 3 #[.int .u64 s, .int .i64 n, .int .u64 p] w fun e w' => e = .returned (.bool true) ∧ Below w.heap.size w w' := by
  obtain ⟨S, rfl, hs⟩ := nat_u64' s0
  obtain ⟨Pp, rfl, hp⟩ := nat_u64' p0
  have hn := bounds_i64 n0
  have N1 := fun w => drawNext_any S w hs
  have N2 := fun w => (refNext_any S w hs).mono fun _ _ => wbelow
  have M1 := fun w => drawMany_any S n w hs (by omega) (by omega)
  have M2 := fun w => refMany_any S n w hs (by omega) (by omega)
  have K1 := fun w => drawBack_any (nextN S) w (nextN_lt S)
  rw [back_next hs] at K1
  have hX := wordN_lt (nextN S)
  have B1 := fun w => drawBelow_any (wordN (nextN S)) n w hX (by omega)
  have B2 := fun w => (refBelow_any (wordN (nextN S)) n w hX (by omega)).mono fun _ _ => wbelow
  have U1 := fun w => drawUnit_any (wordN (nextN S)) w hX
  have U2 := fun w => refUnit_any (wordN (nextN S)) w hX
  have C1 := fun w => drawChance_any (wordN (nextN S)) Pp w hX hp
  have C2 := fun w => refChance_any (wordN (nextN S)) Pp w hX hp
  have hl : (wordsN S (manyK n)).length ≤ 1000 := by rw [words_len]; unfold manyK; split <;> omega
  have W := fun (A B : Option Addr) (n1 c1 n2 c2 : Nat) (w : World) (h1 : Ws w A n1 c1 (wordsN S (manyK n))) (h2 : Ws w B n2 c2 (wordsN S (manyK n))) =>
    (refWords_any A n1 c1 _ B n2 c2 _ w h1 h2 (by have := h1.len; omega)).mono (post_eq6 (b := .bool true) (by rw [decide_eq_true rfl]))
  generalize wordsN S (manyK n) = ws at *
  generalize statesN S (manyK n) = st at *
  generalize belowI (wordN (nextN S)) n = g at *
  generalize lessN (unitN (wordN (nextN S))) Pp = l at *
  generalize unitN (wordN (nextN S)) = u at *
  generalize wordN (nextN S) = x at *
  generalize nextN S = a at *
  replace N1 := Lib.hid N1; replace N2 := Lib.hid N2; replace K1 := Lib.hid K1; replace M1 := Lib.hid M1; replace M2 := Lib.hid M2; replace W := Lib.hid W
  replace B1 := Lib.hid B1; replace B2 := Lib.hid B2; replace U1 := Lib.hid U1; replace U2 := Lib.hid U2; replace C1 := Lib.hid C1; replace C2 := Lib.hid C2
  clear hs hp hn hX hl s0 p0 n0
  have HB := Lib.hid (Below.refl w.heap.size w)
  go_enter Try.func3, Try.ntmps3
  go_wp2_with fail
  refine (alive6 _).mono ?_
  rintro e w1 ⟨rfl, hb⟩
  replace HB := Lib.hid (HB.out.trans (hb.mono HB.out.size))
  clear hb
  go_wp2_with fail
  refine (N1.out _).mono ?_
  rintro e w2 ⟨rfl, hb⟩
  replace HB := Lib.hid (HB.out.trans (hb.mono HB.out.size))
  clear hb
  go_wp2_with fail
  refine (N2.out _).mono ?_
  rintro e w3 ⟨rfl, hb⟩
  replace HB := Lib.hid (HB.out.trans (hb.mono HB.out.size))
  clear hb
  go_wp2_with fail
  refine (M1.out _).mono ?_
  rintro e w4 ⟨A4, n4, c4, rfl, hl, hb⟩
  have L1 := Lib.hid hl
  replace HB := Lib.hid (HB.out.trans (hb.mono HB.out.size))
  clear hb hl
  go_wp2_with fail
  refine (M2.out _).mono ?_
  rintro e w5 ⟨A5, n5, c5, rfl, hl, hb⟩
  replace L1 := Lib.hid (Es.below L1.out (hb.mono (Nat.le_refl _)))
  have L2 := Lib.hid hl
  replace HB := Lib.hid (HB.out.trans (hb.mono HB.out.size))
  clear hb hl
  go_wp2_with fail
  refine (W.out _ _ _ _ _ _ _ L1.out L2.out).mono ?_
  rintro e w6 ⟨rfl, hb⟩
  replace HB := Lib.hid (HB.out.trans (hb.mono HB.out.size))
  clear hb W L1 L2
  go_wp2_with fail
  refine (B1.out _).mono ?_
  rintro e w7 ⟨rfl, hb⟩
  replace HB := Lib.hid (HB.out.trans (hb.mono HB.out.size))
  clear hb
  go_wp2_with fail
  refine (B2.out _).mono ?_
  rintro e w8 ⟨rfl, hb⟩
  replace HB := Lib.hid (HB.out.trans (hb.mono HB.out.size))
  clear hb
  go_wp2_with fail
  refine (U1.out _).mono ?_
  rintro e w9 ⟨rfl, hb⟩
  replace HB := Lib.hid (HB.out.trans (hb.mono HB.out.size))
  clear hb
  go_wp2_with fail
  refine (U2.out _).mono ?_
  rintro e w10 ⟨rfl, hb⟩
  replace HB := Lib.hid (HB.out.trans (hb.mono HB.out.size))
  clear hb
  go_wp2_with fail
  refine (C1.out _).mono ?_
  rintro e w11 ⟨rfl, hb⟩
  replace HB := Lib.hid (HB.out.trans (hb.mono HB.out.size))
  clear hb
  go_wp2_with fail
  refine (C2.out _).mono ?_
  rintro e w12 ⟨rfl, hb⟩
  replace HB := Lib.hid (HB.out.trans (hb.mono HB.out.size))
  clear hb
  go_wp2_with fail
  refine (K1.out _).mono ?_
  rintro e w13 ⟨rfl, hb⟩
  replace HB := Lib.hid (HB.out.trans (hb.mono HB.out.size))
  clear hb
  go_wp2
  go_ret
  exact ⟨rfl, HB.out⟩
end Go.Proofs.Ytmjpemddndjcpaa
