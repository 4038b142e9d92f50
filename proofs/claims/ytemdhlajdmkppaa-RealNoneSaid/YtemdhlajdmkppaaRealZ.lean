/- The walk of RealNone: it answers true, over any world; no condition. -/
import Derived.Test.YtemdhlajdmkppaaRealY
import Derived.Test.YtemdhlajdmkppaaRealYB1
import Derived.Test.YtemdhlajdmkppaaRealYB2
import Derived.Test.YtemdhlajdmkppaaRealYC1
import Derived.Test.YtemdhlajdmkppaaRealYC2
import Derived.Test.YtemdhlajdmkppaaRealYC3
import Derived.Test.YtemdhlajdmkppaaRealYD
namespace Go.Proofs.Ytemdhlajdmkppaa
set_option linter.unusedVariables false
set_option linter.unusedSimpArgs false
open Go.RowKit
open Ieee
theorem cls_top (x : Nat) : clsN x ≤ 4 := by
  unfold clsN
  repeat' split
  all_goals omega
theorem int_beq {a b : Nat} : ((a : Int) == (b : Int)) = decide (a = b) := by
  by_cases h : a = b
  · simp [h]
  · simp [h]; omega
theorem int_bne {a b : Nat} : ((a : Int) != (b : Int)) = !decide (a = b) := by
  show (!((a : Int) == (b : Int))) = _
  rw [int_beq]
theorem inf_sign (x : Nat) (hx : x < 18446744073709551616) : bits .or .u64 9218868437227405312 ((x / 9223372036854775808 * 9223372036854775808 : Nat) : Int) = ((if sgn x then 18442240474082181120 else 9218868437227405312 : Nat) : Int) := by
  rw [sgn_iff hx]
  by_cases h : 9223372036854775808 ≤ x
  · rw [decide_eq_true h, show x / 9223372036854775808 * 9223372036854775808 = 9223372036854775808 by omega]
    exact u64_or_nat 9218868437227405312 9223372036854775808 (by decide) (by decide)
  · rw [decide_eq_false h, show x / 9223372036854775808 * 9223372036854775808 = 0 by omega]
    exact u64_or_nat 9218868437227405312 0 (by decide) (by decide)
theorem sum_facts {s : Nat} {o : Option Nat} {P : Prop} [Decidable P] (h : s < 18446744073709551616 ∧ (clsN s = 4 ↔ o = none) ∧ (s = 9221120237041090560 ↔ o = none)) (hp : o = none ↔ P) :
    s < 18446744073709551616 ∧ (((clsN s : Nat) : Int) == 4) = decide P ∧ ((s : Int) == 9221120237041090560) = decide P ∧ ((s : Int) != 9221120237041090560) = !decide P := by
  refine ⟨h.1, ?_, ?_, ?_⟩
  · exact (cls_beq rfl 4).trans (decide_eq_decide.2 (h.2.1.trans hp))
  · exact (int_beq (b := 9221120237041090560)).trans (decide_eq_decide.2 (h.2.2.trans hp))
  · exact (int_bne (b := 9221120237041090560)).trans (congrArg (! ·) (decide_eq_decide.2 (h.2.2.trans hp)))
theorem none5_walk (x y : Int) (w : World) (x0 : (Lit.int .u64 x).wf = true) (y0 : (Lit.int .u64 y).wf = true) :
    Calls Try.prog 9 #[.int .u64 x, .int .u64 y] w fun e w' => e = .returned (.bool true) ∧ Below w.heap.size w w' := by
  obtain ⟨X, rfl, hx⟩ := nat_u64 x0
  obtain ⟨Y, rfl, hy⟩ := nat_u64 y0
  have A := fun w => realAdd_any X Y w hx hy
  have S := fun w => realSub_any X Y w hx hy
  have M := fun w => realMul_any X Y w hx hy
  have D := fun w => realDiv_any X Y w hx hy
  have CX := fun w => realClass_any X w hx
  have CY := fun w => realClass_any Y w hy
  by_cases h4 : clsN X = 4 ∨ clsN Y = 4
  · obtain ⟨n1, n2, n3, n4⟩ := none_any h4
    rw [n1] at A; rw [n2] at S; rw [n3] at M; rw [n4] at D
    have CN : ∀ w, Calls Try.prog 11 #[.int .u64 9221120237041090560] w fun e w' => e = .returned (.int .i64 4) ∧ Below w.heap.size w w' := fun w => realClass_any 9221120237041090560 w (by decide)
    have TN : ∀ w, Calls Try.prog 43 #[.int .u64 9221120237041090560] w fun e w' => e = .returned (.int .i64 0) ∧ Below w.heap.size w w' := fun w => by
      have := realTicks_any 9221120237041090560 w (by decide)
      rwa [none_ints.1] at this
    have IN : ∀ w, Calls Try.prog 41 #[.int .u64 9221120237041090560] w fun e w' => e = .returned (.int .i64 0) ∧ Below w.heap.size w w' := fun w => by
      have := realToInt_any 9221120237041090560 w (by decide)
      rwa [none_ints.2] at this
    by_cases hx4 : clsN X = 4
    · rw [hx4] at CX
      exact none5_core X Y (clsN Y : Nat) w (Lib.hid A) (Lib.hid S) (Lib.hid M) (Lib.hid D) (Lib.hid CN) (Lib.hid CX) (Lib.hid CY) (Lib.hid TN) (Lib.hid IN)
    · have hy4 : clsN Y = 4 := by rcases h4 with h | h; exact absurd h hx4; exact h
      rw [hy4] at CY
      exact none5_core2 X Y (clsN X : Nat) w ((cls_beq rfl 4).trans (decide_eq_false hx4)) (Lib.hid A) (Lib.hid S) (Lib.hid M) (Lib.hid D) (Lib.hid CN) (Lib.hid CX) (Lib.hid CY) (Lib.hid TN) (Lib.hid IN)
  · have hx4 : clsN X ≠ 4 := fun h => h4 (Or.inl h)
    have hy4 : clsN Y ≠ 4 := fun h => h4 (Or.inr h)
    obtain ⟨n0, n1, n2, n3⟩ := none_when hx hy hx4 hy4
    obtain ⟨a1, a2, a3, a4⟩ := sum_facts (addS X Y) n0
    obtain ⟨b1, b2, b3, b4⟩ := sum_facts (subS X Y) n1
    obtain ⟨c1, c2, c3, c4⟩ := sum_facts (mulS X Y) n2
    obtain ⟨e1, e2, e3, e4⟩ := sum_facts (divS X Y) n3
    have tx := cls_top X
    have SS : decide (clsN X = 3) = false → ∀ w, Calls Try.prog 33 #[.int .u64 (X : Int), .int .u64 (X : Int)] w fun e w' => e = .returned (.int .u64 0) ∧ Below w.heap.size w w' := fun h w => by
      have h3 := of_decide_eq_false h
      have := realSub_any X X w hx hx
      rwa [sub_selfS (by omega)] at this
    have DZ : decide (clsN X = 0) = false → decide (clsN X = 3) = false → ∀ w, Calls Try.prog 37 #[.int .u64 (X : Int), .int .u64 0] w fun e w' => e = .returned (.int .u64 ((if sgn X then 18442240474082181120 else 9218868437227405312 : Nat) : Int)) ∧ Below w.heap.size w w' := fun h0 h w => by
      have h3 := of_decide_eq_false h
      have h5 := of_decide_eq_false h0
      have := realDiv_any X 0 w hx (by decide)
      rwa [div_zeroS (by omega) h5] at this
    have fk : ∀ i : Nat, i < 4 → ∃ (s k : Int) (d : Bool), #[Value.int .u64 ((orNone (double.add X Y) : Nat) : Int), .int .u64 ((orNone (double.sub X Y) : Nat) : Int), .int .u64 ((orNone (double.mul X Y) : Nat) : Int), .int .u64 ((orNone (double.div X Y) : Nat) : Int)][i]? = some (Value.int .u64 s) ∧ (k == 4) = d ∧ (s != 9221120237041090560) = (!d) ∧ (∀ w, Calls Try.prog 11 #[.int .u64 s] w fun e w' => e = .returned (.int .i64 k) ∧ Below w.heap.size w w') := by
      intro i hi
      obtain rfl | rfl | rfl | rfl : i = 0 ∨ i = 1 ∨ i = 2 ∨ i = 3 := by omega
      · exact ⟨_, _, _, rfl, a2, a4, fun w => realClass_any _ w a1⟩
      · exact ⟨_, _, _, rfl, b2, b4, fun w => realClass_any _ w b1⟩
      · exact ⟨_, _, _, rfl, c2, c4, fun w => realClass_any _ w c1⟩
      · exact ⟨_, _, _, rfl, e2, e4, fun w => realClass_any _ w e1⟩
    have fg : decide (2 < ((clsN X : Nat) : Int)) = decide (clsN X = 3) := decide_eq_decide.2 (by omega)
    have p4 : (((clsN X : Nat) : Int) == 4) = false := (cls_beq rfl 4).trans (decide_eq_false hx4)
    have q4 : (((clsN Y : Nat) : Int) == 4) = false := (cls_beq rfl 4).trans (decide_eq_false hy4)
    have BA := u64_and_sign X hx
    have BO := inf_sign X hx
    by_cases h3 : clsN X = 3
    · by_cases hy3 : clsN Y = 3
      · refine some5_Y X Y _ _ _ _ _ _ 0 0 0 0 _ _ _ _ _ _ _ _ _ _ _ w (cls_beq rfl 0) (cls_beq rfl 3) p4 (cls_beq rfl 0) (cls_beq rfl 3) q4 fg int_beq int_bne BA BO ?_ fk a3 b3 c3 e3 (Lib.hid A) (Lib.hid S) (Lib.hid M) (Lib.hid D) (Lib.hid CX) (Lib.hid CY) (Lib.hid SS) (Lib.hid DZ)
        by_cases he : X = Y
        · left; simp [h3, hy3, he]
        · right; simp [h3, hy3, he]
      · have he : X ≠ Y := fun h => hy3 (h ▸ h3)
        by_cases hy0 : clsN Y = 0
        · refine some5_YB1 X Y _ _ _ _ _ _ 0 0 0 0 _ _ _ _ _ _ _ _ _ _ _ w (cls_beq rfl 0) (cls_beq rfl 3) p4 (cls_beq rfl 0) (cls_beq rfl 3) q4 fg int_beq int_bne BA BO ?_ fk a3 b3 c3 e3 (Lib.hid A) (Lib.hid S) (Lib.hid M) (Lib.hid D) (Lib.hid CX) (Lib.hid CY) (Lib.hid SS) (Lib.hid DZ)
          simp [h3, hy3, he, hy0]
        · refine some5_YB2 X Y _ _ _ _ _ _ 0 0 0 0 _ _ _ _ _ _ _ _ _ _ _ w (cls_beq rfl 0) (cls_beq rfl 3) p4 (cls_beq rfl 0) (cls_beq rfl 3) q4 fg int_beq int_bne BA BO ?_ fk a3 b3 c3 e3 (Lib.hid A) (Lib.hid S) (Lib.hid M) (Lib.hid D) (Lib.hid CX) (Lib.hid CY) (Lib.hid SS) (Lib.hid DZ)
          simp [h3, hy3, he, hy0]
    · by_cases h0 : clsN X = 0
      · by_cases hy3 : clsN Y = 3
        · refine some5_YC2 X Y _ _ _ _ _ _ 0 0 0 0 _ _ _ _ _ _ _ _ _ _ _ w (cls_beq rfl 0) (cls_beq rfl 3) p4 (cls_beq rfl 0) (cls_beq rfl 3) q4 fg int_beq int_bne BA BO ?_ fk a3 b3 c3 e3 (Lib.hid A) (Lib.hid S) (Lib.hid M) (Lib.hid D) (Lib.hid CX) (Lib.hid CY) (Lib.hid SS) (Lib.hid DZ)
          simp [h0, hy3]
        · by_cases hy0 : clsN Y = 0
          · refine some5_YC1 X Y _ _ _ _ _ _ 0 0 0 0 _ _ _ _ _ _ _ _ _ _ _ w (cls_beq rfl 0) (cls_beq rfl 3) p4 (cls_beq rfl 0) (cls_beq rfl 3) q4 fg int_beq int_bne BA BO ?_ fk a3 b3 c3 e3 (Lib.hid A) (Lib.hid S) (Lib.hid M) (Lib.hid D) (Lib.hid CX) (Lib.hid CY) (Lib.hid SS) (Lib.hid DZ)
            simp [h0, hy0]
          · refine some5_YC3 X Y _ _ _ _ _ _ 0 0 0 0 _ _ _ _ _ _ _ _ _ _ _ w (cls_beq rfl 0) (cls_beq rfl 3) p4 (cls_beq rfl 0) (cls_beq rfl 3) q4 fg int_beq int_bne BA BO ?_ fk a3 b3 c3 e3 (Lib.hid A) (Lib.hid S) (Lib.hid M) (Lib.hid D) (Lib.hid CX) (Lib.hid CY) (Lib.hid SS) (Lib.hid DZ)
            simp [h0, hy0, hy3]
      · refine some5_YD X Y _ _ _ _ _ _ 0 0 0 0 _ _ _ _ _ _ _ _ _ _ _ w (cls_beq rfl 0) (cls_beq rfl 3) p4 (cls_beq rfl 0) (cls_beq rfl 3) q4 fg int_beq int_bne BA BO ?_ fk a3 b3 c3 e3 (Lib.hid A) (Lib.hid S) (Lib.hid M) (Lib.hid D) (Lib.hid CX) (Lib.hid CY) (Lib.hid SS) (Lib.hid DZ)
        simp [h0, h3]
end Go.Proofs.Ytemdhlajdmkppaa
