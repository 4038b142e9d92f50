/- The walks of layer 5's statements that ask the program's answer to be the document's; no condition. -/
import Derived.Test.YtemdhlajdmkppaaRealS
import Derived.Test.YtemdhlajdmkppaaL
namespace Go.Proofs.Ytemdhlajdmkppaa
set_option linter.unusedVariables false
set_option linter.unusedSimpArgs false
open Go.RowKit
open Ieee

theorem nat_u64 {x : Int} (h : (Lit.int .u64 x).wf = true) : ∃ X : Nat, x = X ∧ X < 18446744073709551616 := by
  have := bounds_u64 h
  exact ⟨x.toNat, by omega, by omega⟩

set_option maxRecDepth 100000 in
set_option maxHeartbeats 4000000 in
theorem answers5_walk (x y : Int) (w : World) (x0 : (Lit.int .u64 x).wf = true) (y0 : (Lit.int .u64 y).wf = true) :
    Calls Try.prog 3 #[.int .u64 x, .int .u64 y] w fun e w' => e = .returned (.bool true) ∧ Below w.heap.size w w' := by
  obtain ⟨X, rfl, hx⟩ := nat_u64 x0
  obtain ⟨Y, rfl, hy⟩ := nat_u64 y0
  obtain ⟨a1, A1, B1⟩ : ∃ a : Int, (∀ w, Calls Try.prog 11 #[.int .u64 (X : Int)] w fun e w' => e = .returned (.int .i64 a) ∧ Below w.heap.size w w') ∧ (∀ w, Calls Try.prog 12 #[.int .u64 (X : Int)] w fun e w' => e = .returned (.int .i64 a) ∧ w = w') :=
    ⟨_, fun w => realClass_any X w hx, fun w => refClass_any X _ w hx rfl⟩
  replace A1 := Lib.hid A1; replace B1 := Lib.hid B1
  obtain ⟨a2, A2, B2⟩ : ∃ a : Int, (∀ w, Calls Try.prog 13 #[.int .u64 (X : Int)] w fun e w' => e = .returned (.int .u64 a) ∧ Below w.heap.size w w') ∧ (∀ w, Calls Try.prog 14 #[.int .u64 (X : Int)] w fun e w' => e = .returned (.int .u64 a) ∧ w = w') :=
    ⟨_, fun w => realPlain_any X w hx, fun w => refPlain_any X w hx⟩
  replace A2 := Lib.hid A2; replace B2 := Lib.hid B2
  obtain ⟨a3, A3, B3⟩ : ∃ a : Int, (∀ w, Calls Try.prog 15 #[.int .u64 (X : Int)] w fun e w' => e = .returned (.int .u64 a) ∧ Below w.heap.size w w') ∧ (∀ w, Calls Try.prog 16 #[.int .u64 (X : Int)] w fun e w' => e = .returned (.int .u64 a) ∧ w = w') :=
    ⟨_, fun w => realKey_any X w hx, fun w => refKey_any X w hx⟩
  replace A3 := Lib.hid A3; replace B3 := Lib.hid B3
  obtain ⟨a4, A4, B4⟩ : ∃ a : Int, (∀ w, Calls Try.prog 17 #[.int .u64 (X : Int)] w fun e w' => e = .returned (.int .u64 a) ∧ Below w.heap.size w w') ∧ (∀ w, Calls Try.prog 18 #[.int .u64 (X : Int)] w fun e w' => e = .returned (.int .u64 a) ∧ w = w') :=
    ⟨_, fun w => realUnkey_any X w hx, fun w => refUnkey_any X w hx⟩
  replace A4 := Lib.hid A4; replace B4 := Lib.hid B4
  obtain ⟨a5, A5, B5⟩ : ∃ a : Bool, (∀ w, Calls Try.prog 19 #[.int .u64 (X : Int), .int .u64 (Y : Int)] w fun e w' => e = .returned (.bool a) ∧ Below w.heap.size w w') ∧ (∀ w, Calls Try.prog 20 #[.int .u64 (X : Int), .int .u64 (Y : Int)] w fun e w' => e = .returned (.bool a) ∧ w = w') :=
    ⟨_, fun w => realLess_any X Y w hx hy, fun w => refLess_any X Y w hx hy⟩
  replace A5 := Lib.hid A5; replace B5 := Lib.hid B5
  obtain ⟨a6, A6, B6⟩ : ∃ a : Bool, (∀ w, Calls Try.prog 21 #[.int .u64 (X : Int), .int .u64 (Y : Int)] w fun e w' => e = .returned (.bool a) ∧ Below w.heap.size w w') ∧ (∀ w, Calls Try.prog 22 #[.int .u64 (X : Int), .int .u64 (Y : Int)] w fun e w' => e = .returned (.bool a) ∧ w = w') :=
    ⟨_, fun w => realSame_any X Y w hx hy, fun w => refSame_any X Y w hx hy⟩
  replace A6 := Lib.hid A6; replace B6 := Lib.hid B6
  obtain ⟨a7, A7, B7⟩ : ∃ a : Int, (∀ w, Calls Try.prog 23 #[.int .u64 (X : Int), .int .u64 (Y : Int)] w fun e w' => e = .returned (.int .u64 a) ∧ Below w.heap.size w w') ∧ (∀ w, Calls Try.prog 24 #[.int .u64 (X : Int), .int .u64 (Y : Int)] w fun e w' => e = .returned (.int .u64 a) ∧ w = w') :=
    ⟨_, fun w => realLeast_any X Y w hx hy, fun w => refLeast_any X Y w hx hy⟩
  replace A7 := Lib.hid A7; replace B7 := Lib.hid B7
  obtain ⟨a8, A8, B8⟩ : ∃ a : Int, (∀ w, Calls Try.prog 25 #[.int .u64 (X : Int), .int .u64 (Y : Int)] w fun e w' => e = .returned (.int .u64 a) ∧ Below w.heap.size w w') ∧ (∀ w, Calls Try.prog 26 #[.int .u64 (X : Int), .int .u64 (Y : Int)] w fun e w' => e = .returned (.int .u64 a) ∧ w = w') :=
    ⟨_, fun w => realMost_any X Y w hx hy, fun w => refMost_any X Y w hx hy⟩
  replace A8 := Lib.hid A8; replace B8 := Lib.hid B8
  obtain ⟨a9, A9, B9⟩ : ∃ a : Int, (∀ w, Calls Try.prog 27 #[.int .u64 (X : Int)] w fun e w' => e = .returned (.int .u64 a) ∧ Below w.heap.size w w') ∧ (∀ w, Calls Try.prog 28 #[.int .u64 (X : Int)] w fun e w' => e = .returned (.int .u64 a) ∧ w = w') :=
    ⟨_, fun w => realUp_any X w hx, fun w => refUp_any X w hx⟩
  replace A9 := Lib.hid A9; replace B9 := Lib.hid B9
  obtain ⟨a10, A10, B10⟩ : ∃ a : Int, (∀ w, Calls Try.prog 29 #[.int .u64 (X : Int)] w fun e w' => e = .returned (.int .u64 a) ∧ Below w.heap.size w w') ∧ (∀ w, Calls Try.prog 30 #[.int .u64 (X : Int)] w fun e w' => e = .returned (.int .u64 a) ∧ w = w') :=
    ⟨_, fun w => realDown_any X w hx, fun w => refDown_any X w hx⟩
  replace A10 := Lib.hid A10; replace B10 := Lib.hid B10
  have HB := Lib.hid (Below.refl w.heap.size w)
  go_enter Try.func3, Try.ntmps3
  go_wp2_with fail
  refine (alive5 _).mono ?_
  rintro e w1 ⟨rfl, hb⟩
  have HB := Lib.hid (HB.out.trans (hb.mono HB.out.size))
  clear hb
  go_wp2_with fail
  refine (A1.out _).mono ?_
  rintro e w2 ⟨rfl, hb⟩
  have HB := Lib.hid (HB.out.trans (hb.mono HB.out.size))
  clear hb
  go_wp2_with fail
  refine (B1.out _).mono ?_
  rintro e w' ⟨rfl, rfl⟩
  go_wp2_with fail
  refine (A2.out _).mono ?_
  rintro e w4 ⟨rfl, hb⟩
  have HB := Lib.hid (HB.out.trans (hb.mono HB.out.size))
  clear hb
  go_wp2_with fail
  refine (B2.out _).mono ?_
  rintro e w' ⟨rfl, rfl⟩
  go_wp2_with fail
  refine (A3.out _).mono ?_
  rintro e w6 ⟨rfl, hb⟩
  have HB := Lib.hid (HB.out.trans (hb.mono HB.out.size))
  clear hb
  go_wp2_with fail
  refine (B3.out _).mono ?_
  rintro e w' ⟨rfl, rfl⟩
  go_wp2_with fail
  refine (A4.out _).mono ?_
  rintro e w8 ⟨rfl, hb⟩
  have HB := Lib.hid (HB.out.trans (hb.mono HB.out.size))
  clear hb
  go_wp2_with fail
  refine (B4.out _).mono ?_
  rintro e w' ⟨rfl, rfl⟩
  go_wp2_with fail
  refine (A5.out _).mono ?_
  rintro e w10 ⟨rfl, hb⟩
  have HB := Lib.hid (HB.out.trans (hb.mono HB.out.size))
  clear hb
  go_wp2_with fail
  refine (B5.out _).mono ?_
  rintro e w' ⟨rfl, rfl⟩
  go_wp2_with fail
  refine (A6.out _).mono ?_
  rintro e w12 ⟨rfl, hb⟩
  have HB := Lib.hid (HB.out.trans (hb.mono HB.out.size))
  clear hb
  go_wp2_with fail
  refine (B6.out _).mono ?_
  rintro e w' ⟨rfl, rfl⟩
  go_wp2_with fail
  refine (A7.out _).mono ?_
  rintro e w14 ⟨rfl, hb⟩
  have HB := Lib.hid (HB.out.trans (hb.mono HB.out.size))
  clear hb
  go_wp2_with fail
  refine (B7.out _).mono ?_
  rintro e w' ⟨rfl, rfl⟩
  go_wp2_with fail
  refine (A8.out _).mono ?_
  rintro e w16 ⟨rfl, hb⟩
  have HB := Lib.hid (HB.out.trans (hb.mono HB.out.size))
  clear hb
  go_wp2_with fail
  refine (B8.out _).mono ?_
  rintro e w' ⟨rfl, rfl⟩
  go_wp2_with fail
  refine (A9.out _).mono ?_
  rintro e w18 ⟨rfl, hb⟩
  have HB := Lib.hid (HB.out.trans (hb.mono HB.out.size))
  clear hb
  go_wp2_with fail
  refine (B9.out _).mono ?_
  rintro e w' ⟨rfl, rfl⟩
  go_wp2_with fail
  refine (A10.out _).mono ?_
  rintro e w20 ⟨rfl, hb⟩
  have HB := Lib.hid (HB.out.trans (hb.mono HB.out.size))
  clear hb
  go_wp2_with fail
  refine (B10.out _).mono ?_
  rintro e w' ⟨rfl, rfl⟩
  go_wp2
  go_ret
  exact ⟨rfl, HB.out⟩

set_option maxRecDepth 100000 in
set_option maxHeartbeats 4000000 in
theorem sums5_walk (x y : Int) (w : World) (x0 : (Lit.int .u64 x).wf = true) (y0 : (Lit.int .u64 y).wf = true) :
    Calls Try.prog 4 #[.int .u64 x, .int .u64 y] w fun e w' => e = .returned (.bool true) ∧ Below w.heap.size w w' := by
  obtain ⟨X, rfl, hx⟩ := nat_u64 x0
  obtain ⟨Y, rfl, hy⟩ := nat_u64 y0
  obtain ⟨a1, A1, B1, C1⟩ : ∃ a : Int, (∀ w, Calls Try.prog 31 #[.int .u64 (X : Int), .int .u64 (Y : Int)] w fun e w' => e = .returned (.int .u64 a) ∧ Below w.heap.size w w') ∧ (∀ w, Calls Try.prog 32 #[.int .u64 (X : Int), .int .u64 (Y : Int)] w fun e w' => e = .returned (.int .u64 a) ∧ Below w.heap.size w w') ∧ (∀ w, Calls Try.prog 31 #[.int .u64 (Y : Int), .int .u64 (X : Int)] w fun e w' => e = .returned (.int .u64 a) ∧ Below w.heap.size w w') :=
    ⟨_, fun w => realAdd_any X Y w hx hy, fun w => refAdd_any X Y w, fun w => by rw [add_comm' X Y]; exact realAdd_any Y X w hy hx⟩
  replace A1 := Lib.hid A1; replace B1 := Lib.hid B1; replace C1 := Lib.hid C1
  obtain ⟨a2, A2, B2⟩ : ∃ a : Int, (∀ w, Calls Try.prog 33 #[.int .u64 (X : Int), .int .u64 (Y : Int)] w fun e w' => e = .returned (.int .u64 a) ∧ Below w.heap.size w w') ∧ (∀ w, Calls Try.prog 34 #[.int .u64 (X : Int), .int .u64 (Y : Int)] w fun e w' => e = .returned (.int .u64 a) ∧ Below w.heap.size w w') :=
    ⟨_, fun w => realSub_any X Y w hx hy, fun w => refSub_any X Y w⟩
  replace A2 := Lib.hid A2; replace B2 := Lib.hid B2
  obtain ⟨a3, A3, B3, C3⟩ : ∃ a : Int, (∀ w, Calls Try.prog 35 #[.int .u64 (X : Int), .int .u64 (Y : Int)] w fun e w' => e = .returned (.int .u64 a) ∧ Below w.heap.size w w') ∧ (∀ w, Calls Try.prog 36 #[.int .u64 (X : Int), .int .u64 (Y : Int)] w fun e w' => e = .returned (.int .u64 a) ∧ Below w.heap.size w w') ∧ (∀ w, Calls Try.prog 35 #[.int .u64 (Y : Int), .int .u64 (X : Int)] w fun e w' => e = .returned (.int .u64 a) ∧ Below w.heap.size w w') :=
    ⟨_, fun w => realMul_any X Y w hx hy, fun w => refMul_any X Y w, fun w => by rw [mul_comm' X Y]; exact realMul_any Y X w hy hx⟩
  replace A3 := Lib.hid A3; replace B3 := Lib.hid B3; replace C3 := Lib.hid C3
  obtain ⟨a4, A4, B4⟩ : ∃ a : Int, (∀ w, Calls Try.prog 37 #[.int .u64 (X : Int), .int .u64 (Y : Int)] w fun e w' => e = .returned (.int .u64 a) ∧ Below w.heap.size w w') ∧ (∀ w, Calls Try.prog 38 #[.int .u64 (X : Int), .int .u64 (Y : Int)] w fun e w' => e = .returned (.int .u64 a) ∧ Below w.heap.size w w') :=
    ⟨_, fun w => realDiv_any X Y w hx hy, fun w => refDiv_any X Y w⟩
  replace A4 := Lib.hid A4; replace B4 := Lib.hid B4
  have HB := Lib.hid (Below.refl w.heap.size w)
  go_enter Try.func4, Try.ntmps4
  go_wp2_with fail
  refine (alive5 _).mono ?_
  rintro e w1 ⟨rfl, hb⟩
  have HB := Lib.hid (HB.out.trans (hb.mono HB.out.size))
  clear hb
  go_wp2_with fail
  refine (A1.out _).mono ?_
  rintro e w2 ⟨rfl, hb⟩
  have HB := Lib.hid (HB.out.trans (hb.mono HB.out.size))
  clear hb
  go_wp2_with fail
  refine (B1.out _).mono ?_
  rintro e w3 ⟨rfl, hb⟩
  have HB := Lib.hid (HB.out.trans (hb.mono HB.out.size))
  clear hb
  go_wp2_with fail
  refine (A2.out _).mono ?_
  rintro e w4 ⟨rfl, hb⟩
  have HB := Lib.hid (HB.out.trans (hb.mono HB.out.size))
  clear hb
  go_wp2_with fail
  refine (B2.out _).mono ?_
  rintro e w5 ⟨rfl, hb⟩
  have HB := Lib.hid (HB.out.trans (hb.mono HB.out.size))
  clear hb
  go_wp2_with fail
  refine (A3.out _).mono ?_
  rintro e w6 ⟨rfl, hb⟩
  have HB := Lib.hid (HB.out.trans (hb.mono HB.out.size))
  clear hb
  go_wp2_with fail
  refine (B3.out _).mono ?_
  rintro e w7 ⟨rfl, hb⟩
  have HB := Lib.hid (HB.out.trans (hb.mono HB.out.size))
  clear hb
  go_wp2_with fail
  refine (A4.out _).mono ?_
  rintro e w8 ⟨rfl, hb⟩
  have HB := Lib.hid (HB.out.trans (hb.mono HB.out.size))
  clear hb
  go_wp2_with fail
  refine (B4.out _).mono ?_
  rintro e w9 ⟨rfl, hb⟩
  have HB := Lib.hid (HB.out.trans (hb.mono HB.out.size))
  clear hb
  go_wp2_with fail
  refine (A1.out _).mono ?_
  rintro e w10 ⟨rfl, hb⟩
  have HB := Lib.hid (HB.out.trans (hb.mono HB.out.size))
  clear hb
  go_wp2_with fail
  refine (C1.out _).mono ?_
  rintro e w11 ⟨rfl, hb⟩
  have HB := Lib.hid (HB.out.trans (hb.mono HB.out.size))
  clear hb
  go_wp2_with fail
  refine (A3.out _).mono ?_
  rintro e w12 ⟨rfl, hb⟩
  have HB := Lib.hid (HB.out.trans (hb.mono HB.out.size))
  clear hb
  go_wp2_with fail
  refine (C3.out _).mono ?_
  rintro e w13 ⟨rfl, hb⟩
  have HB := Lib.hid (HB.out.trans (hb.mono HB.out.size))
  clear hb
  go_wp2
  go_ret
  exact ⟨rfl, HB.out⟩

set_option maxRecDepth 100000 in
set_option maxHeartbeats 4000000 in
theorem ints5_walk (i x : Int) (w : World) (i0 : (Lit.int .i64 i).wf = true) (x0 : (Lit.int .u64 x).wf = true) :
    Calls Try.prog 5 #[.int .i64 i, .int .u64 x] w fun e w' => e = .returned (.bool true) ∧ Below w.heap.size w w' := by
  obtain ⟨X, rfl, hx⟩ := nat_u64 x0
  have hi := bounds_i64 i0
  obtain ⟨a1, A1, B1⟩ : ∃ a : Int, (∀ w, Calls Try.prog 39 #[.int .i64 i] w fun e w' => e = .returned (.int .u64 a) ∧ Below w.heap.size w w') ∧ (∀ w, Calls Try.prog 40 #[.int .i64 i] w fun e w' => e = .returned (.int .u64 a) ∧ Below w.heap.size w w') :=
    ⟨_, fun w => realFromInt_any i w (by omega) (by omega), fun w => refFromInt_any i w (by omega) (by omega)⟩
  replace A1 := Lib.hid A1; replace B1 := Lib.hid B1
  obtain ⟨a2, A2, B2⟩ : ∃ a : Int, (∀ w, Calls Try.prog 41 #[.int .u64 (X : Int)] w fun e w' => e = .returned (.int .i64 a) ∧ Below w.heap.size w w') ∧ (∀ w, Calls Try.prog 42 #[.int .u64 (X : Int)] w fun e w' => e = .returned (.int .i64 a) ∧ w = w') :=
    ⟨_, fun w => realToInt_any X w hx, fun w => refToInt_any X w hx⟩
  replace A2 := Lib.hid A2; replace B2 := Lib.hid B2
  obtain ⟨a3, A3, B3⟩ : ∃ a : Int, (∀ w, Calls Try.prog 43 #[.int .u64 (X : Int)] w fun e w' => e = .returned (.int .i64 a) ∧ Below w.heap.size w w') ∧ (∀ w, Calls Try.prog 44 #[.int .u64 (X : Int)] w fun e w' => e = .returned (.int .i64 a) ∧ Below w.heap.size w w') :=
    ⟨_, fun w => realTicks_any X w hx, fun w => refTicks_any X w hx⟩
  replace A3 := Lib.hid A3; replace B3 := Lib.hid B3
  have HB := Lib.hid (Below.refl w.heap.size w)
  go_enter Try.func5, Try.ntmps5
  go_wp2_with fail
  refine (alive5 _).mono ?_
  rintro e w1 ⟨rfl, hb⟩
  have HB := Lib.hid (HB.out.trans (hb.mono HB.out.size))
  clear hb
  go_wp2_with fail
  refine (A1.out _).mono ?_
  rintro e w2 ⟨rfl, hb⟩
  have HB := Lib.hid (HB.out.trans (hb.mono HB.out.size))
  clear hb
  go_wp2_with fail
  refine (B1.out _).mono ?_
  rintro e w3 ⟨rfl, hb⟩
  have HB := Lib.hid (HB.out.trans (hb.mono HB.out.size))
  clear hb
  go_wp2_with fail
  refine (A2.out _).mono ?_
  rintro e w4 ⟨rfl, hb⟩
  have HB := Lib.hid (HB.out.trans (hb.mono HB.out.size))
  clear hb
  go_wp2_with fail
  refine (B2.out _).mono ?_
  rintro e w' ⟨rfl, rfl⟩
  go_wp2_with fail
  refine (A3.out _).mono ?_
  rintro e w6 ⟨rfl, hb⟩
  have HB := Lib.hid (HB.out.trans (hb.mono HB.out.size))
  clear hb
  go_wp2_with fail
  refine (B3.out _).mono ?_
  rintro e w7 ⟨rfl, hb⟩
  have HB := Lib.hid (HB.out.trans (hb.mono HB.out.size))
  clear hb
  go_wp2
  go_ret
  exact ⟨rfl, HB.out⟩
end Go.Proofs.Ytemdhlajdmkppaa
