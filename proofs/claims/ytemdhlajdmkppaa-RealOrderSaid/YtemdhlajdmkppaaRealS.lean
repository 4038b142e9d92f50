/- The fixed fact 'alive' of layer 5 is true, and writes nothing that was there; no condition. -/
import Derived.Test.YtemdhlajdmkppaaRealO
namespace Go.Proofs.Ytemdhlajdmkppaa
set_option linter.unusedVariables false
set_option linter.unusedSimpArgs false
open Go.RowKit
open Ieee

theorem post_eq {a b : Value} {w : World} (h : a = b) : ∀ (e : Ending) w', (e = Ending.returned a ∧ Below w.heap.size w w') → (e = Ending.returned b ∧ Below w.heap.size w w') := fun e w' h2 => by subst h; exact h2
/-- what stands behind a call of 'alive'. -/
def BelowOnly (v : Value) (w : World) : Ending → World → Prop := fun e w' => e = .returned v ∧ Below w.heap.size w w'

set_option maxRecDepth 100000 in
set_option maxHeartbeats 4000000 in
theorem alive5 (w : World) : Calls Try.prog 10 #[] w fun e w' => e = .returned (.bool true) ∧ Below w.heap.size w w' := by
  have c1 := Lib.hid (fun w => (realAdd_any 4607182418800017408 4607182418800017408 w (by decide) (by decide)).mono (post_eq (b := .int .u64 4611686018427387904) (by kernel_rfl)))
  have c2 := Lib.hid (fun w => (realSub_any 4607182418800017408 4611686018427387904 w (by decide) (by decide)).mono (post_eq (b := .int .u64 13830554455654793216) (by kernel_rfl)))
  have c3 := Lib.hid (fun w => (realMul_any 4611686018427387904 4611686018427387904 w (by decide) (by decide)).mono (post_eq (b := .int .u64 4616189618054758400) (by kernel_rfl)))
  have c4 := Lib.hid (fun w => (realDiv_any 4607182418800017408 9223372036854775808 w (by decide) (by decide)).mono (post_eq (b := .int .u64 18442240474082181120) (by kernel_rfl)))
  have c5 := Lib.hid (fun w => (realSub_any 9218868437227405312 9218868437227405312 w (by decide) (by decide)).mono (post_eq (b := .int .u64 9221120237041090560) (by kernel_rfl)))
  have c6 := Lib.hid (fun w => (realPlain_any 9218868437227405313 w (by decide)).mono (post_eq (b := .int .u64 9221120237041090560) (by kernel_rfl)))
  have c7 := Lib.hid (fun w => (realClass_any 1 w (by decide)).mono (post_eq (b := .int .i64 1) (by kernel_rfl)))
  have c8 := Lib.hid (fun w => (realClass_any 9218868437227405312 w (by decide)).mono (post_eq (b := .int .i64 3) (by kernel_rfl)))
  have c9 := Lib.hid (fun w => (realLess_any 4607182418800017408 4611686018427387904 w (by decide) (by decide)).mono (post_eq (b := .bool true) (by kernel_rfl)))
  have c10 := Lib.hid (fun w => (realLess_any 9221120237041090560 4607182418800017408 w (by decide) (by decide)).mono (post_eq (b := .bool false) (by kernel_rfl)))
  have c11 := Lib.hid (fun w => (realSame_any 0 9223372036854775808 w (by decide) (by decide)).mono (post_eq (b := .bool true) (by kernel_rfl)))
  have c12 := Lib.hid (fun w => (realLeast_any 0 9223372036854775808 w (by decide) (by decide)).mono (post_eq (b := .int .u64 9223372036854775808) (by kernel_rfl)))
  have c13 := Lib.hid (fun w => (realMost_any 9223372036854775808 0 w (by decide) (by decide)).mono (post_eq (b := .int .u64 0) (by kernel_rfl)))
  have c14 := Lib.hid (fun w => (realUp_any 9223372036854775808 w (by decide)).mono (post_eq (b := .int .u64 1) (by kernel_rfl)))
  have c15 := Lib.hid (fun w => (realDown_any 4607182418800017408 w (by decide)).mono (post_eq (b := .int .u64 4607182418800017407) (by kernel_rfl)))
  have c16 := Lib.hid (fun w => (realFromInt_any (-2) w (by decide) (by decide)).mono (post_eq (b := .int .u64 13835058055282163712) (by kernel_rfl)))
  have c17 := Lib.hid (fun w => (realToInt_any 4612811918334230528 w (by decide)).mono (post_eq (b := .int .i64 2) (by kernel_rfl)))
  have c18 := Lib.hid (fun w => (realTicks_any 4612248968380809216 w (by decide)).mono (post_eq (b := .int .i64 3) (by kernel_rfl)))
  have c19 := Lib.hid (fun w => (realTicks_any 9221120237041090560 w (by decide)).mono (post_eq (b := .int .i64 0) (by kernel_rfl)))
  have c20 := Lib.hid (fun w => (realKey_any 0 w (by decide)).mono (post_eq (b := .int .u64 9223372036854775808) (by kernel_rfl)))
  have c21 := Lib.hid (fun w => (realUnkey_any 9223372036854775808 w (by decide)).mono (post_eq (b := .int .u64 0) (by kernel_rfl)))
  go_enter Try.func10, Try.ntmps10
  have V0 := Lib.hid (Below.refl w.heap.size w)
  go_wp2_with fail
  refine (c1.out _).mono ?_
  rintro e w1 ⟨rfl, hb⟩
  have V1 := Lib.hid (V0.out.trans (hb.mono V0.out.size))
  clear V0 c1 hb
  go_wp2_with fail
  refine (c2.out _).mono ?_
  rintro e w2 ⟨rfl, hb⟩
  have V2 := Lib.hid (V1.out.trans (hb.mono V1.out.size))
  clear V1 c2 hb
  go_wp2_with fail
  refine (c3.out _).mono ?_
  rintro e w3 ⟨rfl, hb⟩
  have V3 := Lib.hid (V2.out.trans (hb.mono V2.out.size))
  clear V2 c3 hb
  go_wp2_with fail
  refine (c4.out _).mono ?_
  rintro e w4 ⟨rfl, hb⟩
  have V4 := Lib.hid (V3.out.trans (hb.mono V3.out.size))
  clear V3 c4 hb
  go_wp2_with fail
  refine (c5.out _).mono ?_
  rintro e w5 ⟨rfl, hb⟩
  have V5 := Lib.hid (V4.out.trans (hb.mono V4.out.size))
  clear V4 c5 hb
  go_wp2_with fail
  refine (c6.out _).mono ?_
  rintro e w6 ⟨rfl, hb⟩
  have V6 := Lib.hid (V5.out.trans (hb.mono V5.out.size))
  clear V5 c6 hb
  go_wp2_with fail
  refine (c7.out _).mono ?_
  rintro e w7 ⟨rfl, hb⟩
  have V7 := Lib.hid (V6.out.trans (hb.mono V6.out.size))
  clear V6 c7 hb
  go_wp2_with fail
  refine (c8.out _).mono ?_
  rintro e w8 ⟨rfl, hb⟩
  have V8 := Lib.hid (V7.out.trans (hb.mono V7.out.size))
  clear V7 c8 hb
  go_wp2_with fail
  refine (c9.out _).mono ?_
  rintro e w9 ⟨rfl, hb⟩
  have V9 := Lib.hid (V8.out.trans (hb.mono V8.out.size))
  clear V8 c9 hb
  go_wp2_with fail
  refine (c10.out _).mono ?_
  rintro e w10 ⟨rfl, hb⟩
  have V10 := Lib.hid (V9.out.trans (hb.mono V9.out.size))
  clear V9 c10 hb
  go_wp2_with fail
  refine (c11.out _).mono ?_
  rintro e w11 ⟨rfl, hb⟩
  have V11 := Lib.hid (V10.out.trans (hb.mono V10.out.size))
  clear V10 c11 hb
  go_wp2_with fail
  refine (c12.out _).mono ?_
  rintro e w12 ⟨rfl, hb⟩
  have V12 := Lib.hid (V11.out.trans (hb.mono V11.out.size))
  clear V11 c12 hb
  go_wp2_with fail
  refine (c13.out _).mono ?_
  rintro e w13 ⟨rfl, hb⟩
  have V13 := Lib.hid (V12.out.trans (hb.mono V12.out.size))
  clear V12 c13 hb
  go_wp2_with fail
  refine (c14.out _).mono ?_
  rintro e w14 ⟨rfl, hb⟩
  have V14 := Lib.hid (V13.out.trans (hb.mono V13.out.size))
  clear V13 c14 hb
  go_wp2_with fail
  refine (c15.out _).mono ?_
  rintro e w15 ⟨rfl, hb⟩
  have V15 := Lib.hid (V14.out.trans (hb.mono V14.out.size))
  clear V14 c15 hb
  go_wp2_with fail
  refine (c16.out _).mono ?_
  rintro e w16 ⟨rfl, hb⟩
  have V16 := Lib.hid (V15.out.trans (hb.mono V15.out.size))
  clear V15 c16 hb
  go_wp2_with fail
  refine (c17.out _).mono ?_
  rintro e w17 ⟨rfl, hb⟩
  have V17 := Lib.hid (V16.out.trans (hb.mono V16.out.size))
  clear V16 c17 hb
  go_wp2_with fail
  refine (c18.out _).mono ?_
  rintro e w18 ⟨rfl, hb⟩
  have V18 := Lib.hid (V17.out.trans (hb.mono V17.out.size))
  clear V17 c18 hb
  go_wp2_with fail
  refine (c19.out _).mono ?_
  rintro e w19 ⟨rfl, hb⟩
  have V19 := Lib.hid (V18.out.trans (hb.mono V18.out.size))
  clear V18 c19 hb
  go_wp2_with fail
  refine (c20.out _).mono ?_
  rintro e w20 ⟨rfl, hb⟩
  have V20 := Lib.hid (V19.out.trans (hb.mono V19.out.size))
  clear V19 c20 hb
  go_wp2_with fail
  refine (c21.out _).mono ?_
  rintro e w21 ⟨rfl, hb⟩
  have V21 := Lib.hid (V20.out.trans (hb.mono V20.out.size))
  clear V20 c21 hb
  go_wp2
  go_ret
  exact ⟨rfl, V21.out⟩
end Go.Proofs.Ytemdhlajdmkppaa
