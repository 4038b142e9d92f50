/- The fixed fact 'alive' of layer 6 is true, and writes nothing that was there; no condition. -/
import Derived.Test.YtmjpemddndjcpaaDrawO
namespace Go.Proofs.Ytmjpemddndjcpaa
set_option linter.unusedVariables false
set_option linter.unusedSimpArgs false
open Go.RowKit

theorem post_eq6 {a b : Value} {w : World} (h : a = b) : ∀ (e : Ending) w', (e = Ending.returned a ∧ Below w.heap.size w w') → (e = Ending.returned b ∧ Below w.heap.size w w') := fun e w' h2 => by subst h; exact h2
theorem Ws.two {w : World} {A : Option Addr} {n c : Nat} {x y : Nat} (h : Ws w A n c [x, y]) : ∃ b off, n = 2 ∧ A = some ⟨b, off, none⟩ ∧ b < w.heap.size ∧ w.cell? ⟨b, off, none⟩ = some (.int .u64 (x : Int)) ∧ w.cell? ⟨b, off + 1, none⟩ = some (.int .u64 (y : Int)) := by
  have hl := h.len
  simp at hl
  subst hl
  obtain ⟨b, off, e, hb, hc⟩ := Es.mem h (by decide)
  exact ⟨b, off, rfl, e, hb, hc 0 _ rfl, hc 1 _ rfl⟩
set_option maxRecDepth 100000 in
set_option maxHeartbeats 4000000 in
theorem alive6 (w : World) : Calls Try.prog 9 #[] w fun e w' => e = .returned (.bool true) ∧ Below w.heap.size w w' := by
  have d0 : (0 : Nat) < M64 := by decide
  have c1 := Lib.hid (fun w => (drawNext_any 0 w (by decide)).mono (post_eq6 (b := .tuple #[.int .u64 11400714819323198485, .int .u64 16294208416658607535]) (by kernel_rfl)))
  have c2 : ∀ w, Calls Try.prog 12 #[.int .u64 0, .int .i64 2] w (WordsPost w [16294208416658607535, 7960286522194355700] 4354685564936845354) := fun w => by
    have h := drawMany_any 0 2 w (by decide) (by decide) (by decide)
    have e1 : wordsN 0 (manyK 2) = [16294208416658607535, 7960286522194355700] := by kernel_rfl
    have e2 : statesN 0 (manyK 2) = 4354685564936845354 := by kernel_rfl
    rw [e1, e2] at h
    exact h
  replace c2 := Lib.hid c2
  have c3 := Lib.hid (fun w => (drawBack_any 4354685564936845354 w (by decide)).mono (post_eq6 (b := .int .u64 11400714819323198485) (by kernel_rfl)))
  have c4 := Lib.hid (fun w => (drawBack_any 11400714819323198485 w (by decide)).mono (post_eq6 (b := .int .u64 0) (by kernel_rfl)))
  have c5 := Lib.hid (fun w => (drawBelow_any 9223372036854775808 7 w (by decide) (by decide)).mono (post_eq6 (b := .int .i64 3) (by kernel_rfl)))
  have c6 := Lib.hid (fun w => (drawUnit_any 9223372036854775808 w (by decide)).mono (post_eq6 (b := .int .u64 4602678819172646912) (by kernel_rfl)))
  have c7 := Lib.hid (fun w => (drawChance_any 4611686018427387904 4602678819172646912 w (by decide) (by decide)).mono (post_eq6 (b := .bool true) (by kernel_rfl)))
  have c8 := Lib.hid (fun w => (drawChance_any 9223372036854775808 4602678819172646912 w (by decide) (by decide)).mono (post_eq6 (b := .bool false) (by kernel_rfl)))
  clear d0
  have HB := Lib.hid (Below.refl w.heap.size w)
  go_enter Try.func9, Try.ntmps9
  go_wp2_with fail
  refine (c1.out _).mono ?_
  rintro e w1 ⟨rfl, hb⟩
  replace HB := Lib.hid (HB.out.trans (hb.mono HB.out.size))
  clear hb
  go_wp2_with fail
  refine (c2.out _).mono ?_
  rintro e w2 ⟨A, n, c, rfl, hl, hb⟩
  replace HB := Lib.hid (HB.out.trans (hb.mono HB.out.size))
  obtain ⟨b, off, rfl, rfl, hb2, z0, z1⟩ := Ws.two hl
  clear hb hl hb2
  go_wp2_with fail
  refine (c3.out _).mono ?_
  rintro e w3 ⟨rfl, hb⟩
  replace HB := Lib.hid (HB.out.trans (hb.mono HB.out.size))
  clear hb
  go_wp2_with fail
  refine (c4.out _).mono ?_
  rintro e w4 ⟨rfl, hb⟩
  replace HB := Lib.hid (HB.out.trans (hb.mono HB.out.size))
  clear hb
  go_wp2_with fail
  refine (c5.out _).mono ?_
  rintro e w5 ⟨rfl, hb⟩
  replace HB := Lib.hid (HB.out.trans (hb.mono HB.out.size))
  clear hb
  go_wp2_with fail
  refine (c6.out _).mono ?_
  rintro e w6 ⟨rfl, hb⟩
  replace HB := Lib.hid (HB.out.trans (hb.mono HB.out.size))
  clear hb
  go_wp2_with fail
  refine (c7.out _).mono ?_
  rintro e w7 ⟨rfl, hb⟩
  replace HB := Lib.hid (HB.out.trans (hb.mono HB.out.size))
  clear hb
  go_wp2_with fail
  refine (c8.out _).mono ?_
  rintro e w8 ⟨rfl, hb⟩
  replace HB := Lib.hid (HB.out.trans (hb.mono HB.out.size))
  clear hb
  go_wp2
  go_ret
  exact ⟨rfl, HB.out⟩
end Go.Proofs.Ytmjpemddndjcpaa
