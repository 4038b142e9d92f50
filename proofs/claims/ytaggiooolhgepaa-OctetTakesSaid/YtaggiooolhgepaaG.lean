/- OctetAnswers returns true for every slice of bytes and every two numbers. -/
import Derived.Test.YtaggiooolhgepaaF
import Derived.OpenShut
namespace Go.Proofs.Ytaggiooolhgepaa
set_option linter.unusedVariables false
set_option linter.unusedSimpArgs false
open Go.RowKit

theorem lt_of_cell {w : World} {a : Addr} {v : Value} (h : w.cell? a = some v) : a.block < w.heap.size := by
  rcases Nat.lt_or_ge a.block w.heap.size with hlt | hge
  · exact hlt
  · simp [World.cell?, Array.getElem?_eq_none hge] at h


/-- a slice of bytes that came in, as bytes. -/
theorem Bs.of_row {w : World} {a : Option Addr} {len cap : Nat} {zs : List Int}
    (h : (a = none ∧ len = 0 ∧ cap = 0 ∧ zs = []) ∨ ∃ x, a = some x ∧ len ≤ cap ∧ cap ≤ maxLen ∧ zs.length = cap ∧ (∀ i, i < zs.length → w.cell? (x.add i) = some (.int .u8 (zs.getD i 0))) ∧ ∀ n ∈ zs, (Lit.int .u8 n).wf = true) :
    Bs w a len cap (zs.take len) := by
  rcases h with ⟨rfl, rfl, rfl, rfl⟩ | ⟨x, rfl, h1, h2, h3, h4, h5⟩
  · exact Bs.nil _ _ _
  · refine ⟨by rw [List.length_take]; omega, h1, fun b hb => bounds_u8 (h5 b (List.mem_of_mem_take hb)), fun hn => ?_⟩
    have hc := h4 0 (by omega)
    obtain ⟨b, off, spot⟩ := x
    have hspot : spot = none := by simpa [Addr.add] using World.cell?_spot hc
    subst hspot
    refine ⟨b, off, rfl, ?_, fun i hi => ?_⟩
    · have := lt_of_cell hc
      rwa [add_plain] at this
    · have := h4 i (by omega)
      rw [add_plain] at this
      rw [this]
      simp [List.getD, List.getElem?_take, hi]

theorem ans_walk (A : Option Addr) (n c : Nat) (bs : List Int) (x m : Int) (w : World) (hb : Bs w A n c bs) (x0 : 0 ≤ x) (x1 : x ≤ 18446744073709551615) :
    Calls Try.prog 3 #[.slice A n c, .int .u64 x, .int .i64 m] w fun e w' => e = .returned (.bool true) ∧ Below w.heap.size w w' := by
  have HB := Lib.hid hb
  clear hb
  by_cases hn : (1000 : Int) < n
  · go_enter Try.func3, Try.ntmps3
    go_wp2_with (go_at_call 7; refine (alive_any _).mono ?_; rintro e w1 ⟨rfl, hw1⟩)
    go_ret
    exact ⟨rfl, hw1⟩
  · go_enter Try.func3, Try.ntmps3
    go_wp2_with (go_at_call 7; refine (alive_any _).mono ?_; rintro e w1 ⟨rfl, hw1⟩)
    have P1 := put_any A n c bs x m w1 (HB.out.below hw1) (by omega) x0 x1
    have HW1 := Lib.hid hw1; clear hw1
    go_wp2_with (go_at_call 8; refine P1.mono ?_; rintro e w2 ⟨A2, c2, rfl, hb2, hw2⟩)
    clear P1
    have P2 := refPut_any A n c bs x m w2 ((HB.out.below HW1.out).below hw2) (by omega) x0 x1
    have HW2 := Lib.hid hw2; have HB2 := Lib.hid hb2; clear hw2 hb2
    go_wp2_with (go_at_call 9; refine P2.mono ?_; rintro e w3 ⟨A3, c3, rfl, hb3, hw3⟩)
    clear P2
    have hs1 := (HB2.out.below hw3).str (P := Try.prog) 22 5 9 Try.underlying22 Try.underlying5 Try.underlying9
    have hs2 := hb3.str (P := Try.prog) 22 5 9 Try.underlying22 Try.underlying5 Try.underlying9
    have HW3 := Lib.hid hw3; clear hw3 hb3
    have F1 := Lib.hid (fits_any x m w3 x0 x1); have F2 := Lib.hid (refFits_any x m w3 x0 x1)
    have S1 := Lib.hid (size_any x w3 x0 x1); have S2 := Lib.hid (refSize_any x w3 x0 x1)
    go_wp2_with fail
    rw [hs1]
    go_wp2_with fail
    refine F1.out.mono ?_; rintro e w' ⟨rfl, rfl⟩
    go_wp2_with fail
    refine F2.out.mono ?_; rintro e w' ⟨rfl, rfl⟩
    go_wp2_with fail
    refine S1.out.mono ?_; rintro e w' ⟨rfl, rfl⟩
    go_wp2_with fail
    refine S2.out.mono ?_; rintro e w' ⟨rfl, rfl⟩
    go_wp2
    go_ret
    have g1 := HW1.out.trans (HW2.out.mono HW1.out.size)
    exact ⟨rfl, g1.trans (HW3.out.mono g1.size)⟩
end Go.Proofs.Ytaggiooolhgepaa
