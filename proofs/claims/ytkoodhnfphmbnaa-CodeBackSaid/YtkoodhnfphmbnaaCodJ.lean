/- What the landed code's own mayStand and Ins answer; for programs of up to 16384 of each. -/
import Derived.Test.YtkoodhnfphmbnaaCodI
import Derived.Test.YtkoodhnfphmbnaaCodB
namespace Go.Proofs.Ytkoodhnfphmbnaa
set_option linter.unusedVariables false
set_option linter.unusedSimpArgs false
open Go.RowKit
theorem opsF_rng (o : Int) : (0 ≤ (opsF o).1 ∧ (opsF o).1 ≤ 11) ∧ (0 ≤ (opsF o).2.1 ∧ (opsF o).2.1 ≤ 11) ∧ (0 ≤ (opsF o).2.2.1 ∧ (opsF o).2.2.1 ≤ 11) := by
  obtain ⟨z, hz⟩ : ∃ z, opsF o = z := ⟨_, rfl⟩
  rw [hz]
  unfold opsF at hz
  by_cases h0 : o = 0
  · rw [if_pos h0] at hz; subst hz; exact ⟨⟨by decide, by decide⟩, ⟨by decide, by decide⟩, ⟨by decide, by decide⟩⟩
  rw [if_neg h0] at hz
  by_cases h1 : o = 1
  · rw [if_pos h1] at hz; subst hz; exact ⟨⟨by decide, by decide⟩, ⟨by decide, by decide⟩, ⟨by decide, by decide⟩⟩
  rw [if_neg h1] at hz
  by_cases h2 : o = 2 ∨ o = 17 ∨ o = 18 ∨ o = 25
  · rw [if_pos h2] at hz; subst hz; exact ⟨⟨by decide, by decide⟩, ⟨by decide, by decide⟩, ⟨by decide, by decide⟩⟩
  rw [if_neg h2] at hz
  by_cases h3 : o = 3 ∨ o = 4 ∨ o = 5 ∨ o = 12 ∨ o = 13 ∨ o = 14 ∨ o = 15 ∨ o = 16
  · rw [if_pos h3] at hz; subst hz; exact ⟨⟨by decide, by decide⟩, ⟨by decide, by decide⟩, ⟨by decide, by decide⟩⟩
  rw [if_neg h3] at hz
  by_cases h4 : o = 6 ∨ o = 23
  · rw [if_pos h4] at hz; subst hz; exact ⟨⟨by decide, by decide⟩, ⟨by decide, by decide⟩, ⟨by decide, by decide⟩⟩
  rw [if_neg h4] at hz
  by_cases h5 : o = 7 ∨ o = 22
  · rw [if_pos h5] at hz; subst hz; exact ⟨⟨by decide, by decide⟩, ⟨by decide, by decide⟩, ⟨by decide, by decide⟩⟩
  rw [if_neg h5] at hz
  by_cases h6 : o = 8 ∨ o = 9 ∨ o = 11
  · rw [if_pos h6] at hz; subst hz; exact ⟨⟨by decide, by decide⟩, ⟨by decide, by decide⟩, ⟨by decide, by decide⟩⟩
  rw [if_neg h6] at hz
  by_cases h7 : o = 10
  · rw [if_pos h7] at hz; subst hz; exact ⟨⟨by decide, by decide⟩, ⟨by decide, by decide⟩, ⟨by decide, by decide⟩⟩
  rw [if_neg h7] at hz
  by_cases h8 : o = 19 ∨ o = 20 ∨ o = 21 ∨ o = 24 ∨ o = 41
  · rw [if_pos h8] at hz; subst hz; exact ⟨⟨by decide, by decide⟩, ⟨by decide, by decide⟩, ⟨by decide, by decide⟩⟩
  rw [if_neg h8] at hz
  by_cases h9 : o = 26 ∨ o = 27
  · rw [if_pos h9] at hz; subst hz; exact ⟨⟨by decide, by decide⟩, ⟨by decide, by decide⟩, ⟨by decide, by decide⟩⟩
  rw [if_neg h9] at hz
  by_cases h10 : o = 28 ∨ o = 29 ∨ o = 30 ∨ o = 31
  · rw [if_pos h10] at hz; subst hz; exact ⟨⟨by decide, by decide⟩, ⟨by decide, by decide⟩, ⟨by decide, by decide⟩⟩
  rw [if_neg h10] at hz
  by_cases h11 : o = 32
  · rw [if_pos h11] at hz; subst hz; exact ⟨⟨by decide, by decide⟩, ⟨by decide, by decide⟩, ⟨by decide, by decide⟩⟩
  rw [if_neg h11] at hz
  by_cases h12 : o = 33
  · rw [if_pos h12] at hz; subst hz; exact ⟨⟨by decide, by decide⟩, ⟨by decide, by decide⟩, ⟨by decide, by decide⟩⟩
  rw [if_neg h12] at hz
  by_cases h13 : o = 34
  · rw [if_pos h13] at hz; subst hz; exact ⟨⟨by decide, by decide⟩, ⟨by decide, by decide⟩, ⟨by decide, by decide⟩⟩
  rw [if_neg h13] at hz
  by_cases h14 : o = 35
  · rw [if_pos h14] at hz; subst hz; exact ⟨⟨by decide, by decide⟩, ⟨by decide, by decide⟩, ⟨by decide, by decide⟩⟩
  rw [if_neg h14] at hz
  by_cases h15 : o = 36
  · rw [if_pos h15] at hz; subst hz; exact ⟨⟨by decide, by decide⟩, ⟨by decide, by decide⟩, ⟨by decide, by decide⟩⟩
  rw [if_neg h15] at hz
  by_cases h16 : o = 37 ∨ o = 38
  · rw [if_pos h16] at hz; subst hz; exact ⟨⟨by decide, by decide⟩, ⟨by decide, by decide⟩, ⟨by decide, by decide⟩⟩
  rw [if_neg h16] at hz
  by_cases h17 : o = 39 ∨ o = 40
  · rw [if_pos h17] at hz; subst hz; exact ⟨⟨by decide, by decide⟩, ⟨by decide, by decide⟩, ⟨by decide, by decide⟩⟩
  rw [if_neg h17] at hz
  subst hz; exact ⟨⟨by decide, by decide⟩, ⟨by decide, by decide⟩, ⟨by decide, by decide⟩⟩
set_option maxRecDepth 100000 in
set_option maxHeartbeats 4000000 in
theorem stand_any (A : Option Addr) (n c : Nat) (B : Option Addr) (m d : Nat) (C : Option Addr) (k f : Nat) (co : List I4) (ki si : List Int) (ce re pa : Int) (o x : Int) (w : World) (hx : I4s w A n c co) (hy : Is w B m d ki) (hz : Is w C k f si) (hn : n ≤ 16384) (hm : m ≤ 16384) (hk : k ≤ 16384) (o0 : 0 ≤ o) (o1 : o ≤ 11) :
    Calls Try.prog 26 #[.agg #[.slice A n c, .slice B m d, .slice C k f, .int .i64 ce, .int .i64 re, .int .i64 pa], .int .i64 o, .int .i64 x] w (YesC w (standB n ce ki o x)) := by
  have hlen : ki.length = m := hy.len
  have RY := Lib.hid hy
  clear hx hz
  obtain ⟨v1, hv1⟩ : ∃ W, w.alloc (.cells #[.slice A n c, .slice B m d, .slice C k f, .int .i64 ce, .int .i64 re, .int .i64 pa] 25) = W := ⟨_, rfl⟩
  have fr1 : Fr w v1 w.heap.size [.cells #[.slice A n c, .slice B m d, .slice C k f, .int .i64 ce, .int .i64 re, .int .i64 pa] 25] := hv1 ▸ Fr.first w _
  have z1 : v1.heap.size = w.heap.size + 1 := by rw [← hv1, Fr.size1]
  generalize hq : w.heap.size = q at *
  have FR := Lib.hid fr1
  clear fr1
  by_cases ho0 : o = 0
  · subst ho0
    have HE := Lib.hid (show standB n ce ki 0 x = (x == 0) from rfl)
    clear hlen hy o0 o1
    go_enter Try.func26, Try.ntmps26
    have c00 : v1.cell? ⟨q, 0, none⟩ = some (.slice A n c) := FR.out.cell 0 0 rfl rfl rfl
    have c01 : v1.cell? ⟨q, 1, none⟩ = some (.slice B m d) := FR.out.cell 0 1 rfl rfl rfl
    have c02 : v1.cell? ⟨q, 2, none⟩ = some (.slice C k f) := FR.out.cell 0 2 rfl rfl rfl
    have c03 : v1.cell? ⟨q, 3, none⟩ = some (.int .i64 ce) := FR.out.cell 0 3 rfl rfl rfl
    have c04 : v1.cell? ⟨q, 4, none⟩ = some (.int .i64 re) := FR.out.cell 0 4 rfl rfl rfl
    have c05 : v1.cell? ⟨q, 5, none⟩ = some (.int .i64 pa) := FR.out.cell 0 5 rfl rfl rfl
    go_wp2
    go_ret
    rw [HE.out]
    exact ⟨rfl, FR.out.out⟩
  have hn0 : (o == 0) = false := by simpa using ho0
  by_cases ho1 : o = 1
  · subst ho1
    have CC := Lib.hid (fun (W : World) => place_any x 4 W)
    have HE := Lib.hid (show standB n ce ki 1 x = inB x 4 from rfl)
    clear hlen hy o0 o1
    go_enter Try.func26, Try.ntmps26
    have c00 : v1.cell? ⟨q, 0, none⟩ = some (.slice A n c) := FR.out.cell 0 0 rfl rfl rfl
    have c01 : v1.cell? ⟨q, 1, none⟩ = some (.slice B m d) := FR.out.cell 0 1 rfl rfl rfl
    have c02 : v1.cell? ⟨q, 2, none⟩ = some (.slice C k f) := FR.out.cell 0 2 rfl rfl rfl
    have c03 : v1.cell? ⟨q, 3, none⟩ = some (.int .i64 ce) := FR.out.cell 0 3 rfl rfl rfl
    have c04 : v1.cell? ⟨q, 4, none⟩ = some (.int .i64 re) := FR.out.cell 0 4 rfl rfl rfl
    have c05 : v1.cell? ⟨q, 5, none⟩ = some (.int .i64 pa) := FR.out.cell 0 5 rfl rfl rfl
    go_wp2_with fail
    refine ((CC.out _)).mono ?_
    rintro e w2 ⟨rfl, rfl⟩
    clear c00 c01 c02 c03 c04 c05
    have c00 : w2.cell? ⟨q, 0, none⟩ = some (.slice A n c) := FR.out.cell 0 0 rfl rfl rfl
    have c01 : w2.cell? ⟨q, 1, none⟩ = some (.slice B m d) := FR.out.cell 0 1 rfl rfl rfl
    have c02 : w2.cell? ⟨q, 2, none⟩ = some (.slice C k f) := FR.out.cell 0 2 rfl rfl rfl
    have c03 : w2.cell? ⟨q, 3, none⟩ = some (.int .i64 ce) := FR.out.cell 0 3 rfl rfl rfl
    have c04 : w2.cell? ⟨q, 4, none⟩ = some (.int .i64 re) := FR.out.cell 0 4 rfl rfl rfl
    have c05 : w2.cell? ⟨q, 5, none⟩ = some (.int .i64 pa) := FR.out.cell 0 5 rfl rfl rfl
    go_wp2
    go_ret
    rw [HE.out]
    exact ⟨rfl, FR.out.out⟩
  have hn1 : (o == 1) = false := by simpa using ho1
  by_cases ho2 : o = 2
  · subst ho2
    have CC := Lib.hid (fun (W : World) => from_any (-2147483648) x 2147483647 W)
    have HE := Lib.hid (show standB n ce ki 2 x = fromB (-2147483648) x 2147483647 from rfl)
    clear hlen hy o0 o1
    go_enter Try.func26, Try.ntmps26
    have c00 : v1.cell? ⟨q, 0, none⟩ = some (.slice A n c) := FR.out.cell 0 0 rfl rfl rfl
    have c01 : v1.cell? ⟨q, 1, none⟩ = some (.slice B m d) := FR.out.cell 0 1 rfl rfl rfl
    have c02 : v1.cell? ⟨q, 2, none⟩ = some (.slice C k f) := FR.out.cell 0 2 rfl rfl rfl
    have c03 : v1.cell? ⟨q, 3, none⟩ = some (.int .i64 ce) := FR.out.cell 0 3 rfl rfl rfl
    have c04 : v1.cell? ⟨q, 4, none⟩ = some (.int .i64 re) := FR.out.cell 0 4 rfl rfl rfl
    have c05 : v1.cell? ⟨q, 5, none⟩ = some (.int .i64 pa) := FR.out.cell 0 5 rfl rfl rfl
    go_wp2_with fail
    refine ((CC.out _)).mono ?_
    rintro e w2 ⟨rfl, rfl⟩
    clear c00 c01 c02 c03 c04 c05
    have c00 : w2.cell? ⟨q, 0, none⟩ = some (.slice A n c) := FR.out.cell 0 0 rfl rfl rfl
    have c01 : w2.cell? ⟨q, 1, none⟩ = some (.slice B m d) := FR.out.cell 0 1 rfl rfl rfl
    have c02 : w2.cell? ⟨q, 2, none⟩ = some (.slice C k f) := FR.out.cell 0 2 rfl rfl rfl
    have c03 : w2.cell? ⟨q, 3, none⟩ = some (.int .i64 ce) := FR.out.cell 0 3 rfl rfl rfl
    have c04 : w2.cell? ⟨q, 4, none⟩ = some (.int .i64 re) := FR.out.cell 0 4 rfl rfl rfl
    have c05 : w2.cell? ⟨q, 5, none⟩ = some (.int .i64 pa) := FR.out.cell 0 5 rfl rfl rfl
    go_wp2
    go_ret
    rw [HE.out]
    exact ⟨rfl, FR.out.out⟩
  have hn2 : (o == 2) = false := by simpa using ho2
  by_cases ho3 : o = 3
  · subst ho3
    have CC := Lib.hid (fun (W : World) => place_any x n W)
    have HE := Lib.hid (show standB n ce ki 3 x = inB x n from rfl)
    clear hlen hy o0 o1
    go_enter Try.func26, Try.ntmps26
    have c00 : v1.cell? ⟨q, 0, none⟩ = some (.slice A n c) := FR.out.cell 0 0 rfl rfl rfl
    have c01 : v1.cell? ⟨q, 1, none⟩ = some (.slice B m d) := FR.out.cell 0 1 rfl rfl rfl
    have c02 : v1.cell? ⟨q, 2, none⟩ = some (.slice C k f) := FR.out.cell 0 2 rfl rfl rfl
    have c03 : v1.cell? ⟨q, 3, none⟩ = some (.int .i64 ce) := FR.out.cell 0 3 rfl rfl rfl
    have c04 : v1.cell? ⟨q, 4, none⟩ = some (.int .i64 re) := FR.out.cell 0 4 rfl rfl rfl
    have c05 : v1.cell? ⟨q, 5, none⟩ = some (.int .i64 pa) := FR.out.cell 0 5 rfl rfl rfl
    go_wp2_with fail
    refine ((CC.out _)).mono ?_
    rintro e w2 ⟨rfl, rfl⟩
    clear c00 c01 c02 c03 c04 c05
    have c00 : w2.cell? ⟨q, 0, none⟩ = some (.slice A n c) := FR.out.cell 0 0 rfl rfl rfl
    have c01 : w2.cell? ⟨q, 1, none⟩ = some (.slice B m d) := FR.out.cell 0 1 rfl rfl rfl
    have c02 : w2.cell? ⟨q, 2, none⟩ = some (.slice C k f) := FR.out.cell 0 2 rfl rfl rfl
    have c03 : w2.cell? ⟨q, 3, none⟩ = some (.int .i64 ce) := FR.out.cell 0 3 rfl rfl rfl
    have c04 : w2.cell? ⟨q, 4, none⟩ = some (.int .i64 re) := FR.out.cell 0 4 rfl rfl rfl
    have c05 : w2.cell? ⟨q, 5, none⟩ = some (.int .i64 pa) := FR.out.cell 0 5 rfl rfl rfl
    go_wp2
    go_ret
    rw [HE.out]
    exact ⟨rfl, FR.out.out⟩
  have hn3 : (o == 3) = false := by simpa using ho3
  by_cases ho4 : o = 4
  · subst ho4
    have CC := Lib.hid (fun (W : World) => place_any x ce W)
    have HE := Lib.hid (show standB n ce ki 4 x = inB x ce from rfl)
    clear hlen hy o0 o1
    go_enter Try.func26, Try.ntmps26
    have c00 : v1.cell? ⟨q, 0, none⟩ = some (.slice A n c) := FR.out.cell 0 0 rfl rfl rfl
    have c01 : v1.cell? ⟨q, 1, none⟩ = some (.slice B m d) := FR.out.cell 0 1 rfl rfl rfl
    have c02 : v1.cell? ⟨q, 2, none⟩ = some (.slice C k f) := FR.out.cell 0 2 rfl rfl rfl
    have c03 : v1.cell? ⟨q, 3, none⟩ = some (.int .i64 ce) := FR.out.cell 0 3 rfl rfl rfl
    have c04 : v1.cell? ⟨q, 4, none⟩ = some (.int .i64 re) := FR.out.cell 0 4 rfl rfl rfl
    have c05 : v1.cell? ⟨q, 5, none⟩ = some (.int .i64 pa) := FR.out.cell 0 5 rfl rfl rfl
    go_wp2_with fail
    refine ((CC.out _)).mono ?_
    rintro e w2 ⟨rfl, rfl⟩
    clear c00 c01 c02 c03 c04 c05
    have c00 : w2.cell? ⟨q, 0, none⟩ = some (.slice A n c) := FR.out.cell 0 0 rfl rfl rfl
    have c01 : w2.cell? ⟨q, 1, none⟩ = some (.slice B m d) := FR.out.cell 0 1 rfl rfl rfl
    have c02 : w2.cell? ⟨q, 2, none⟩ = some (.slice C k f) := FR.out.cell 0 2 rfl rfl rfl
    have c03 : w2.cell? ⟨q, 3, none⟩ = some (.int .i64 ce) := FR.out.cell 0 3 rfl rfl rfl
    have c04 : w2.cell? ⟨q, 4, none⟩ = some (.int .i64 re) := FR.out.cell 0 4 rfl rfl rfl
    have c05 : w2.cell? ⟨q, 5, none⟩ = some (.int .i64 pa) := FR.out.cell 0 5 rfl rfl rfl
    go_wp2
    go_ret
    rw [HE.out]
    exact ⟨rfl, FR.out.out⟩
  have hn4 : (o == 4) = false := by simpa using ho4
  obtain ⟨y, hy5⟩ : ∃ y, o - 5 = y := ⟨_, rfl⟩
  have hs5 : IntKind.i64.wrap (o - 5) = y := by rw [IntKind.wrap_i64]; omega
  have HO : standB n ce ki o x = objB ki x y := by unfold standB; rw [if_neg ho0, if_neg ho1, if_neg ho2, if_neg ho3, if_neg ho4, hy5]
  have HO2 : objB ki x y = (inB x (m : Int) && (ki.getD x.toNat 0 == y)) := by unfold objB; rw [hlen]
  rw [HO2] at HO
  clear HO2 hy5 ho0 ho1 ho2 ho3 ho4
  have IN := Lib.hid (fun (W : World) => place_any x (m : Int) W)
  cases hi : inB x (m : Int)
  · rw [hi] at IN HO
    have HE := Lib.hid (HO.trans (Bool.false_and _))
    clear HO hi hlen hy o0 o1
    go_enter Try.func26, Try.ntmps26
    have c00 : v1.cell? ⟨q, 0, none⟩ = some (.slice A n c) := FR.out.cell 0 0 rfl rfl rfl
    have c01 : v1.cell? ⟨q, 1, none⟩ = some (.slice B m d) := FR.out.cell 0 1 rfl rfl rfl
    have c02 : v1.cell? ⟨q, 2, none⟩ = some (.slice C k f) := FR.out.cell 0 2 rfl rfl rfl
    have c03 : v1.cell? ⟨q, 3, none⟩ = some (.int .i64 ce) := FR.out.cell 0 3 rfl rfl rfl
    have c04 : v1.cell? ⟨q, 4, none⟩ = some (.int .i64 re) := FR.out.cell 0 4 rfl rfl rfl
    have c05 : v1.cell? ⟨q, 5, none⟩ = some (.int .i64 pa) := FR.out.cell 0 5 rfl rfl rfl
    go_wp2_with fail
    refine ((IN.out _)).mono ?_
    rintro e w2 ⟨rfl, rfl⟩
    clear c00 c01 c02 c03 c04 c05
    have c00 : w2.cell? ⟨q, 0, none⟩ = some (.slice A n c) := FR.out.cell 0 0 rfl rfl rfl
    have c01 : w2.cell? ⟨q, 1, none⟩ = some (.slice B m d) := FR.out.cell 0 1 rfl rfl rfl
    have c02 : w2.cell? ⟨q, 2, none⟩ = some (.slice C k f) := FR.out.cell 0 2 rfl rfl rfl
    have c03 : w2.cell? ⟨q, 3, none⟩ = some (.int .i64 ce) := FR.out.cell 0 3 rfl rfl rfl
    have c04 : w2.cell? ⟨q, 4, none⟩ = some (.int .i64 re) := FR.out.cell 0 4 rfl rfl rfl
    have c05 : w2.cell? ⟨q, 5, none⟩ = some (.int .i64 pa) := FR.out.cell 0 5 rfl rfl rfl
    go_wp2
    go_ret
    rw [HE.out]
    exact ⟨rfl, FR.out.out⟩
  · rw [hi] at IN HO
    obtain ⟨i0, i1⟩ := inB_iff.1 hi
    obtain ⟨i, rfl⟩ : ∃ i : Nat, x = i := ⟨x.toNat, by omega⟩
    obtain ⟨b, off, v, rfl, hlb, hlc, hdr⟩ := RY.out.look i (by omega)
    replace hlc := (FR.out.out.cell (p := ⟨b, off + i, none⟩) hlb).trans hlc
    have hv : ki.getD ((i : Int)).toNat 0 = v := by have h1 := drop_at (xs := ki) (i := i) (by omega); rw [h1] at hdr; injection hdr with h2 _; rw [← h2, show ((i : Int)).toNat = i by omega]; simp [List.getD, show i < ki.length by omega]
    rw [hv, Bool.true_and] at HO
    have HE := Lib.hid HO
    clear HO hlen hy hv hdr hlb o0 o1
    go_enter Try.func26, Try.ntmps26
    have c00 : v1.cell? ⟨q, 0, none⟩ = some (.slice A n c) := FR.out.cell 0 0 rfl rfl rfl
    have c01 : v1.cell? ⟨q, 1, none⟩ = some (.slice (some ⟨b, off, none⟩) m d) := FR.out.cell 0 1 rfl rfl rfl
    have c02 : v1.cell? ⟨q, 2, none⟩ = some (.slice C k f) := FR.out.cell 0 2 rfl rfl rfl
    have c03 : v1.cell? ⟨q, 3, none⟩ = some (.int .i64 ce) := FR.out.cell 0 3 rfl rfl rfl
    have c04 : v1.cell? ⟨q, 4, none⟩ = some (.int .i64 re) := FR.out.cell 0 4 rfl rfl rfl
    have c05 : v1.cell? ⟨q, 5, none⟩ = some (.int .i64 pa) := FR.out.cell 0 5 rfl rfl rfl
    go_wp2_with fail
    refine (IN.out _).mono ?_
    rintro e w2 ⟨rfl, rfl⟩
    go_wp2
    go_ret
    rw [HE.out]
    exact ⟨rfl, FR.out.out⟩
set_option maxRecDepth 100000 in
set_option maxHeartbeats 16000000 in
theorem insL_any (A : Option Addr) (n c : Nat) (B : Option Addr) (m d : Nat) (C : Option Addr) (k f : Nat) (co : List I4) (ki si : List Int) (ce re pa : Int) (y : Int) (w : World) (hx : I4s w A n c co) (hy : Is w B m d ki) (hz : Is w C k f si) (hn : n ≤ 16384) (hm : m ≤ 16384) (hk : k ≤ 16384) :
    Calls Try.prog 11 #[.agg #[.slice A n c, .slice B m d, .slice C k f, .int .i64 ce, .int .i64 re, .int .i64 pa], .int .i64 y] w (YesC w (insB ⟨co, ki, si, ce, re, pa⟩ y)) := by
  have hlen := hx.len
  have RX := Lib.hid hx; have RY := Lib.hid hy; have RZ := Lib.hid hz
  have IN := fun (W : World) => place_any y (n : Int) W
  have HO : insB ⟨co, ki, si, ce, re, pa⟩ y = (inB y (n : Int) && insX ⟨co, ki, si, ce, re, pa⟩ (inAt co y.toNat)) := by unfold insB; rw [show (⟨co, ki, si, ce, re, pa⟩ : Pg).code.length = n from hlen]
  cases hi : inB y (n : Int)
  · rw [hi] at IN HO
    replace IN := Lib.hid IN
    have HE := Lib.hid (HO.trans (Bool.false_and _))
    clear HO hi hlen hx hy hz
    obtain ⟨v1, hv1⟩ : ∃ W, w.alloc (.cells #[.slice A n c, .slice B m d, .slice C k f, .int .i64 ce, .int .i64 re, .int .i64 pa] 25) = W := ⟨_, rfl⟩
    have fr1 : Fr w v1 w.heap.size [.cells #[.slice A n c, .slice B m d, .slice C k f, .int .i64 ce, .int .i64 re, .int .i64 pa] 25] := hv1 ▸ Fr.first w _
    have z1 : v1.heap.size = w.heap.size + 1 := by rw [← hv1, Fr.size1]
    generalize hq : w.heap.size = q at *
    have FR := Lib.hid fr1
    clear fr1
    go_enter Try.func11, Try.ntmps11
    have c00 : v1.cell? ⟨q, 0, none⟩ = some (.slice A n c) := FR.out.cell 0 0 rfl rfl rfl
    have c01 : v1.cell? ⟨q, 1, none⟩ = some (.slice B m d) := FR.out.cell 0 1 rfl rfl rfl
    have c02 : v1.cell? ⟨q, 2, none⟩ = some (.slice C k f) := FR.out.cell 0 2 rfl rfl rfl
    have c03 : v1.cell? ⟨q, 3, none⟩ = some (.int .i64 ce) := FR.out.cell 0 3 rfl rfl rfl
    have c04 : v1.cell? ⟨q, 4, none⟩ = some (.int .i64 re) := FR.out.cell 0 4 rfl rfl rfl
    have c05 : v1.cell? ⟨q, 5, none⟩ = some (.int .i64 pa) := FR.out.cell 0 5 rfl rfl rfl
    go_wp2_with fail
    refine ((IN.out _)).mono ?_
    rintro e w2 ⟨rfl, rfl⟩
    clear c00 c01 c02 c03 c04 c05
    have c00 : w2.cell? ⟨q, 0, none⟩ = some (.slice A n c) := FR.out.cell 0 0 rfl rfl rfl
    have c01 : w2.cell? ⟨q, 1, none⟩ = some (.slice B m d) := FR.out.cell 0 1 rfl rfl rfl
    have c02 : w2.cell? ⟨q, 2, none⟩ = some (.slice C k f) := FR.out.cell 0 2 rfl rfl rfl
    have c03 : w2.cell? ⟨q, 3, none⟩ = some (.int .i64 ce) := FR.out.cell 0 3 rfl rfl rfl
    have c04 : w2.cell? ⟨q, 4, none⟩ = some (.int .i64 re) := FR.out.cell 0 4 rfl rfl rfl
    have c05 : w2.cell? ⟨q, 5, none⟩ = some (.int .i64 pa) := FR.out.cell 0 5 rfl rfl rfl
    go_wp2
    go_ret
    rw [HE.out]
    exact ⟨rfl, FR.out.out⟩
  · rw [hi] at IN HO
    replace IN := Lib.hid IN
    rw [Bool.true_and] at HO
    obtain ⟨i0, i1⟩ := inB_iff.1 hi
    obtain ⟨i, rfl⟩ : ∃ i : Nat, y = i := ⟨y.toNat, by omega⟩
    have e2 : ((i : Int)).toNat = i := by omega
    rw [e2] at HO
    obtain ⟨b, off, rfl, hbw, k0, k1, k2, k3⟩ := I4s.look (l := co) hx i (by omega)
    obtain ⟨⟨o, a, bb, x⟩, hxx⟩ : ∃ z, inAt co i = z := ⟨_, rfl⟩
    rw [hxx] at HO k0 k1 k2 k3
    simp only at k0 k1 k2 k3
    have hq1 : insX ⟨co, ki, si, ce, re, pa⟩ (o, a, bb, x) = (plainB n ce o a bb x || syncB ki o a bb x) := by unfold insX; rw [show (⟨co, ki, si, ce, re, pa⟩ : Pg).code.length = n from hlen]
    rw [hq1, ins_stand] at HO
    have OP := fun (W : World) => operands_any o W
    have rg := opsF_rng o
    obtain ⟨⟨oa, ob, oc, ok⟩, hof⟩ : ∃ z, opsF o = z := ⟨_, rfl⟩
    rw [hof] at OP HO rg
    simp only at OP HO rg
    obtain ⟨⟨g1, g2⟩, ⟨g3, g4⟩, g5, g6⟩ := rg
    have S1 := fun (W : World) (h1 : I4s W (some ⟨b, off, none⟩) n c co) (h2 : Is W B m d ki) (h3 : Is W C k f si) => stand_any (some ⟨b, off, none⟩) n c B m d C k f co ki si ce re pa oa a W h1 h2 h3 hn hm hk g1 g2
    have S2 := fun (W : World) (h1 : I4s W (some ⟨b, off, none⟩) n c co) (h2 : Is W B m d ki) (h3 : Is W C k f si) => stand_any (some ⟨b, off, none⟩) n c B m d C k f co ki si ce re pa ob bb W h1 h2 h3 hn hm hk g3 g4
    have S3 := fun (W : World) (h1 : I4s W (some ⟨b, off, none⟩) n c co) (h2 : Is W B m d ki) (h3 : Is W C k f si) => stand_any (some ⟨b, off, none⟩) n c B m d C k f co ki si ce re pa oc x W h1 h2 h3 hn hm hk g5 g6
    obtain ⟨s3, hs3⟩ : ∃ t, standB n ce ki oc x = t := ⟨_, rfl⟩
    rw [hs3] at S3 HO
    replace OP := Lib.hid OP; replace S3 := Lib.hid S3
    clear hxx hq1 hlen hx hy hz e2 hi hof hs3 g1 g2 g3 g4 g5 g6
    obtain ⟨v1, hv1⟩ : ∃ W, w.alloc (.cells #[.slice (some ⟨b, off, none⟩) n c, .slice B m d, .slice C k f, .int .i64 ce, .int .i64 re, .int .i64 pa] 25) = W := ⟨_, rfl⟩
    have fr1 : Fr w v1 w.heap.size [.cells #[.slice (some ⟨b, off, none⟩) n c, .slice B m d, .slice C k f, .int .i64 ce, .int .i64 re, .int .i64 pa] 25] := hv1 ▸ Fr.first w _
    have z1 : v1.heap.size = w.heap.size + 1 := by rw [← hv1, Fr.size1]
    generalize hq : w.heap.size = q at *
    have FR := Lib.hid fr1
    clear fr1
    have hbq : b < w.heap.size := by rw [hq]; exact hbw
    replace k0 := (FR.out.out.cell (p := ⟨b, off + i * 4, none⟩) hbq).trans k0
    replace k1 := (FR.out.out.cell (p := ⟨b, off + i * 4 + 1, none⟩) hbq).trans k1
    replace k2 := (FR.out.out.cell (p := ⟨b, off + i * 4 + 2, none⟩) hbq).trans k2
    replace k3 := (FR.out.out.cell (p := ⟨b, off + i * 4 + 3, none⟩) hbq).trans k3
    have K0 := Lib.hid k0; have K1 := Lib.hid k1; have K2 := Lib.hid k2; have K3 := Lib.hid k3
    clear hbq hbw
    cases ok
    · have HE := Lib.hid (show insB ⟨co, ki, si, ce, re, pa⟩ (i : Int) = false from HO.trans (by simp only [Bool.false_and]))
      clear HO S1 S2 S3
      go_enter Try.func11, Try.ntmps11
      have c00 : v1.cell? ⟨q, 0, none⟩ = some (.slice (some ⟨b, off, none⟩) n c) := FR.out.cell 0 0 rfl rfl rfl
      have c01 : v1.cell? ⟨q, 1, none⟩ = some (.slice B m d) := FR.out.cell 0 1 rfl rfl rfl
      have c02 : v1.cell? ⟨q, 2, none⟩ = some (.slice C k f) := FR.out.cell 0 2 rfl rfl rfl
      have c03 : v1.cell? ⟨q, 3, none⟩ = some (.int .i64 ce) := FR.out.cell 0 3 rfl rfl rfl
      have c04 : v1.cell? ⟨q, 4, none⟩ = some (.int .i64 re) := FR.out.cell 0 4 rfl rfl rfl
      have c05 : v1.cell? ⟨q, 5, none⟩ = some (.int .i64 pa) := FR.out.cell 0 5 rfl rfl rfl
      go_wp2_with fail
      refine ((IN.out _)).mono ?_
      rintro e w2 ⟨rfl, rfl⟩
      clear c00 c01 c02 c03 c04 c05
      clear hv1 z1
      have ac00 : w2.cell? ⟨q, 0, none⟩ = some (.slice (some ⟨b, off, none⟩) n c) := FR.out.cell 0 0 rfl rfl rfl
      have ac01 : w2.cell? ⟨q, 1, none⟩ = some (.slice B m d) := FR.out.cell 0 1 rfl rfl rfl
      have ac02 : w2.cell? ⟨q, 2, none⟩ = some (.slice C k f) := FR.out.cell 0 2 rfl rfl rfl
      have ac03 : w2.cell? ⟨q, 3, none⟩ = some (.int .i64 ce) := FR.out.cell 0 3 rfl rfl rfl
      have ac04 : w2.cell? ⟨q, 4, none⟩ = some (.int .i64 re) := FR.out.cell 0 4 rfl rfl rfl
      have ac05 : w2.cell? ⟨q, 5, none⟩ = some (.int .i64 pa) := FR.out.cell 0 5 rfl rfl rfl
      have gex := FR.out.sz
      simp only [List.length_cons, List.length_nil] at gex
      obtain ⟨w3, hw3⟩ : ∃ W, w2.alloc (.cells #[.int .i64 o, .int .i64 a, .int .i64 bb, .int .i64 x] 40) = W := ⟨_, rfl⟩
      have hb : Below w2.heap.size w2 w3 := hw3 ▸ (Below.refl _ _).alloc (Nat.le_refl _) _
      have hv : w3.heap[w2.heap.size]? = some (.cells #[.int .i64 o, .int .i64 a, .int .i64 bb, .int .i64 x] 40) := hw3 ▸ heap_alloc_new _ _
      replace FR := Lib.hid (FR.out.step hb)
      have Vx := Lib.hid hv
      generalize hsx : w2.heap.size = sx at *
      clear hb hv
      have c00 : w3.cell? ⟨q, 0, none⟩ = some (.slice (some ⟨b, off, none⟩) n c) := FR.out.cell 0 0 rfl rfl rfl
      have c01 : w3.cell? ⟨q, 1, none⟩ = some (.slice B m d) := FR.out.cell 0 1 rfl rfl rfl
      have c02 : w3.cell? ⟨q, 2, none⟩ = some (.slice C k f) := FR.out.cell 0 2 rfl rfl rfl
      have c03 : w3.cell? ⟨q, 3, none⟩ = some (.int .i64 ce) := FR.out.cell 0 3 rfl rfl rfl
      have c04 : w3.cell? ⟨q, 4, none⟩ = some (.int .i64 re) := FR.out.cell 0 4 rfl rfl rfl
      have c05 : w3.cell? ⟨q, 5, none⟩ = some (.int .i64 pa) := FR.out.cell 0 5 rfl rfl rfl
      have cx0 : w3.cell? ⟨sx, 0, none⟩ = some (.int .i64 o) := (blk_cell Vx.out 0).trans rfl
      have cx1 : w3.cell? ⟨sx, 1, none⟩ = some (.int .i64 a) := (blk_cell Vx.out 1).trans rfl
      have cx2 : w3.cell? ⟨sx, 2, none⟩ = some (.int .i64 bb) := (blk_cell Vx.out 2).trans rfl
      have cx3 : w3.cell? ⟨sx, 3, none⟩ = some (.int .i64 x) := (blk_cell Vx.out 3).trans rfl
      go_wp2_with fail
      refine ((OP.out _)).mono ?_
      rintro e w4 ⟨rfl, hb⟩
      clear c00 c01 c02 c03 c04 c05 cx0 cx1 cx2 cx3
      replace FR := Lib.hid (FR.out.step hb)
      replace Vx := Lib.hid (blk_below Vx.out hb (blk_lt Vx.out))
      clear hb
      clear ac00 ac01 ac02 ac03 ac04 ac05
      have ltxy := blk_lt Vx.out
      have gey := FR.out.sz
      simp only [List.length_cons, List.length_nil] at gey
      obtain ⟨w5, hw5⟩ : ∃ W, w4.alloc (.cells #[.int .i64 oa, .int .i64 ob, .int .i64 oc] 51) = W := ⟨_, rfl⟩
      have hb : Below w4.heap.size w4 w5 := hw5 ▸ (Below.refl _ _).alloc (Nat.le_refl _) _
      have hv : w5.heap[w4.heap.size]? = some (.cells #[.int .i64 oa, .int .i64 ob, .int .i64 oc] 51) := hw5 ▸ heap_alloc_new _ _
      replace FR := Lib.hid (FR.out.step hb)
      replace Vx := Lib.hid (blk_below Vx.out hb (blk_lt Vx.out))
      have Vy := Lib.hid hv
      have nexy := Nat.ne_of_lt ltxy
      generalize hsy : w4.heap.size = sy at *
      clear hb hv ltxy
      have c00 : w5.cell? ⟨q, 0, none⟩ = some (.slice (some ⟨b, off, none⟩) n c) := FR.out.cell 0 0 rfl rfl rfl
      have c01 : w5.cell? ⟨q, 1, none⟩ = some (.slice B m d) := FR.out.cell 0 1 rfl rfl rfl
      have c02 : w5.cell? ⟨q, 2, none⟩ = some (.slice C k f) := FR.out.cell 0 2 rfl rfl rfl
      have c03 : w5.cell? ⟨q, 3, none⟩ = some (.int .i64 ce) := FR.out.cell 0 3 rfl rfl rfl
      have c04 : w5.cell? ⟨q, 4, none⟩ = some (.int .i64 re) := FR.out.cell 0 4 rfl rfl rfl
      have c05 : w5.cell? ⟨q, 5, none⟩ = some (.int .i64 pa) := FR.out.cell 0 5 rfl rfl rfl
      have cx0 : w5.cell? ⟨sx, 0, none⟩ = some (.int .i64 o) := (blk_cell Vx.out 0).trans rfl
      have cx1 : w5.cell? ⟨sx, 1, none⟩ = some (.int .i64 a) := (blk_cell Vx.out 1).trans rfl
      have cx2 : w5.cell? ⟨sx, 2, none⟩ = some (.int .i64 bb) := (blk_cell Vx.out 2).trans rfl
      have cx3 : w5.cell? ⟨sx, 3, none⟩ = some (.int .i64 x) := (blk_cell Vx.out 3).trans rfl
      have cy0 : w5.cell? ⟨sy, 0, none⟩ = some (.int .i64 oa) := (blk_cell Vy.out 0).trans rfl
      have cy1 : w5.cell? ⟨sy, 1, none⟩ = some (.int .i64 ob) := (blk_cell Vy.out 1).trans rfl
      have cy2 : w5.cell? ⟨sy, 2, none⟩ = some (.int .i64 oc) := (blk_cell Vy.out 2).trans rfl
      go_wp2
      go_ret
      rw [HE.out]
      exact ⟨rfl, FR.out.out⟩
    · cases hs1 : standB n ce ki oa a
      · rw [hs1] at S1 HO
        replace S1 := Lib.hid S1
        have HE := Lib.hid (show insB ⟨co, ki, si, ce, re, pa⟩ (i : Int) = false from HO.trans (by simp only [Bool.false_and, Bool.true_and]))
        clear HO S2 S3 hs1
        go_enter Try.func11, Try.ntmps11
        have c00 : v1.cell? ⟨q, 0, none⟩ = some (.slice (some ⟨b, off, none⟩) n c) := FR.out.cell 0 0 rfl rfl rfl
        have c01 : v1.cell? ⟨q, 1, none⟩ = some (.slice B m d) := FR.out.cell 0 1 rfl rfl rfl
        have c02 : v1.cell? ⟨q, 2, none⟩ = some (.slice C k f) := FR.out.cell 0 2 rfl rfl rfl
        have c03 : v1.cell? ⟨q, 3, none⟩ = some (.int .i64 ce) := FR.out.cell 0 3 rfl rfl rfl
        have c04 : v1.cell? ⟨q, 4, none⟩ = some (.int .i64 re) := FR.out.cell 0 4 rfl rfl rfl
        have c05 : v1.cell? ⟨q, 5, none⟩ = some (.int .i64 pa) := FR.out.cell 0 5 rfl rfl rfl
        go_wp2_with fail
        refine ((IN.out _)).mono ?_
        rintro e w2 ⟨rfl, rfl⟩
        clear c00 c01 c02 c03 c04 c05
        clear hv1 z1
        have ac00 : w2.cell? ⟨q, 0, none⟩ = some (.slice (some ⟨b, off, none⟩) n c) := FR.out.cell 0 0 rfl rfl rfl
        have ac01 : w2.cell? ⟨q, 1, none⟩ = some (.slice B m d) := FR.out.cell 0 1 rfl rfl rfl
        have ac02 : w2.cell? ⟨q, 2, none⟩ = some (.slice C k f) := FR.out.cell 0 2 rfl rfl rfl
        have ac03 : w2.cell? ⟨q, 3, none⟩ = some (.int .i64 ce) := FR.out.cell 0 3 rfl rfl rfl
        have ac04 : w2.cell? ⟨q, 4, none⟩ = some (.int .i64 re) := FR.out.cell 0 4 rfl rfl rfl
        have ac05 : w2.cell? ⟨q, 5, none⟩ = some (.int .i64 pa) := FR.out.cell 0 5 rfl rfl rfl
        have gex := FR.out.sz
        simp only [List.length_cons, List.length_nil] at gex
        obtain ⟨w3, hw3⟩ : ∃ W, w2.alloc (.cells #[.int .i64 o, .int .i64 a, .int .i64 bb, .int .i64 x] 40) = W := ⟨_, rfl⟩
        have hb : Below w2.heap.size w2 w3 := hw3 ▸ (Below.refl _ _).alloc (Nat.le_refl _) _
        have hv : w3.heap[w2.heap.size]? = some (.cells #[.int .i64 o, .int .i64 a, .int .i64 bb, .int .i64 x] 40) := hw3 ▸ heap_alloc_new _ _
        replace FR := Lib.hid (FR.out.step hb)
        have Vx := Lib.hid hv
        generalize hsx : w2.heap.size = sx at *
        clear hb hv
        have c00 : w3.cell? ⟨q, 0, none⟩ = some (.slice (some ⟨b, off, none⟩) n c) := FR.out.cell 0 0 rfl rfl rfl
        have c01 : w3.cell? ⟨q, 1, none⟩ = some (.slice B m d) := FR.out.cell 0 1 rfl rfl rfl
        have c02 : w3.cell? ⟨q, 2, none⟩ = some (.slice C k f) := FR.out.cell 0 2 rfl rfl rfl
        have c03 : w3.cell? ⟨q, 3, none⟩ = some (.int .i64 ce) := FR.out.cell 0 3 rfl rfl rfl
        have c04 : w3.cell? ⟨q, 4, none⟩ = some (.int .i64 re) := FR.out.cell 0 4 rfl rfl rfl
        have c05 : w3.cell? ⟨q, 5, none⟩ = some (.int .i64 pa) := FR.out.cell 0 5 rfl rfl rfl
        have cx0 : w3.cell? ⟨sx, 0, none⟩ = some (.int .i64 o) := (blk_cell Vx.out 0).trans rfl
        have cx1 : w3.cell? ⟨sx, 1, none⟩ = some (.int .i64 a) := (blk_cell Vx.out 1).trans rfl
        have cx2 : w3.cell? ⟨sx, 2, none⟩ = some (.int .i64 bb) := (blk_cell Vx.out 2).trans rfl
        have cx3 : w3.cell? ⟨sx, 3, none⟩ = some (.int .i64 x) := (blk_cell Vx.out 3).trans rfl
        go_wp2_with fail
        refine ((OP.out _)).mono ?_
        rintro e w4 ⟨rfl, hb⟩
        clear c00 c01 c02 c03 c04 c05 cx0 cx1 cx2 cx3
        replace FR := Lib.hid (FR.out.step hb)
        replace Vx := Lib.hid (blk_below Vx.out hb (blk_lt Vx.out))
        clear hb
        clear ac00 ac01 ac02 ac03 ac04 ac05
        have ltxy := blk_lt Vx.out
        have gey := FR.out.sz
        simp only [List.length_cons, List.length_nil] at gey
        obtain ⟨w5, hw5⟩ : ∃ W, w4.alloc (.cells #[.int .i64 oa, .int .i64 ob, .int .i64 oc] 51) = W := ⟨_, rfl⟩
        have hb : Below w4.heap.size w4 w5 := hw5 ▸ (Below.refl _ _).alloc (Nat.le_refl _) _
        have hv : w5.heap[w4.heap.size]? = some (.cells #[.int .i64 oa, .int .i64 ob, .int .i64 oc] 51) := hw5 ▸ heap_alloc_new _ _
        replace FR := Lib.hid (FR.out.step hb)
        replace Vx := Lib.hid (blk_below Vx.out hb (blk_lt Vx.out))
        have Vy := Lib.hid hv
        have nexy := Nat.ne_of_lt ltxy
        generalize hsy : w4.heap.size = sy at *
        clear hb hv ltxy
        have c00 : w5.cell? ⟨q, 0, none⟩ = some (.slice (some ⟨b, off, none⟩) n c) := FR.out.cell 0 0 rfl rfl rfl
        have c01 : w5.cell? ⟨q, 1, none⟩ = some (.slice B m d) := FR.out.cell 0 1 rfl rfl rfl
        have c02 : w5.cell? ⟨q, 2, none⟩ = some (.slice C k f) := FR.out.cell 0 2 rfl rfl rfl
        have c03 : w5.cell? ⟨q, 3, none⟩ = some (.int .i64 ce) := FR.out.cell 0 3 rfl rfl rfl
        have c04 : w5.cell? ⟨q, 4, none⟩ = some (.int .i64 re) := FR.out.cell 0 4 rfl rfl rfl
        have c05 : w5.cell? ⟨q, 5, none⟩ = some (.int .i64 pa) := FR.out.cell 0 5 rfl rfl rfl
        have cx0 : w5.cell? ⟨sx, 0, none⟩ = some (.int .i64 o) := (blk_cell Vx.out 0).trans rfl
        have cx1 : w5.cell? ⟨sx, 1, none⟩ = some (.int .i64 a) := (blk_cell Vx.out 1).trans rfl
        have cx2 : w5.cell? ⟨sx, 2, none⟩ = some (.int .i64 bb) := (blk_cell Vx.out 2).trans rfl
        have cx3 : w5.cell? ⟨sx, 3, none⟩ = some (.int .i64 x) := (blk_cell Vx.out 3).trans rfl
        have cy0 : w5.cell? ⟨sy, 0, none⟩ = some (.int .i64 oa) := (blk_cell Vy.out 0).trans rfl
        have cy1 : w5.cell? ⟨sy, 1, none⟩ = some (.int .i64 ob) := (blk_cell Vy.out 1).trans rfl
        have cy2 : w5.cell? ⟨sy, 2, none⟩ = some (.int .i64 oc) := (blk_cell Vy.out 2).trans rfl
        go_wp2_with fail
        refine ((S1.out _ (FR.out.es RX.out) (FR.out.es RY.out) (FR.out.es RZ.out))).mono ?_
        rintro e w6 ⟨rfl, hb⟩
        clear c00 c01 c02 c03 c04 c05 cx0 cx1 cx2 cx3 cy0 cy1 cy2
        replace FR := Lib.hid (FR.out.step hb)
        replace Vx := Lib.hid (blk_below Vx.out hb (blk_lt Vx.out))
        replace Vy := Lib.hid (blk_below Vy.out hb (blk_lt Vy.out))
        clear hb
        have c00 : w6.cell? ⟨q, 0, none⟩ = some (.slice (some ⟨b, off, none⟩) n c) := FR.out.cell 0 0 rfl rfl rfl
        have c01 : w6.cell? ⟨q, 1, none⟩ = some (.slice B m d) := FR.out.cell 0 1 rfl rfl rfl
        have c02 : w6.cell? ⟨q, 2, none⟩ = some (.slice C k f) := FR.out.cell 0 2 rfl rfl rfl
        have c03 : w6.cell? ⟨q, 3, none⟩ = some (.int .i64 ce) := FR.out.cell 0 3 rfl rfl rfl
        have c04 : w6.cell? ⟨q, 4, none⟩ = some (.int .i64 re) := FR.out.cell 0 4 rfl rfl rfl
        have c05 : w6.cell? ⟨q, 5, none⟩ = some (.int .i64 pa) := FR.out.cell 0 5 rfl rfl rfl
        have cx0 : w6.cell? ⟨sx, 0, none⟩ = some (.int .i64 o) := (blk_cell Vx.out 0).trans rfl
        have cx1 : w6.cell? ⟨sx, 1, none⟩ = some (.int .i64 a) := (blk_cell Vx.out 1).trans rfl
        have cx2 : w6.cell? ⟨sx, 2, none⟩ = some (.int .i64 bb) := (blk_cell Vx.out 2).trans rfl
        have cx3 : w6.cell? ⟨sx, 3, none⟩ = some (.int .i64 x) := (blk_cell Vx.out 3).trans rfl
        have cy0 : w6.cell? ⟨sy, 0, none⟩ = some (.int .i64 oa) := (blk_cell Vy.out 0).trans rfl
        have cy1 : w6.cell? ⟨sy, 1, none⟩ = some (.int .i64 ob) := (blk_cell Vy.out 1).trans rfl
        have cy2 : w6.cell? ⟨sy, 2, none⟩ = some (.int .i64 oc) := (blk_cell Vy.out 2).trans rfl
        go_wp2
        go_ret
        rw [HE.out]
        exact ⟨rfl, FR.out.out⟩
      · rw [hs1] at S1 HO
        replace S1 := Lib.hid S1
        clear hs1
        cases hs2 : standB n ce ki ob bb
        · rw [hs2] at S2 HO
          replace S2 := Lib.hid S2
          have HE := Lib.hid (show insB ⟨co, ki, si, ce, re, pa⟩ (i : Int) = false from HO.trans (by simp only [Bool.false_and, Bool.true_and]))
          clear HO S3 hs2
          go_enter Try.func11, Try.ntmps11
          have c00 : v1.cell? ⟨q, 0, none⟩ = some (.slice (some ⟨b, off, none⟩) n c) := FR.out.cell 0 0 rfl rfl rfl
          have c01 : v1.cell? ⟨q, 1, none⟩ = some (.slice B m d) := FR.out.cell 0 1 rfl rfl rfl
          have c02 : v1.cell? ⟨q, 2, none⟩ = some (.slice C k f) := FR.out.cell 0 2 rfl rfl rfl
          have c03 : v1.cell? ⟨q, 3, none⟩ = some (.int .i64 ce) := FR.out.cell 0 3 rfl rfl rfl
          have c04 : v1.cell? ⟨q, 4, none⟩ = some (.int .i64 re) := FR.out.cell 0 4 rfl rfl rfl
          have c05 : v1.cell? ⟨q, 5, none⟩ = some (.int .i64 pa) := FR.out.cell 0 5 rfl rfl rfl
          go_wp2_with fail
          refine ((IN.out _)).mono ?_
          rintro e w2 ⟨rfl, rfl⟩
          clear c00 c01 c02 c03 c04 c05
          clear hv1 z1
          have ac00 : w2.cell? ⟨q, 0, none⟩ = some (.slice (some ⟨b, off, none⟩) n c) := FR.out.cell 0 0 rfl rfl rfl
          have ac01 : w2.cell? ⟨q, 1, none⟩ = some (.slice B m d) := FR.out.cell 0 1 rfl rfl rfl
          have ac02 : w2.cell? ⟨q, 2, none⟩ = some (.slice C k f) := FR.out.cell 0 2 rfl rfl rfl
          have ac03 : w2.cell? ⟨q, 3, none⟩ = some (.int .i64 ce) := FR.out.cell 0 3 rfl rfl rfl
          have ac04 : w2.cell? ⟨q, 4, none⟩ = some (.int .i64 re) := FR.out.cell 0 4 rfl rfl rfl
          have ac05 : w2.cell? ⟨q, 5, none⟩ = some (.int .i64 pa) := FR.out.cell 0 5 rfl rfl rfl
          have gex := FR.out.sz
          simp only [List.length_cons, List.length_nil] at gex
          obtain ⟨w3, hw3⟩ : ∃ W, w2.alloc (.cells #[.int .i64 o, .int .i64 a, .int .i64 bb, .int .i64 x] 40) = W := ⟨_, rfl⟩
          have hb : Below w2.heap.size w2 w3 := hw3 ▸ (Below.refl _ _).alloc (Nat.le_refl _) _
          have hv : w3.heap[w2.heap.size]? = some (.cells #[.int .i64 o, .int .i64 a, .int .i64 bb, .int .i64 x] 40) := hw3 ▸ heap_alloc_new _ _
          replace FR := Lib.hid (FR.out.step hb)
          have Vx := Lib.hid hv
          generalize hsx : w2.heap.size = sx at *
          clear hb hv
          have c00 : w3.cell? ⟨q, 0, none⟩ = some (.slice (some ⟨b, off, none⟩) n c) := FR.out.cell 0 0 rfl rfl rfl
          have c01 : w3.cell? ⟨q, 1, none⟩ = some (.slice B m d) := FR.out.cell 0 1 rfl rfl rfl
          have c02 : w3.cell? ⟨q, 2, none⟩ = some (.slice C k f) := FR.out.cell 0 2 rfl rfl rfl
          have c03 : w3.cell? ⟨q, 3, none⟩ = some (.int .i64 ce) := FR.out.cell 0 3 rfl rfl rfl
          have c04 : w3.cell? ⟨q, 4, none⟩ = some (.int .i64 re) := FR.out.cell 0 4 rfl rfl rfl
          have c05 : w3.cell? ⟨q, 5, none⟩ = some (.int .i64 pa) := FR.out.cell 0 5 rfl rfl rfl
          have cx0 : w3.cell? ⟨sx, 0, none⟩ = some (.int .i64 o) := (blk_cell Vx.out 0).trans rfl
          have cx1 : w3.cell? ⟨sx, 1, none⟩ = some (.int .i64 a) := (blk_cell Vx.out 1).trans rfl
          have cx2 : w3.cell? ⟨sx, 2, none⟩ = some (.int .i64 bb) := (blk_cell Vx.out 2).trans rfl
          have cx3 : w3.cell? ⟨sx, 3, none⟩ = some (.int .i64 x) := (blk_cell Vx.out 3).trans rfl
          go_wp2_with fail
          refine ((OP.out _)).mono ?_
          rintro e w4 ⟨rfl, hb⟩
          clear c00 c01 c02 c03 c04 c05 cx0 cx1 cx2 cx3
          replace FR := Lib.hid (FR.out.step hb)
          replace Vx := Lib.hid (blk_below Vx.out hb (blk_lt Vx.out))
          clear hb
          clear ac00 ac01 ac02 ac03 ac04 ac05
          have ltxy := blk_lt Vx.out
          have gey := FR.out.sz
          simp only [List.length_cons, List.length_nil] at gey
          obtain ⟨w5, hw5⟩ : ∃ W, w4.alloc (.cells #[.int .i64 oa, .int .i64 ob, .int .i64 oc] 51) = W := ⟨_, rfl⟩
          have hb : Below w4.heap.size w4 w5 := hw5 ▸ (Below.refl _ _).alloc (Nat.le_refl _) _
          have hv : w5.heap[w4.heap.size]? = some (.cells #[.int .i64 oa, .int .i64 ob, .int .i64 oc] 51) := hw5 ▸ heap_alloc_new _ _
          replace FR := Lib.hid (FR.out.step hb)
          replace Vx := Lib.hid (blk_below Vx.out hb (blk_lt Vx.out))
          have Vy := Lib.hid hv
          have nexy := Nat.ne_of_lt ltxy
          generalize hsy : w4.heap.size = sy at *
          clear hb hv ltxy
          have c00 : w5.cell? ⟨q, 0, none⟩ = some (.slice (some ⟨b, off, none⟩) n c) := FR.out.cell 0 0 rfl rfl rfl
          have c01 : w5.cell? ⟨q, 1, none⟩ = some (.slice B m d) := FR.out.cell 0 1 rfl rfl rfl
          have c02 : w5.cell? ⟨q, 2, none⟩ = some (.slice C k f) := FR.out.cell 0 2 rfl rfl rfl
          have c03 : w5.cell? ⟨q, 3, none⟩ = some (.int .i64 ce) := FR.out.cell 0 3 rfl rfl rfl
          have c04 : w5.cell? ⟨q, 4, none⟩ = some (.int .i64 re) := FR.out.cell 0 4 rfl rfl rfl
          have c05 : w5.cell? ⟨q, 5, none⟩ = some (.int .i64 pa) := FR.out.cell 0 5 rfl rfl rfl
          have cx0 : w5.cell? ⟨sx, 0, none⟩ = some (.int .i64 o) := (blk_cell Vx.out 0).trans rfl
          have cx1 : w5.cell? ⟨sx, 1, none⟩ = some (.int .i64 a) := (blk_cell Vx.out 1).trans rfl
          have cx2 : w5.cell? ⟨sx, 2, none⟩ = some (.int .i64 bb) := (blk_cell Vx.out 2).trans rfl
          have cx3 : w5.cell? ⟨sx, 3, none⟩ = some (.int .i64 x) := (blk_cell Vx.out 3).trans rfl
          have cy0 : w5.cell? ⟨sy, 0, none⟩ = some (.int .i64 oa) := (blk_cell Vy.out 0).trans rfl
          have cy1 : w5.cell? ⟨sy, 1, none⟩ = some (.int .i64 ob) := (blk_cell Vy.out 1).trans rfl
          have cy2 : w5.cell? ⟨sy, 2, none⟩ = some (.int .i64 oc) := (blk_cell Vy.out 2).trans rfl
          go_wp2_with fail
          refine ((S1.out _ (FR.out.es RX.out) (FR.out.es RY.out) (FR.out.es RZ.out))).mono ?_
          rintro e w6 ⟨rfl, hb⟩
          clear c00 c01 c02 c03 c04 c05 cx0 cx1 cx2 cx3 cy0 cy1 cy2
          replace FR := Lib.hid (FR.out.step hb)
          replace Vx := Lib.hid (blk_below Vx.out hb (blk_lt Vx.out))
          replace Vy := Lib.hid (blk_below Vy.out hb (blk_lt Vy.out))
          clear hb
          have c00 : w6.cell? ⟨q, 0, none⟩ = some (.slice (some ⟨b, off, none⟩) n c) := FR.out.cell 0 0 rfl rfl rfl
          have c01 : w6.cell? ⟨q, 1, none⟩ = some (.slice B m d) := FR.out.cell 0 1 rfl rfl rfl
          have c02 : w6.cell? ⟨q, 2, none⟩ = some (.slice C k f) := FR.out.cell 0 2 rfl rfl rfl
          have c03 : w6.cell? ⟨q, 3, none⟩ = some (.int .i64 ce) := FR.out.cell 0 3 rfl rfl rfl
          have c04 : w6.cell? ⟨q, 4, none⟩ = some (.int .i64 re) := FR.out.cell 0 4 rfl rfl rfl
          have c05 : w6.cell? ⟨q, 5, none⟩ = some (.int .i64 pa) := FR.out.cell 0 5 rfl rfl rfl
          have cx0 : w6.cell? ⟨sx, 0, none⟩ = some (.int .i64 o) := (blk_cell Vx.out 0).trans rfl
          have cx1 : w6.cell? ⟨sx, 1, none⟩ = some (.int .i64 a) := (blk_cell Vx.out 1).trans rfl
          have cx2 : w6.cell? ⟨sx, 2, none⟩ = some (.int .i64 bb) := (blk_cell Vx.out 2).trans rfl
          have cx3 : w6.cell? ⟨sx, 3, none⟩ = some (.int .i64 x) := (blk_cell Vx.out 3).trans rfl
          have cy0 : w6.cell? ⟨sy, 0, none⟩ = some (.int .i64 oa) := (blk_cell Vy.out 0).trans rfl
          have cy1 : w6.cell? ⟨sy, 1, none⟩ = some (.int .i64 ob) := (blk_cell Vy.out 1).trans rfl
          have cy2 : w6.cell? ⟨sy, 2, none⟩ = some (.int .i64 oc) := (blk_cell Vy.out 2).trans rfl
          go_wp2_with fail
          refine ((S2.out _ (FR.out.es RX.out) (FR.out.es RY.out) (FR.out.es RZ.out))).mono ?_
          rintro e w7 ⟨rfl, hb⟩
          clear c00 c01 c02 c03 c04 c05 cx0 cx1 cx2 cx3 cy0 cy1 cy2
          replace FR := Lib.hid (FR.out.step hb)
          replace Vx := Lib.hid (blk_below Vx.out hb (blk_lt Vx.out))
          replace Vy := Lib.hid (blk_below Vy.out hb (blk_lt Vy.out))
          clear hb
          have c00 : w7.cell? ⟨q, 0, none⟩ = some (.slice (some ⟨b, off, none⟩) n c) := FR.out.cell 0 0 rfl rfl rfl
          have c01 : w7.cell? ⟨q, 1, none⟩ = some (.slice B m d) := FR.out.cell 0 1 rfl rfl rfl
          have c02 : w7.cell? ⟨q, 2, none⟩ = some (.slice C k f) := FR.out.cell 0 2 rfl rfl rfl
          have c03 : w7.cell? ⟨q, 3, none⟩ = some (.int .i64 ce) := FR.out.cell 0 3 rfl rfl rfl
          have c04 : w7.cell? ⟨q, 4, none⟩ = some (.int .i64 re) := FR.out.cell 0 4 rfl rfl rfl
          have c05 : w7.cell? ⟨q, 5, none⟩ = some (.int .i64 pa) := FR.out.cell 0 5 rfl rfl rfl
          have cx0 : w7.cell? ⟨sx, 0, none⟩ = some (.int .i64 o) := (blk_cell Vx.out 0).trans rfl
          have cx1 : w7.cell? ⟨sx, 1, none⟩ = some (.int .i64 a) := (blk_cell Vx.out 1).trans rfl
          have cx2 : w7.cell? ⟨sx, 2, none⟩ = some (.int .i64 bb) := (blk_cell Vx.out 2).trans rfl
          have cx3 : w7.cell? ⟨sx, 3, none⟩ = some (.int .i64 x) := (blk_cell Vx.out 3).trans rfl
          have cy0 : w7.cell? ⟨sy, 0, none⟩ = some (.int .i64 oa) := (blk_cell Vy.out 0).trans rfl
          have cy1 : w7.cell? ⟨sy, 1, none⟩ = some (.int .i64 ob) := (blk_cell Vy.out 1).trans rfl
          have cy2 : w7.cell? ⟨sy, 2, none⟩ = some (.int .i64 oc) := (blk_cell Vy.out 2).trans rfl
          go_wp2
          go_ret
          rw [HE.out]
          exact ⟨rfl, FR.out.out⟩
        · rw [hs2] at S2 HO
          replace S2 := Lib.hid S2
          have HE := Lib.hid (show insB ⟨co, ki, si, ce, re, pa⟩ (i : Int) = s3 from HO.trans (by simp only [Bool.false_and, Bool.true_and]))
          clear HO hs2
          go_enter Try.func11, Try.ntmps11
          have c00 : v1.cell? ⟨q, 0, none⟩ = some (.slice (some ⟨b, off, none⟩) n c) := FR.out.cell 0 0 rfl rfl rfl
          have c01 : v1.cell? ⟨q, 1, none⟩ = some (.slice B m d) := FR.out.cell 0 1 rfl rfl rfl
          have c02 : v1.cell? ⟨q, 2, none⟩ = some (.slice C k f) := FR.out.cell 0 2 rfl rfl rfl
          have c03 : v1.cell? ⟨q, 3, none⟩ = some (.int .i64 ce) := FR.out.cell 0 3 rfl rfl rfl
          have c04 : v1.cell? ⟨q, 4, none⟩ = some (.int .i64 re) := FR.out.cell 0 4 rfl rfl rfl
          have c05 : v1.cell? ⟨q, 5, none⟩ = some (.int .i64 pa) := FR.out.cell 0 5 rfl rfl rfl
          go_wp2_with fail
          refine ((IN.out _)).mono ?_
          rintro e w2 ⟨rfl, rfl⟩
          clear c00 c01 c02 c03 c04 c05
          clear hv1 z1
          have ac00 : w2.cell? ⟨q, 0, none⟩ = some (.slice (some ⟨b, off, none⟩) n c) := FR.out.cell 0 0 rfl rfl rfl
          have ac01 : w2.cell? ⟨q, 1, none⟩ = some (.slice B m d) := FR.out.cell 0 1 rfl rfl rfl
          have ac02 : w2.cell? ⟨q, 2, none⟩ = some (.slice C k f) := FR.out.cell 0 2 rfl rfl rfl
          have ac03 : w2.cell? ⟨q, 3, none⟩ = some (.int .i64 ce) := FR.out.cell 0 3 rfl rfl rfl
          have ac04 : w2.cell? ⟨q, 4, none⟩ = some (.int .i64 re) := FR.out.cell 0 4 rfl rfl rfl
          have ac05 : w2.cell? ⟨q, 5, none⟩ = some (.int .i64 pa) := FR.out.cell 0 5 rfl rfl rfl
          have gex := FR.out.sz
          simp only [List.length_cons, List.length_nil] at gex
          obtain ⟨w3, hw3⟩ : ∃ W, w2.alloc (.cells #[.int .i64 o, .int .i64 a, .int .i64 bb, .int .i64 x] 40) = W := ⟨_, rfl⟩
          have hb : Below w2.heap.size w2 w3 := hw3 ▸ (Below.refl _ _).alloc (Nat.le_refl _) _
          have hv : w3.heap[w2.heap.size]? = some (.cells #[.int .i64 o, .int .i64 a, .int .i64 bb, .int .i64 x] 40) := hw3 ▸ heap_alloc_new _ _
          replace FR := Lib.hid (FR.out.step hb)
          have Vx := Lib.hid hv
          generalize hsx : w2.heap.size = sx at *
          clear hb hv
          have c00 : w3.cell? ⟨q, 0, none⟩ = some (.slice (some ⟨b, off, none⟩) n c) := FR.out.cell 0 0 rfl rfl rfl
          have c01 : w3.cell? ⟨q, 1, none⟩ = some (.slice B m d) := FR.out.cell 0 1 rfl rfl rfl
          have c02 : w3.cell? ⟨q, 2, none⟩ = some (.slice C k f) := FR.out.cell 0 2 rfl rfl rfl
          have c03 : w3.cell? ⟨q, 3, none⟩ = some (.int .i64 ce) := FR.out.cell 0 3 rfl rfl rfl
          have c04 : w3.cell? ⟨q, 4, none⟩ = some (.int .i64 re) := FR.out.cell 0 4 rfl rfl rfl
          have c05 : w3.cell? ⟨q, 5, none⟩ = some (.int .i64 pa) := FR.out.cell 0 5 rfl rfl rfl
          have cx0 : w3.cell? ⟨sx, 0, none⟩ = some (.int .i64 o) := (blk_cell Vx.out 0).trans rfl
          have cx1 : w3.cell? ⟨sx, 1, none⟩ = some (.int .i64 a) := (blk_cell Vx.out 1).trans rfl
          have cx2 : w3.cell? ⟨sx, 2, none⟩ = some (.int .i64 bb) := (blk_cell Vx.out 2).trans rfl
          have cx3 : w3.cell? ⟨sx, 3, none⟩ = some (.int .i64 x) := (blk_cell Vx.out 3).trans rfl
          go_wp2_with fail
          refine ((OP.out _)).mono ?_
          rintro e w4 ⟨rfl, hb⟩
          clear c00 c01 c02 c03 c04 c05 cx0 cx1 cx2 cx3
          replace FR := Lib.hid (FR.out.step hb)
          replace Vx := Lib.hid (blk_below Vx.out hb (blk_lt Vx.out))
          clear hb
          clear ac00 ac01 ac02 ac03 ac04 ac05
          have ltxy := blk_lt Vx.out
          have gey := FR.out.sz
          simp only [List.length_cons, List.length_nil] at gey
          obtain ⟨w5, hw5⟩ : ∃ W, w4.alloc (.cells #[.int .i64 oa, .int .i64 ob, .int .i64 oc] 51) = W := ⟨_, rfl⟩
          have hb : Below w4.heap.size w4 w5 := hw5 ▸ (Below.refl _ _).alloc (Nat.le_refl _) _
          have hv : w5.heap[w4.heap.size]? = some (.cells #[.int .i64 oa, .int .i64 ob, .int .i64 oc] 51) := hw5 ▸ heap_alloc_new _ _
          replace FR := Lib.hid (FR.out.step hb)
          replace Vx := Lib.hid (blk_below Vx.out hb (blk_lt Vx.out))
          have Vy := Lib.hid hv
          have nexy := Nat.ne_of_lt ltxy
          generalize hsy : w4.heap.size = sy at *
          clear hb hv ltxy
          have c00 : w5.cell? ⟨q, 0, none⟩ = some (.slice (some ⟨b, off, none⟩) n c) := FR.out.cell 0 0 rfl rfl rfl
          have c01 : w5.cell? ⟨q, 1, none⟩ = some (.slice B m d) := FR.out.cell 0 1 rfl rfl rfl
          have c02 : w5.cell? ⟨q, 2, none⟩ = some (.slice C k f) := FR.out.cell 0 2 rfl rfl rfl
          have c03 : w5.cell? ⟨q, 3, none⟩ = some (.int .i64 ce) := FR.out.cell 0 3 rfl rfl rfl
          have c04 : w5.cell? ⟨q, 4, none⟩ = some (.int .i64 re) := FR.out.cell 0 4 rfl rfl rfl
          have c05 : w5.cell? ⟨q, 5, none⟩ = some (.int .i64 pa) := FR.out.cell 0 5 rfl rfl rfl
          have cx0 : w5.cell? ⟨sx, 0, none⟩ = some (.int .i64 o) := (blk_cell Vx.out 0).trans rfl
          have cx1 : w5.cell? ⟨sx, 1, none⟩ = some (.int .i64 a) := (blk_cell Vx.out 1).trans rfl
          have cx2 : w5.cell? ⟨sx, 2, none⟩ = some (.int .i64 bb) := (blk_cell Vx.out 2).trans rfl
          have cx3 : w5.cell? ⟨sx, 3, none⟩ = some (.int .i64 x) := (blk_cell Vx.out 3).trans rfl
          have cy0 : w5.cell? ⟨sy, 0, none⟩ = some (.int .i64 oa) := (blk_cell Vy.out 0).trans rfl
          have cy1 : w5.cell? ⟨sy, 1, none⟩ = some (.int .i64 ob) := (blk_cell Vy.out 1).trans rfl
          have cy2 : w5.cell? ⟨sy, 2, none⟩ = some (.int .i64 oc) := (blk_cell Vy.out 2).trans rfl
          go_wp2_with fail
          refine ((S1.out _ (FR.out.es RX.out) (FR.out.es RY.out) (FR.out.es RZ.out))).mono ?_
          rintro e w6 ⟨rfl, hb⟩
          clear c00 c01 c02 c03 c04 c05 cx0 cx1 cx2 cx3 cy0 cy1 cy2
          replace FR := Lib.hid (FR.out.step hb)
          replace Vx := Lib.hid (blk_below Vx.out hb (blk_lt Vx.out))
          replace Vy := Lib.hid (blk_below Vy.out hb (blk_lt Vy.out))
          clear hb
          have c00 : w6.cell? ⟨q, 0, none⟩ = some (.slice (some ⟨b, off, none⟩) n c) := FR.out.cell 0 0 rfl rfl rfl
          have c01 : w6.cell? ⟨q, 1, none⟩ = some (.slice B m d) := FR.out.cell 0 1 rfl rfl rfl
          have c02 : w6.cell? ⟨q, 2, none⟩ = some (.slice C k f) := FR.out.cell 0 2 rfl rfl rfl
          have c03 : w6.cell? ⟨q, 3, none⟩ = some (.int .i64 ce) := FR.out.cell 0 3 rfl rfl rfl
          have c04 : w6.cell? ⟨q, 4, none⟩ = some (.int .i64 re) := FR.out.cell 0 4 rfl rfl rfl
          have c05 : w6.cell? ⟨q, 5, none⟩ = some (.int .i64 pa) := FR.out.cell 0 5 rfl rfl rfl
          have cx0 : w6.cell? ⟨sx, 0, none⟩ = some (.int .i64 o) := (blk_cell Vx.out 0).trans rfl
          have cx1 : w6.cell? ⟨sx, 1, none⟩ = some (.int .i64 a) := (blk_cell Vx.out 1).trans rfl
          have cx2 : w6.cell? ⟨sx, 2, none⟩ = some (.int .i64 bb) := (blk_cell Vx.out 2).trans rfl
          have cx3 : w6.cell? ⟨sx, 3, none⟩ = some (.int .i64 x) := (blk_cell Vx.out 3).trans rfl
          have cy0 : w6.cell? ⟨sy, 0, none⟩ = some (.int .i64 oa) := (blk_cell Vy.out 0).trans rfl
          have cy1 : w6.cell? ⟨sy, 1, none⟩ = some (.int .i64 ob) := (blk_cell Vy.out 1).trans rfl
          have cy2 : w6.cell? ⟨sy, 2, none⟩ = some (.int .i64 oc) := (blk_cell Vy.out 2).trans rfl
          go_wp2_with fail
          refine ((S2.out _ (FR.out.es RX.out) (FR.out.es RY.out) (FR.out.es RZ.out))).mono ?_
          rintro e w7 ⟨rfl, hb⟩
          clear c00 c01 c02 c03 c04 c05 cx0 cx1 cx2 cx3 cy0 cy1 cy2
          replace FR := Lib.hid (FR.out.step hb)
          replace Vx := Lib.hid (blk_below Vx.out hb (blk_lt Vx.out))
          replace Vy := Lib.hid (blk_below Vy.out hb (blk_lt Vy.out))
          clear hb
          have c00 : w7.cell? ⟨q, 0, none⟩ = some (.slice (some ⟨b, off, none⟩) n c) := FR.out.cell 0 0 rfl rfl rfl
          have c01 : w7.cell? ⟨q, 1, none⟩ = some (.slice B m d) := FR.out.cell 0 1 rfl rfl rfl
          have c02 : w7.cell? ⟨q, 2, none⟩ = some (.slice C k f) := FR.out.cell 0 2 rfl rfl rfl
          have c03 : w7.cell? ⟨q, 3, none⟩ = some (.int .i64 ce) := FR.out.cell 0 3 rfl rfl rfl
          have c04 : w7.cell? ⟨q, 4, none⟩ = some (.int .i64 re) := FR.out.cell 0 4 rfl rfl rfl
          have c05 : w7.cell? ⟨q, 5, none⟩ = some (.int .i64 pa) := FR.out.cell 0 5 rfl rfl rfl
          have cx0 : w7.cell? ⟨sx, 0, none⟩ = some (.int .i64 o) := (blk_cell Vx.out 0).trans rfl
          have cx1 : w7.cell? ⟨sx, 1, none⟩ = some (.int .i64 a) := (blk_cell Vx.out 1).trans rfl
          have cx2 : w7.cell? ⟨sx, 2, none⟩ = some (.int .i64 bb) := (blk_cell Vx.out 2).trans rfl
          have cx3 : w7.cell? ⟨sx, 3, none⟩ = some (.int .i64 x) := (blk_cell Vx.out 3).trans rfl
          have cy0 : w7.cell? ⟨sy, 0, none⟩ = some (.int .i64 oa) := (blk_cell Vy.out 0).trans rfl
          have cy1 : w7.cell? ⟨sy, 1, none⟩ = some (.int .i64 ob) := (blk_cell Vy.out 1).trans rfl
          have cy2 : w7.cell? ⟨sy, 2, none⟩ = some (.int .i64 oc) := (blk_cell Vy.out 2).trans rfl
          go_wp2_with fail
          refine ((S3.out _ (FR.out.es RX.out) (FR.out.es RY.out) (FR.out.es RZ.out))).mono ?_
          rintro e w8 ⟨rfl, hb⟩
          clear c00 c01 c02 c03 c04 c05 cx0 cx1 cx2 cx3 cy0 cy1 cy2
          replace FR := Lib.hid (FR.out.step hb)
          replace Vx := Lib.hid (blk_below Vx.out hb (blk_lt Vx.out))
          replace Vy := Lib.hid (blk_below Vy.out hb (blk_lt Vy.out))
          clear hb
          have c00 : w8.cell? ⟨q, 0, none⟩ = some (.slice (some ⟨b, off, none⟩) n c) := FR.out.cell 0 0 rfl rfl rfl
          have c01 : w8.cell? ⟨q, 1, none⟩ = some (.slice B m d) := FR.out.cell 0 1 rfl rfl rfl
          have c02 : w8.cell? ⟨q, 2, none⟩ = some (.slice C k f) := FR.out.cell 0 2 rfl rfl rfl
          have c03 : w8.cell? ⟨q, 3, none⟩ = some (.int .i64 ce) := FR.out.cell 0 3 rfl rfl rfl
          have c04 : w8.cell? ⟨q, 4, none⟩ = some (.int .i64 re) := FR.out.cell 0 4 rfl rfl rfl
          have c05 : w8.cell? ⟨q, 5, none⟩ = some (.int .i64 pa) := FR.out.cell 0 5 rfl rfl rfl
          have cx0 : w8.cell? ⟨sx, 0, none⟩ = some (.int .i64 o) := (blk_cell Vx.out 0).trans rfl
          have cx1 : w8.cell? ⟨sx, 1, none⟩ = some (.int .i64 a) := (blk_cell Vx.out 1).trans rfl
          have cx2 : w8.cell? ⟨sx, 2, none⟩ = some (.int .i64 bb) := (blk_cell Vx.out 2).trans rfl
          have cx3 : w8.cell? ⟨sx, 3, none⟩ = some (.int .i64 x) := (blk_cell Vx.out 3).trans rfl
          have cy0 : w8.cell? ⟨sy, 0, none⟩ = some (.int .i64 oa) := (blk_cell Vy.out 0).trans rfl
          have cy1 : w8.cell? ⟨sy, 1, none⟩ = some (.int .i64 ob) := (blk_cell Vy.out 1).trans rfl
          have cy2 : w8.cell? ⟨sy, 2, none⟩ = some (.int .i64 oc) := (blk_cell Vy.out 2).trans rfl
          go_wp2
          go_ret
          rw [HE.out]
          exact ⟨rfl, FR.out.out⟩
end Go.Proofs.Ytkoodhnfphmbnaa
