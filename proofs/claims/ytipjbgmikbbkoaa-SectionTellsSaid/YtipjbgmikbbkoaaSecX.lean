/- How a section, and a slice of sections, that came in are opened; no condition. -/
import Derived.Test.YtipjbgmikbbkoaaSecW
namespace Go.Proofs.Ytipjbgmikbbkoaa
set_option linter.unusedVariables false
set_option linter.unusedSimpArgs false
open Go.ChangeShapes Go.WideShapes Go.ChangeAt Go.RowKit

section
variable {H : Type} {enc : TypeId × Value → H} {w : World} {base : Nat} {sp : Nat → Bool} {held : Bool}
theorem sec_cells {fuel : Nat} {cs : List Value} {x : DataW H × List MemPlace} (h : DataW.trod enc Try.prog w base sp held fuel 24 cs = some x) :
    ∃ t A n c bs, cs = [.int .u8 t, .slice A n c] ∧ (0 ≤ t ∧ t ≤ 255) ∧ Bs w A n c bs := by
  obtain ⟨xs, m, _, _, hl, hxl, hf⟩ := DataW.trod_struct Try.underlying24 h
  have hl2 : cs.length = 2 := hl.trans (by kernel_rfl)
  have hxl2 : xs.length = 2 := hxl
  obtain ⟨a, b, rfl⟩ := list2 hl2
  have h0 : DataW.trod enc Try.prog w base sp held m 5 (([a, b].drop 0).take (Try.prog.cellsOf 5)) = xs[0]? := hf 0 _ rfl
  have h1 : DataW.trod enc Try.prog w base sp held m 22 (([a, b].drop 1).take (Try.prog.cellsOf 22)) = xs[1]? := hf 1 _ rfl
  have e5 : Try.prog.cellsOf 5 = 1 := by kernel_rfl
  have e22 : Try.prog.cellsOf 22 = 1 := by kernel_rfl
  rw [List.getElem?_eq_getElem (by omega), e5] at h0
  rw [List.getElem?_eq_getElem (by omega), e22] at h1
  simp only [List.drop_zero, List.drop_succ_cons, List.take_succ_cons, List.take_zero] at h0 h1
  obtain ⟨t, ht, _, wt⟩ := DataW.trod_int Try.underlying5 h0
  injection ht with ht _
  subst ht
  rcases open_ints Try.underlying22 Try.underlying5 e5 h1 with ⟨hcs, _⟩ | ⟨ad, l, c, zs, hcs, _, hle, hm, hz, _, hcell, hwz⟩
  · injection hcs with hcs _
    subst hcs
    exact ⟨t, none, 0, 0, [], rfl, bounds_u8 wt, Bs.nil _ _ _⟩
  · injection hcs with hcs _
    subst hcs
    by_cases hs : sp ad.block = true
    · rw [if_pos hs] at hz
      exact ⟨t, some ad, l, c, _, rfl, bounds_u8 wt, Bs.of_row (.inr ⟨_, rfl, hle, hm, hz, hcell, hwz⟩)⟩
    · rw [if_neg hs] at hz
      have hb := Bs.of_row (w := w) (a := some ad) (len := l) (cap := l) (zs := zs) (.inr ⟨_, rfl, Nat.le_refl _, by omega, hz, hcell, hwz⟩)
      exact ⟨t, some ad, l, c, _, rfl, bounds_u8 wt, ⟨hb.len, hle, hb.byte, hb.mem⟩⟩
theorem open_sec {r : Reach} {b0 : Nat} {v : Value} {d : DataW H} {p : List MemPlace} (hv : Value.okWide Try.prog w r b0 24 v) (h : DataW.Trod enc Try.prog w base sp held 24 v d p) :
    ∃ t A n c bs, v = .agg #[.int .u8 t, .slice A n c] ∧ (0 ≤ t ∧ t ≤ 255) ∧ Bs w A n c bs := by
  simp only [Value.okWide, Try.underlying24] at hv
  obtain ⟨cs, rfl, _, _⟩ := hv
  obtain ⟨fuel, hf⟩ := h
  obtain ⟨t, A, n, c, bs, h1, h2, h3⟩ := sec_cells hf
  refine ⟨t, A, n, c, bs, ?_, h2, h3⟩
  have h4 : cs.toList = [.int .u8 t, .slice A n c] := h1
  congr 1
  apply Array.ext'
  exact h4
theorem open_secs {r : Reach} {b0 : Nat} {v : Value} {d : DataW H} {p : List MemPlace} (hv : Value.okWide Try.prog w r b0 32 v) (h : DataW.Trod enc Try.prog w base sp held 32 v d p) :
    ∃ A n c ss, v = .slice A n c ∧ Ss w A n c ss := by
  obtain ⟨a, len, cap, rfl⟩ := okWide_slice Try.underlying32 hv
  obtain ⟨fuel, hf⟩ := h
  rcases DataW.trod_slice Try.underlying32 hf with ⟨hcs, _⟩ | ⟨ad, l, c, elems, rest, m, _, hcs, _, _, hle, _, hel, hall, _, _⟩
  · simp [Value.cells] at hcs
    obtain ⟨rfl, rfl, rfl⟩ := hcs
    exact ⟨_, _, _, [], rfl, Ss.nil _ _ _⟩
  · simp [Value.cells] at hcs
    obtain ⟨rfl, rfl, rfl⟩ := hcs
    have e24 : Try.prog.cellsOf 24 = 2 := by kernel_rfl
    have hone : ∀ i, ∃ s : Int × List Int, i < len → ∃ B m d, w.cell? ((ad.add (i * 2)).add 0) = some (.int .u8 s.1) ∧ w.cell? ((ad.add (i * 2)).add 1) = some (.slice B m d) ∧ Bs w B m d s.2 ∧ 0 ≤ s.1 ∧ s.1 ≤ 255 := by
      intro i
      by_cases hi : i < len
      · have h1 := hall i hi
        rw [e24, List.getElem?_eq_getElem (by omega), Option.bind_eq_some_iff] at h1
        obtain ⟨cs, h2, h3⟩ := h1
        obtain ⟨t, A, n, c, bs, h4, h5, h6⟩ := sec_cells h3
        subst h4
        obtain ⟨_, _, h7⟩ := World.cells?_some h2
        exact ⟨(t, bs), fun _ => ⟨A, n, c, h7 0 (by omega), h7 1 (by omega), h6, h5⟩⟩
      · exact ⟨(0, []), fun h => absurd h hi⟩
    obtain ⟨f, hfn⟩ := Classical.axiomOfChoice hone
    have hget : ∀ i, i < len → ((List.range len).map f).getD i (0, []) = f i := fun i hi => by simp [List.getD, List.getElem?_map, hi]
    refine ⟨_, _, _, (List.range len).map f, rfl, by simp, hle, ?_, fun hn => ?_⟩
    · intro s hs
      obtain ⟨i, hi, rfl⟩ := List.mem_map.1 hs
      obtain ⟨_, _, _, _, _, _, h8⟩ := hfn i (by simpa using hi)
      exact h8
    · obtain ⟨b, off, spot⟩ := ad
      obtain ⟨_, _, _, h0, _, _, _⟩ := hfn 0 hn
      have hspot : spot = none := by
        have := World.cell?_spot h0
        simpa [Addr.add] using this
      subst hspot
      refine ⟨b, off, rfl, ?_, fun i hi => ?_⟩
      · have := lt_of_cell h0
        rwa [add_plain, add_plain] at this
      · obtain ⟨B, m, d, c0, c1, hb, _⟩ := hfn i hi
        rw [add_plain, add_plain] at c0 c1
        rw [hget i hi]
        exact ⟨B, m, d, c0, c1, hb⟩
end
/- the walks, with a premise a parameter. -/
theorem answers_frame (A : Option Addr) (n c : Nat) (xs : List Int) (t : Int) (B : Option Addr) (m d : Nat) (bs : List Int) (w : World) (ha : Bs w A n c xs) (hb : (0 ≤ t ∧ t ≤ 255) ∧ Bs w B m d bs) :
    Calls Try.prog 3 #[.slice A n c, .agg #[.int .u8 t, .slice B m d]] w fun e w' => e = .returned (.bool true) ∧ Below w.heap.size w w' := answers_walk A n c xs t B m d bs w ha hb.2 hb.1.1 hb.1.2
theorem reads_frame (A : Option Addr) (n c : Nat) (xs : List Int) (at_ : Int) (w : World) (ha : Bs w A n c xs) (_ : (Lit.int .i64 at_).wf = true) :
    Calls Try.prog 4 #[.slice A n c, .int .i64 at_] w fun e w' => e = .returned (.bool true) ∧ Below w.heap.size w w' := reads_walk A n c xs at_ w ha
theorem lists_frame (A : Option Addr) (n c : Nat) (ss : List (Int × List Int)) (t : Int) (w : World) (hs : Ss w A n c ss) (ht : (Lit.int .u8 t).wf = true) :
    Calls Try.prog 5 #[.slice A n c, .int .u8 t] w fun e w' => e = .returned (.bool true) ∧ Below w.heap.size w w' := lists_walk A n c ss t w hs (bounds_u8 ht).1 (bounds_u8 ht).2
theorem tells_frame (t : Int) (B : Option Addr) (m d : Nat) (bs : List Int) (at_ x : Int) (w : World) (hb : (0 ≤ t ∧ t ≤ 255) ∧ Bs w B m d bs) (ha : (Lit.int .u16 at_).wf = true) (hx : (Lit.int .u8 x).wf = true) :
    Calls Try.prog 7 #[.agg #[.int .u8 t, .slice B m d], .int .u16 at_, .int .u8 x] w fun e w' => e = .returned (.bool true) ∧ Below w.heap.size w w' :=
  tells_walk t B m d bs at_ x w hb.2 hb.1.1 hb.1.2 (by have := bounds_u16 ha; omega) (by have := bounds_u16 ha; omega) (bounds_u8 hx).1 (bounds_u8 hx).2
end Go.Proofs.Ytipjbgmikbbkoaa
