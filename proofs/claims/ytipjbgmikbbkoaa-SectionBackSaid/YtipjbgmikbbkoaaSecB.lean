/- Words on memory for sections: the reader's block, a world in which one old block may have turned; over any world. -/
import Derived.Test.YtipjbgmikbbkoaaSecA
import Derived.Test.YtipjbgmikbbkoaaFail
namespace Go.Proofs.Ytipjbgmikbbkoaa
set_option linter.unusedVariables false
set_option linter.unusedSimpArgs false
open Go.RowKit

/-- block r holds a reader: its bytes, and how far they are read. -/
def Rd (w : World) (r : Nat) (A : Option Addr) (n c : Nat) (k : Int) : Prop := w.heap[r]? = some (.cells #[.slice A n c, .int .i64 k] 54)
section
variable {w w' w2 : World} {A : Option Addr} {n c : Nat} {bs : List Int} {r : Nat} {k : Int}
theorem Rd.lt (h : Rd w r A n c k) : r < w.heap.size := by
  rcases Nat.lt_or_ge r w.heap.size with h2 | h2
  · exact h2
  · unfold Rd at h; rw [Array.getElem?_eq_none h2] at h; cases h
theorem Rd.cell0 (h : Rd w r A n c k) : w.cell? ⟨r, 0, none⟩ = some (.slice A n c) := by rw [cell_of_row w r 0 _ _ (0, 0) h]; rfl
theorem Rd.cell1 (h : Rd w r A n c k) : w.cell? ⟨r, 1, none⟩ = some (.int .i64 k) := by rw [cell_of_row w r 1 _ _ (0, 0) h]; rfl
theorem Rd.below {w' : World} (h : Rd w r A n c k) (hb : Below w.heap.size w w') : Rd w' r A n c k := (hb.block r h.lt).trans h
theorem Rd.drew (h : Rd w r A n c k) : Rd w.drew r A n c k := h
theorem Rd.drewN (h : Rd w r A n c k) (m : Nat) : Rd (w.drewN m) r A n c k := h
theorem Rd.frozen (h : Rd w r A n c k) (o : Nat) : w.frozen? ⟨r, o, none⟩ = false := by
  unfold World.frozen?; rw [show w.heap[r]? = _ from h]; simp
theorem Rd.setCell (h : Rd w r A n c k) (k' : Int) : Rd (w.setCell ⟨r, 1, none⟩ (.int .i64 k')) r A n c k' := by
  unfold Rd
  simp only [World.setCell, Array.getElem?_modify]
  rw [if_pos trivial, show w.heap[r]? = _ from h]
  rfl
/-- bytes and a reader do not lie in one block. -/
theorem Rd.apart (h : Rd w r A n c k) {A2 : Option Addr} {n2 c2 : Nat} {xs : List Int} (hb : Bs w A2 n2 c2 xs) (hn : 0 < n2) : ∃ b off, A2 = some ⟨b, off, none⟩ ∧ b < w.heap.size ∧ b ≠ r ∧ ∀ i, i < n2 → w.cell? ⟨b, off + i, none⟩ = some (.int .u8 (xs.getD i 0)) := by
  obtain ⟨b, off, e, hl, hc⟩ := hb.mem hn
  refine ⟨b, off, e, hl, ?_, hc⟩
  intro he
  subst he
  have h1 := hc 0 hn
  rw [cell_of_row w b (off + 0) _ _ (0, 0) h] at h1
  rcases off with _ | _ | off <;> simp at h1
theorem Bs.grownR (hb : Bs w A n c bs) {A2 : Option Addr} {n2 c2 : Nat} (h : Rd w r A2 n2 c2 k) (g : w.grownBy w' (some r)) : Bs w' A n c bs :=
  ⟨hb.len, hb.cap, hb.byte, fun hn => by
    obtain ⟨b, off, e, hl, hne, hc⟩ := h.apart hb hn
    exact ⟨b, off, e, by have := g.size; omega, fun i hi => g.cell (hc i hi) (by simpa using hne)⟩⟩
theorem Fresh.mono {m m' : Nat} (h : Fresh m A n) (hm : m' ≤ m) : Fresh m' A n := fun hn => by
  obtain ⟨b, off, e, hb⟩ := h hn; exact ⟨b, off, e, by omega⟩
end

/-- a section in its variable. -/
theorem load_sec {w : World} {b : Nat} {x y : Value} (h : w.heap[b]? = some (.cells #[x, y] 24)) : (loadVar 24 ⟨b, 0, none⟩).run Try.prog w = .ok (.agg #[x, y]) w :=
  run_loadVar_row (P := Try.prog) w b 24 24 #[x, y] (0, 0) _ h Try.underlying24 (by rfl) (by kernel_rfl)
end Go.Proofs.Ytipjbgmikbbkoaa
