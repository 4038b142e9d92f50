/- Words on memory for sections: the reader's block, a world in which one old block may have turned; over any world. -/
import Derived.Test.YtjcgkpapmcmccaaSecA
import Derived.Defers
import Derived.Recover
namespace Go.Proofs.Ytjcgkpapmcmccaa
set_option linter.unusedVariables false
set_option linter.unusedSimpArgs false
open Go.RowKit

/-- block r holds a reader: its bytes, and how far they are read. -/
def Rd (w : World) (r : Nat) (A : Option Addr) (n c : Nat) (k : Int) : Prop := w.heap[r]? = some (.cells #[.slice A n c, .int .i64 k] 54)
/-- what a reading panics with. -/
def PE (e : Int) : PanicEntry := { v := .iface 68 (.int .i64 e), recovered := false }

section
variable {w w' w2 : World} {A : Option Addr} {n c : Nat} {bs : List Int} {r : Nat} {k : Int}
theorem Rd.lt (h : Rd w r A n c k) : r < w.heap.size := by
  rcases Nat.lt_or_ge r w.heap.size with h2 | h2
  · exact h2
  · unfold Rd at h; rw [Array.getElem?_eq_none h2] at h; cases h
theorem Rd.cell0 (h : Rd w r A n c k) : w.cell? ⟨r, 0, none⟩ = some (.slice A n c) := by rw [cell_of_row w r 0 _ _ (0, 0) h]; rfl
theorem Rd.cell1 (h : Rd w r A n c k) : w.cell? ⟨r, 1, none⟩ = some (.int .i64 k) := by rw [cell_of_row w r 1 _ _ (0, 0) h]; rfl
theorem Rd.below {w' : World} (h : Rd w r A n c k) (hb : Below w.heap.size w w') : Rd w' r A n c k := (hb.block r h.lt).trans h
theorem Rd.drew (h : Rd w r A n c k) : Rd w.drew r A n c k := h
theorem Rd.drewN (h : Rd w r A n c k) (m : Nat) : Rd (w.drewN m) r A n c k := h
theorem Rd.frozen (h : Rd w r A n c k) (o : Nat) : w.frozen? ⟨r, o, none⟩ = false := by
  unfold World.frozen?; rw [show w.heap[r]? = _ from h]; simp
theorem Rd.setCell (h : Rd w r A n c k) (k' : Int) : Rd (w.setCell ⟨r, 1, none⟩ (.int .i64 k')) r A n c k' := by
  unfold Rd
  simp only [World.setCell, Array.getElem?_modify]
  rw [if_pos trivial, show w.heap[r]? = _ from h]
  rfl
theorem grown_setCell (w : World) (r o : Nat) (v : Value) : w.grownBy (w.setCell ⟨r, o, none⟩ v) (some r) :=
  ⟨rfl, rfl, rfl, by simp [World.setCell], fun k hk hne => Below.heap_setCell _ _ _ _ (fun e => hne (by rw [e]))⟩
theorem grown_new {w w2 : World} {row : Option Nat} (h : w.grownBy w2 row) {b : Nat} (hb : w.heap.size ≤ b) (o : Nat) (v : Value) : w.grownBy (w2.setCell ⟨b, o, none⟩ v) row :=
  ⟨h.os, h.tape, h.output, by simpa [World.setCell] using h.size, fun k hk hne => (Below.heap_setCell _ _ _ _ (by simp only; omega)).trans (h.block k hk hne)⟩
theorem grown_alloc {w w2 : World} {row : Option Nat} (h : w.grownBy w2 row) (o : Obj) : w.grownBy (w2.alloc o) row :=
  ⟨h.os, h.tape, h.output, by have := h.size; simp; omega, fun k hk hne => (Below.heap_alloc _ _ _ (by have := h.size; omega)).trans (h.block k hk hne)⟩
theorem grown_drew {w w2 : World} {row : Option Nat} (h : w.grownBy w2 row) : w.grownBy w2.drew row := ⟨h.os, h.tape, h.output, h.size, h.block⟩
theorem grown_below {row : Option Nat} (h : Below w.heap.size w w') : w.grownBy w' row := ⟨h.os, h.tape, h.output, h.size, fun k hk _ => h.block k hk⟩
theorem grown_trans {row : Option Nat} (h : w.grownBy w' row) (g : w'.grownBy w2 row) : w.grownBy w2 row :=
  ⟨g.os.trans h.os, g.tape.trans h.tape, g.output.trans h.output, Nat.le_trans h.size g.size, fun k hk hne => (g.block k (by have := h.size; omega) hne).trans (h.block k hk hne)⟩
theorem below_grown {base : Nat} {w0 : World} (h : Below base w0 w) (g : w.grownBy w' (some r)) (hr : base ≤ r) (hb : base ≤ w.heap.size) : Below base w0 w' := h.grown g hb fun k hk => by injection hk; omega
/-- bytes and a reader do not lie in one block. -/
theorem Rd.apart (h : Rd w r A n c k) {A2 : Option Addr} {n2 c2 : Nat} {xs : List Int} (hb : Bs w A2 n2 c2 xs) (hn : 0 < n2) : ∃ b off, A2 = some ⟨b, off, none⟩ ∧ b < w.heap.size ∧ b ≠ r ∧ ∀ i, i < n2 → w.cell? ⟨b, off + i, none⟩ = some (.int .u8 (xs.getD i 0)) := by
  obtain ⟨b, off, e, hl, hc⟩ := hb.mem hn
  refine ⟨b, off, e, hl, ?_, hc⟩
  intro he
  subst he
  have h1 := hc 0 hn
  rw [cell_of_row w b (off + 0) _ _ (0, 0) h] at h1
  rcases off with _ | _ | off <;> simp at h1
theorem Bs.grownR (hb : Bs w A n c bs) {A2 : Option Addr} {n2 c2 : Nat} (h : Rd w r A2 n2 c2 k) (g : w.grownBy w' (some r)) : Bs w' A n c bs :=
  ⟨hb.len, hb.cap, hb.byte, fun hn => by
    obtain ⟨b, off, e, hl, hne, hc⟩ := h.apart hb hn
    exact ⟨b, off, e, by have := g.size; omega, fun i hi => g.cell (hc i hi) (by simpa using hne)⟩⟩
/-- .. in any block but the one that was written. -/
theorem Bs.grownF {row : Option Nat} (hb : Bs w A n c bs) (g : w.grownBy w' row) (hne : 0 < n → ∀ a, A = some a → some a.block ≠ row) : Bs w' A n c bs :=
  ⟨hb.len, hb.cap, hb.byte, fun hn => by
    obtain ⟨b, off, e, hl, hc⟩ := hb.mem hn
    exact ⟨b, off, e, by have := g.size; omega, fun i hi => g.cell (hc i hi) (by have := hne hn _ e; exact this)⟩⟩
theorem Fresh.mono {m m' : Nat} (h : Fresh m A n) (hm : m' ≤ m) : Fresh m' A n := fun hn => by
  obtain ⟨b, off, e, hb⟩ := h hn; exact ⟨b, off, e, by omega⟩
end

theorem heap_pair {w : World} {b : Nat} {x y : Value} {T : TypeId} (h : w.heap[b]? = some (.cells #[x, y] T)) (u v : Value) : ((w.setCell ⟨b, 0, none⟩ u).setCell ⟨b, 1, none⟩ v).heap[b]? = some (.cells #[u, v] T) := by
  simp only [World.setCell, Array.getElem?_modify]
  rw [if_pos trivial, if_pos trivial, h]
  rfl
theorem heap_snd {w : World} {b : Nat} {x y : Value} {T : TypeId} (h : w.heap[b]? = some (.cells #[x, y] T)) (v : Value) : (w.setCell ⟨b, 1, none⟩ v).heap[b]? = some (.cells #[x, v] T) := by
  simp only [World.setCell, Array.getElem?_modify]
  rw [if_pos trivial, h]
  rfl
theorem heap_lt {w : World} {b : Nat} {o : Obj} (h : w.heap[b]? = some o) : b < w.heap.size := by
  obtain ⟨h1, _⟩ := Array.getElem?_eq_some_iff.1 h; exact h1
theorem pair0 {w : World} {b : Nat} {x y : Value} {T : TypeId} (h : w.heap[b]? = some (.cells #[x, y] T)) : w.cell? ⟨b, 0, none⟩ = some x := by rw [cell_of_row w _ 0 _ _ (0, 0) h]; rfl
theorem pair1 {w : World} {b : Nat} {x y : Value} {T : TypeId} (h : w.heap[b]? = some (.cells #[x, y] T)) : w.cell? ⟨b, 1, none⟩ = some y := by rw [cell_of_row w _ 1 _ _ (0, 0) h]; rfl
theorem row_z {w : World} {b : Nat} {cs : Array Value} {T : TypeId} (h : w.heap[b]? = some (.cells cs T)) (o : Nat) : w.frozen? ⟨b, o, none⟩ = false := by unfold World.frozen?; rw [h]; simp
/-- a section in its variable. -/
theorem load_sec {w : World} {b : Nat} {x y : Value} (h : w.heap[b]? = some (.cells #[x, y] 24)) : (loadVar 24 ⟨b, 0, none⟩).run Try.prog w = .ok (.agg #[x, y]) w :=
  run_loadVar_row (P := Try.prog) w b 24 24 #[x, y] (0, 0) _ h Try.underlying24 (by rfl) (by kernel_rfl)
/-- a reading ends: by the error's panic. -/
theorem end_any (e : Int) (w : World) : Calls Try.prog 45 #[.int .i64 e] w fun x w' => x = .panicked [PE e] ∧ w' = w := by
  go_enter Try.func45, Try.ntmps45
  go_wp2
  exact ⟨rfl, rfl, rfl⟩
theorem must_ok (w : World) : Calls Try.prog 55 #[.int .i64 0] w fun x w' => x = .returned (.tuple #[]) ∧ w' = w := by
  go_enter Try.func55, Try.ntmps55
  go_wp2
  go_end0
  exact ⟨rfl, rfl⟩
theorem must_err (e : Int) (h : e ≠ 0) (w : World) : Calls Try.prog 55 #[.int .i64 e] w fun x w' => x = .panicked [PE e] ∧ w' = w := by
  have hd : (e != 0) = true := by simpa using h
  go_enter Try.func55, Try.ntmps55
  go_wp2_with (go_at_call 45; refine (end_any _ _).mono ?_; rintro x w' ⟨rfl, rfl⟩)
  exact ⟨rfl, rfl, rfl⟩
end Go.Proofs.Ytjcgkpapmcmccaa
