/- What the document's own Has, walk, Right, Live, Free of layer 7 answer; for slices of up to 16384 records. -/
import Derived.Test.YtpkegfochfkkcaaAreA
import Derived.LoopTactic
import Derived.BigQuiet
import Derived.Deep.QuietTactic
import Derived.Deep.MidRow
namespace Go.Proofs.Ytpkegfochfkkcaa
set_option linter.unusedVariables false
set_option linter.unusedSimpArgs false
open Go.RowKit

theorem blk_lt {w : World} {b : Nat} {o : Obj} (h : w.heap[b]? = some o) : b < w.heap.size := by
  obtain ⟨h1, _⟩ := Array.getElem?_eq_some_iff.1 h; exact h1
theorem blk_cell {w : World} {b : Nat} {cs : Array Value} {T : TypeId} (h : w.heap[b]? = some (.cells cs T)) (i : Nat) : w.cell? ⟨b, i, none⟩ = cs[i]? := cell_of_row w b i cs T (0, 0) h
theorem blk_frozen {w : World} {b : Nat} {cs : Array Value} {T : TypeId} (h : w.heap[b]? = some (.cells cs T)) (o : Nat) : w.frozen? ⟨b, o, none⟩ = false := by unfold World.frozen?; rw [h]; simp
theorem blk_below {w w' : World} {m b : Nat} {o : Obj} (h : w.heap[b]? = some o) (hb : Below m w w') (hm : b < m) : w'.heap[b]? = some o := (hb.block b hm).trans h
theorem infoInt : (Try.prog.info? 3).map (fun i => (i.zero, i.size, i.bytes)) = some (some (.int .i64 0), 1, 8) := by kernel_rfl
theorem info_of {P : Program} {t : TypeId} {z : Option Value} {k b : Nat} (h : (P.info? t).map (fun i => (i.zero, i.size, i.bytes)) = some (z, k, b)) : ∃ i, P.info? t = some i ∧ i.zero = z ∧ i.size = k ∧ i.bytes = b := by
  cases hi : P.info? t with
  | none => rw [hi] at h; cases h
  | some i =>
    rw [hi] at h
    simp only [Option.map_some, Option.some.injEq, Prod.mk.injEq] at h
    exact ⟨i, rfl, h.1, h.2.1, h.2.2⟩
theorem not_mem_take {xs : List Int} {i : Nat} {x y : Int} (hd : xs.drop i = y :: xs.drop (i + 1)) (h : x ∉ xs.take i) (hy : y ≠ x) : x ∉ xs.take (i + 1) := by
  rw [take_step hd]
  intro hm
  rcases List.mem_append.1 hm with hm | hm
  · exact h hm
  · simp at hm; exact hy hm.symm
theorem mem_at {xs : List Int} {i : Nat} {y : Int} (hd : xs.drop i = y :: xs.drop (i + 1)) : y ∈ xs := List.mem_of_mem_drop (i := i) (by rw [hd]; simp)
/-- the free list, or that it does not end. -/
def WalkPost (w : World) (p : Aren) (e : Ending) (w' : World) : Prop :=
  ∃ A n c b l, e = .returned (.tuple #[.slice A n c, .bool b]) ∧ Is w' A n c l ∧ (walkL p = some l ∧ Places p.1.length l ∧ b = true ∨ walkL p = none ∧ l = [] ∧ b = false) ∧ Below w.heap.size w w'
def lenV : Value → Nat
  | .slice _ n _ => n
  | _ => 0
theorem walkF_end {rs : List Rec3} {f : Nat} {at_ : Int} {out : List Int} (hf : 0 < f) (h : at_ = -1) : walkF rs f at_ out = some out := by
  obtain ⟨g, rfl⟩ : ∃ g, f = g + 1 := ⟨f - 1, by omega⟩
  unfold walkF; rw [if_pos h]
theorem walkF_bad {rs : List Rec3} {f : Nat} {at_ : Int} {out : List Int} (h0 : at_ ≠ -1) (h : badAt rs out at_) : walkF rs f at_ out = none := by
  cases f with
  | zero => rfl
  | succ f => unfold walkF; rw [if_neg h0, if_pos h]
theorem walkF_step {rs : List Rec3} {f : Nat} {at_ : Int} {out : List Int} (hf : 0 < f) (h0 : at_ ≠ -1) (h : ¬ badAt rs out at_) : walkF rs f at_ out = walkF rs (f - 1) (recAt rs at_).2.2 (out ++ [at_]) := by
  obtain ⟨g, rfl⟩ : ∃ g, f = g + 1 := ⟨f - 1, by omega⟩
  conv => lhs; unfold walkF
  rw [if_neg h0, if_neg h]; rfl
end Go.Proofs.Ytpkegfochfkkcaa
