/- A map from numbers to numbers that counts: what it holds behind each step; no condition but those in each theorem. -/
import Derived.Test.YtjpgmkbcjedhfaaE
import Derived.Maps.Own
import Derived.Maps.OwnSet
namespace Go.Proofs.Ytjpgmkbcjedhfaa
set_option linter.unusedVariables false
set_option linter.unusedSimpArgs false
open Go.RowKit Go.Maps

/-- block b of w is a map that counts how often each number stands in zs. -/
def Cm (k : TypeId) (q : IntKind) (w : World) (b : Nat) (zs : List Int) : Prop :=
  ∃ D : DataW Unit, w.ownsMap Try.prog k (plainElem Try.prog 3) b zs.length D ∧ ∀ y : Int, (Lit.int q y).wf = true → D.atKey (.int q y) (.lit (.int .i64 0)) = .lit (.int .i64 ((zs.count y : Nat) : Int))
section
variable {k : TypeId} {q : IntKind} {w w' : World} {b : Nat} {zs : List Int}
theorem zeroI (w : World) : (zeroValue 3).run Try.prog w = .ok (.int .i64 0) w := by kernel_rfl
theorem Cm.made (k : TypeId) (q : IntKind) (w : World) : Cm k q (w.alloc (.map #[] 0)) w.heap.size [] := ⟨.map [], World.ownsMap_made _ _ _ _, fun y _ => rfl⟩
theorem Cm.lt (h : Cm k q w b zs) : b < w.heap.size := by obtain ⟨D, h, _⟩ := h; exact h.lt
theorem Cm.kept {row : Option Nat} (h : Cm k q w b zs) (hg : w.grownBy w' row) (hne : some b ≠ row) : Cm k q w' b zs := by obtain ⟨D, h, h2⟩ := h; exact ⟨D, h.kept hg hne, h2⟩
theorem Cm.below (h : Cm k q w b zs) (hb : Below w.heap.size w w') : Cm k q w' b zs := h.kept (row := none) ⟨hb.os, hb.tape, hb.output, hb.size, fun k hk _ => hb.block k hk⟩ (by simp)
theorem Cm.alloc (h : Cm k q w b zs) (o : Obj) : Cm k q (w.alloc o) b zs := by obtain ⟨D, h, h2⟩ := h; exact ⟨D, h.alloc o, h2⟩
theorem Cm.drew (h : Cm k q w b zs) : Cm k q w.drew b zs := h
theorem Cm.drewN (h : Cm k q w b zs) (n : Nat) : Cm k q (w.drewN n) b zs := h
theorem Cm.look (h : Cm k q w b zs) {t : TypeId} (ht : Try.prog.underlying t = some (.map k 3)) (hk : Try.prog.underlying k = some (.int q)) {y : Int} (hy : (Lit.int q y).wf = true) :
    (Instr.lookup t (.map (some b)) (.int q y) false).run Try.prog w = .ok (.int .i64 ((zs.count y : Nat) : Int)) w := by
  obtain ⟨D, h, h2⟩ := h
  obtain ⟨c, hrun, hat, _⟩ := h.lookup_int (int_keyed hk) ht Try.underlying3 (zeroI w) (keyOf_int_mk hk hy)
  rw [h2 y hy] at hat
  injection hat with hat
  injection hat with _ hat
  rw [hrun, hat]
theorem Cm.put (h : Cm k q w b zs) {t : TypeId} (ht : Try.prog.underlying t = some (.map k 3)) (hk : Try.prog.underlying k = some (.int q)) {y : Int} (hy : (Lit.int q y).wf = true) (hz : zs.length ≤ 16384) {c : Int} (hc : c = ((zs.count y : Nat) : Int) + 1) :
    ∃ w', (Instr.mapUpdate t (.map (some b)) (.int q y) (.int .i64 c)).run Try.prog w = .ok () w' ∧ Cm k q w' b (zs ++ [y]) ∧ w.grownBy w' (some b) := by
  obtain ⟨D, h, h2⟩ := h
  have hcl : zs.count y ≤ zs.length := List.count_le_length
  obtain ⟨w', hrun, hown, hg⟩ := h.update (int_keyed hk) ht (by unfold maxLen; omega) (keyOf_int_mk hk hy) (plainElem_int (H := Unit) Try.underlying3 (q := .i64) (a := c) (by have h1 : IntKind.i64.min = -9223372036854775808 := rfl; have h2 : IntKind.i64.max = 9223372036854775807 := rfl; simp only [Lit.wf, h1, h2, Bool.and_eq_true, decide_eq_true_eq]; omega))
  refine ⟨w', hrun, ⟨_, by rw [List.length_append]; exact hown, fun z hzw => ?_⟩, hg⟩
  by_cases e : z = y
  · subst e
    rw [atKey_put_same (k := .int q z) h.isMap (show WideAt.IsKeyLit (.int q z) from trivial), hc, List.count_append]
    simp
  · rw [atKey_put_other (by intro h3; injection h3 with _ h3; exact e h3), h2 z hzw, List.count_append]
    simp [List.count_cons, Ne.symm e, show ¬ y = z from fun h => e h.symm]
theorem Cm.setCell (h : Cm k q w b zs) {a : Addr} (ha : b ≠ a.block) (u : Value) : Cm k q (w.setCell a u) b zs := by obtain ⟨D, h, h2⟩ := h; exact ⟨D, h.setCell ha u, h2⟩
end
end Go.Proofs.Ytjpgmkbcjedhfaa
