/- Layer 15: a mutex, step by step: what the document's words come to; no condition but those in each theorem. -/
import Derived.Test.YtpkegfochfkkcaaK
namespace Go.Proofs.Ytpkegfochfkkcaa
set_option linter.unusedVariables false
set_option linter.unusedSimpArgs false
open Go.RowKit

/-- a frame. -/
structure MFr where
  op : Int
  stage : Int
  phase : Int
  old : Int
  since : Int
  left : Int
  awoke : Bool
  starve : Bool
  need : Int
  front : Bool
def noF : MFr := ⟨0, 0, 0, 0, 0, 0, false, false, 0, false⟩
def beginF (op : Int) : MFr := ⟨op, 0, 0, 0, -1, 0, false, false, 0, false⟩
/-- an act: done, given, hand to hand, fault. -/
structure MAct where
  done : Bool
  give : Int
  hand : Bool
  fault : Int
def noA : MAct := ⟨false, 0, false, 0⟩
def doneA : MAct := ⟨true, 0, false, 0⟩
/-- has a word a bit? -/
def hasBit (w : Int) (k : Nat) : Prop := w / 2 ^ k % 2 = 1
instance (w : Int) (k : Nat) : Decidable (hasBit w k) := by unfold hasBit; infer_instance
/-- what one makes of the state that it saw. -/
def stateM (f : MFr) : Int := IntKind.i64.wrap (f.old + (if ¬ hasBit f.old 2 ∧ ¬ hasBit f.old 0 then 1 else 0) + (if hasBit f.old 0 ∨ hasBit f.old 2 then 8 else 0) + (if f.starve = true ∧ hasBit f.old 0 ∧ ¬ hasBit f.old 2 then 4 else 0) - (if f.awoke = true ∧ hasBit f.old 1 then 2 else 0))
/-- a step of locking. -/
def lockM (w : Int) (f : MFr) (now pat : Int) : Int × MFr × MAct :=
  if f.phase = 0 ∧ w = 0 then (1, noF, doneA)
  else if f.phase = 0 ∨ f.phase = 2 ∧ w ≠ f.old then (w, { f with phase := 1 }, noA)
  else if f.phase = 1 then (w, { f with old := w, phase := 2 }, noA)
  else if f.phase = 2 then
    if ¬ hasBit f.old 0 ∧ ¬ hasBit f.old 2 then (stateM f, noF, doneA)
    else (stateM f, { f with front := decide (0 ≤ f.since), since := if f.since < 0 then now else f.since, need := 2, phase := 3 }, noA)
  else if f.phase = 3 then
    (w, { f with starve := f.starve || decide (pat < IntKind.i64.wrap (now - f.since)), old := w, phase := if hasBit w 2 then 4 else 2, awoke := f.awoke || decide (¬ hasBit w 2) }, noA)
  else if f.phase = 4 then (IntKind.i64.wrap (w - (if f.starve = false ∨ f.old / 8 = 1 then 11 else 7)), noF, doneA)
  else (w, f, noA)
/-- a step of unlocking. -/
def unlockM (w : Int) (f : MFr) : Int × MFr × MAct :=
  if f.phase = 0 ∧ ¬ hasBit w 0 then (w, noF, ⟨false, 0, false, 1⟩)
  else if f.phase = 0 then
    if w = 1 then (0, noF, doneA)
    else (IntKind.i64.wrap (w - 1), { f with old := IntKind.i64.wrap (w - 1), phase := if hasBit w 2 then 2 else 1 }, noA)
  else if f.phase = 1 then
    if f.old / 8 = 0 ∨ hasBit f.old 0 ∨ hasBit f.old 1 ∨ hasBit f.old 2 then (w, noF, doneA)
    else if w ≠ f.old then (w, { f with old := w }, noA)
    else (IntKind.i64.wrap (w - 8 + 2), { f with phase := 3 }, noA)
  else if f.phase = 2 then (w, noF, ⟨true, 2, true, 0⟩)
  else if f.phase = 3 then (w, noF, ⟨true, 2, false, 0⟩)
  else (w, f, noA)
/-- what is told of a step of locking. -/
theorem lock_done {w : Int} {f : MFr} {now pat : Int} : (lockM w f now pat).2.2.done = true → (lockM w f now pat).2.1 = noF := by
  unfold lockM
  split; exact fun _ => rfl
  split; exact fun h => by cases h
  split; exact fun h => by cases h
  split
  · split
    · exact fun _ => rfl
    · exact fun h => by cases h
  split; exact fun h => by cases h
  split; exact fun _ => rfl
  exact fun h => by cases h
theorem lock_act {w : Int} {f : MFr} {now pat : Int} : (lockM w f now pat).2.2 = noA ∨ (lockM w f now pat).2.2 = doneA := by
  unfold lockM
  split; exact Or.inr rfl
  split; exact Or.inl rfl
  split; exact Or.inl rfl
  split
  · split; exact Or.inr rfl; exact Or.inl rfl
  split; exact Or.inl rfl
  split; exact Or.inr rfl
  exact Or.inl rfl
/-- a sum over six. -/
def sum6 (g : Nat → Nat) : Nat := g 0 + g 1 + g 2 + g 3 + g 4 + g 5
def updN {α : Type} (F : Nat → α) (t : Nat) (x : α) (k : Nat) : α := if k = t then x else F k
theorem updN_self {α : Type} {F : Nat → α} {t : Nat} {x : α} : updN F t x t = x := if_pos rfl
theorem updN_ne {α : Type} {F : Nat → α} {t k : Nat} {x : α} (h : k ≠ t) : updN F t x k = F k := if_neg h
theorem sum6_upd {g h : Nat → Nat} {t : Nat} (ht : t < 6) (he : ∀ k, k ≠ t → g k = h k) : sum6 g + h t = sum6 h + g t := by
  unfold sum6
  rcases (by omega : t = 0 ∨ t = 1 ∨ t = 2 ∨ t = 3 ∨ t = 4 ∨ t = 5) with rfl | rfl | rfl | rfl | rfl | rfl
  · rw [he 1 (by omega), he 2 (by omega), he 3 (by omega), he 4 (by omega), he 5 (by omega)]; omega
  · rw [he 0 (by omega), he 2 (by omega), he 3 (by omega), he 4 (by omega), he 5 (by omega)]; omega
  · rw [he 0 (by omega), he 1 (by omega), he 3 (by omega), he 4 (by omega), he 5 (by omega)]; omega
  · rw [he 0 (by omega), he 1 (by omega), he 2 (by omega), he 4 (by omega), he 5 (by omega)]; omega
  · rw [he 0 (by omega), he 1 (by omega), he 2 (by omega), he 3 (by omega), he 5 (by omega)]; omega
  · rw [he 0 (by omega), he 1 (by omega), he 2 (by omega), he 3 (by omega), he 4 (by omega)]; omega
theorem sum6_le {g : Nat → Nat} {m : Nat} (h : ∀ k, k < 6 → g k ≤ m) : sum6 g ≤ 6 * m := by
  unfold sum6
  have h0 := h 0 (by omega); have h1 := h 1 (by omega); have h2 := h 2 (by omega); have h3 := h 3 (by omega); have h4 := h 4 (by omega); have h5 := h 5 (by omega)
  omega
theorem sum6_ge {g : Nat → Nat} {t : Nat} (ht : t < 6) : g t ≤ sum6 g := by
  unfold sum6
  rcases (by omega : t = 0 ∨ t = 1 ∨ t = 2 ∨ t = 3 ∨ t = 4 ∨ t = 5) with rfl | rfl | rfl | rfl | rfl | rfl <;> omega
theorem sum6_two {g : Nat → Nat} {t u : Nat} (ht : t < 6) (hu : u < 6) (hne : t ≠ u) : g t + g u ≤ sum6 g := by
  unfold sum6
  rcases (by omega : t = 0 ∨ t = 1 ∨ t = 2 ∨ t = 3 ∨ t = 4 ∨ t = 5) with rfl | rfl | rfl | rfl | rfl | rfl <;>
    rcases (by omega : u = 0 ∨ u = 1 ∨ u = 2 ∨ u = 3 ∨ u = 4 ∨ u = 5) with rfl | rfl | rfl | rfl | rfl | rfl <;> omega
end Go.Proofs.Ytpkegfochfkkcaa
