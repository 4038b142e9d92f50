/- Layer 12: timers in a heap: what the document's words come to; no condition but those in each theorem. -/
import Derived.Test.YtehpfpphpffniaaAreG
namespace Go.Proofs.Ytehpfpphpffniaa
set_option linter.unusedVariables false
set_option linter.unusedSimpArgs false
open Go.RowKit

/-- a timer: when, who. -/
abbrev Tm := Int × Int
def tmAt (h : List Tm) (i : Nat) : Tm := h.getD i (0, 0)
def befT (a b : Tm) : Prop := a.1 < b.1 ∨ (a.1 = b.1 ∧ a.2 < b.2)
instance (a b : Tm) : Decidable (befT a b) := by unfold befT; infer_instance
def okT (h : List Tm) (i : Nat) : Prop := 0 ≤ (tmAt h i).1 ∧ 0 ≤ (tmAt h i).2 ∧ (0 < i → ¬ befT (tmAt h i) (tmAt h ((i - 1) / 4))) ∧ ∀ k : Nat, k < i → (tmAt h k).2 ≠ (tmAt h i).2
instance (h : List Tm) (i : Nat) : Decidable (okT h i) := by unfold okT; infer_instance
def okTs (h : List Tm) (m : Nat) : Prop := ∀ i : Nat, i < m → okT h i
instance (h : List Tm) (m : Nat) : Decidable (okTs h m) := by unfold okTs; infer_instance
def rightP12 (h : List Tm) : Prop := h.length ≤ 12 ∧ okTs h h.length
instance (h : List Tm) : Decidable (rightP12 h) := by unfold rightP12; infer_instance
def rightH (h : List Tm) : Bool := decide (rightP12 h)
/-- the first place of a task; -1. -/
def plT (task : Int) : List Tm → Nat → Int
  | [], _ => -1
  | x :: h, i => if x.2 = task then (i : Int) else plT task h (i + 1)
def placeH (h : List Tm) (task : Int) : Int := plT task h 0
def swapT (h : List Tm) (i p : Nat) : List Tm := (h.set i (tmAt h p)).set p (tmAt h i)
def upT : Nat → List Tm → Nat → List Tm
  | 0, h, _ => h
  | f + 1, h, i => if 0 < i ∧ befT (tmAt h i) (tmAt h ((i - 1) / 4)) then upT f (swapT h i ((i - 1) / 4)) ((i - 1) / 4) else h
/-- of the places from the first child on so many more, the one that is before all others. -/
def bestC (h : List Tm) (b : Nat) : Nat → Nat
  | 0 => b
  | m + 1 => if b + m + 1 < h.length ∧ befT (tmAt h (b + m + 1)) (tmAt h (bestC h b m)) then b + m + 1 else bestC h b m
def downT : Nat → List Tm → Nat → List Tm
  | 0, h, _ => h
  | f + 1, h, i => if 4 * i + 1 < h.length then
      if befT (tmAt h (bestC h (4 * i + 1) 3)) (tmAt h i) then downT f (swapT h i (bestC h (4 * i + 1) 3)) (bestC h (4 * i + 1) 3) else h
    else h
def pushH (h : List Tm) (x : Tm) : List Tm × Int :=
  if rightH h = false ∨ x.1 < 0 ∨ x.2 < 0 then (h, 1) else if 0 ≤ placeH h x.2 then (h, 8) else if 12 ≤ h.length then (h, 6) else (upT (h.length + 1) (h ++ [x]) h.length, 0)
def wioT (h : List Tm) (i : Nat) : List Tm :=
  if i = h.length - 1 then h.take (h.length - 1) else upT (i + 1) (downT h.length ((h.take (h.length - 1)).set i (tmAt h (h.length - 1))) i) i
def popH (h : List Tm) : List Tm × Tm × Int := if rightH h = false then (h, (0, 0), 1) else if h = [] then (h, (0, 0), 7) else (wioT h 0, tmAt h 0, 0)
def dropH (h : List Tm) (task : Int) : List Tm × Int := if rightH h = false then (h, 1) else if placeH h task < 0 then (h, 7) else (wioT h (placeH h task).toNat, 0)
def dueF (now : Int) : Nat → List Tm → List Int → List Tm × List Int
  | 0, h, out => (h, out)
  | f + 1, h, out => if h ≠ [] ∧ (tmAt h 0).1 ≤ now then dueF now f (popH h).1 (out ++ [(popH h).2.1.2]) else (h, out)
def dueH (h : List Tm) (now : Int) : List Tm × List Int × Int := if rightH h = false then (h, [], 1) else ((dueF now (h.length + 1) h []).1, (dueF now (h.length + 1) h []).2, 0)
/-- a timer among others that stand by their turn: behind all that it isn't before. -/
def insT12 (x : Tm) : List Tm → List Tm
  | [] => [x]
  | y :: l => if befT x y then x :: y :: l else y :: insT12 x l
def sortF (h : List Tm) : Nat → List Tm
  | 0 => []
  | k + 1 => insT12 (tmAt h k) (sortF h k)
def sortH (h : List Tm) : List Tm := if rightH h = true then sortF h h.length else []
end Go.Proofs.Ytehpfpphpffniaa
