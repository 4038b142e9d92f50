/- What the landed code's own isPlace, isFrom, isLast, mayHaveSize and operandsOf answer; no condition but those in each theorem. -/
import Derived.Test.YtkoodhnfphmbnaaCodN
import Derived.Test.YtkoodhnfphmbnaaFr

namespace Go.Proofs.Ytkoodhnfphmbnaa
set_option linter.unusedVariables false
set_option linter.unusedSimpArgs false
open Go.RowKit
/-- what stands in an instruction of an op: nothing (0), a register (1), a number (2), a place (3), a cell (4), an object of a kind (5 and the kind); is there such an op? -/
def opsF (o : Int) : Int × Int × Int × Bool :=
  if o = 0 then (0, 0, 0, true)
  else if o = 1 then (1, 2, 0, true)
  else if o = 2 ∨ o = 17 ∨ o = 18 ∨ o = 25 then (1, 1, 0, true)
  else if o = 3 ∨ o = 4 ∨ o = 5 ∨ o = 12 ∨ o = 13 ∨ o = 14 ∨ o = 15 ∨ o = 16 then (1, 1, 1, true)
  else if o = 6 ∨ o = 23 then (3, 0, 0, true)
  else if o = 7 ∨ o = 22 then (1, 3, 0, true)
  else if o = 8 ∨ o = 9 ∨ o = 11 then (1, 4, 0, true)
  else if o = 10 then (1, 4, 1, true)
  else if o = 19 ∨ o = 20 ∨ o = 21 ∨ o = 24 ∨ o = 41 then (1, 0, 0, true)
  else if o = 26 ∨ o = 27 then (6, 0, 0, true)
  else if o = 28 ∨ o = 29 ∨ o = 30 ∨ o = 31 then (7, 0, 0, true)
  else if o = 32 then (8, 1, 0, true)
  else if o = 33 then (8, 0, 0, true)
  else if o = 34 then (9, 1, 0, true)
  else if o = 35 then (9, 0, 0, true)
  else if o = 36 then (10, 6, 0, true)
  else if o = 37 ∨ o = 38 then (10, 0, 0, true)
  else if o = 39 ∨ o = 40 then (11, 1, 0, true)
  else (0, 0, 0, false)
def fromB (l x m : Int) : Bool := decide (l ≤ x) && decide (x ≤ m)
/-- may it stand there? -/
def standB (n ce : Int) (ki : List Int) (o x : Int) : Bool :=
  if o = 0 then x == 0 else if o = 1 then inB x 4 else if o = 2 then fromB (-2147483648) x 2147483647 else if o = 3 then inB x n else if o = 4 then inB x ce else objB ki x (o - 5)
theorem fromB_iff {l x m : Int} : fromB l x m = true ↔ l ≤ x ∧ x ≤ m := by unfold fromB; simp
theorem ins_stand0 (n ce : Int) (ki : List Int) (a b x : Int) : (plainB n ce (0 : Int) a b x || syncB ki (0 : Int) a b x) = ((opsF (0 : Int)).2.2.2 && standB n ce ki (opsF (0 : Int)).1 a && standB n ce ki (opsF (0 : Int)).2.1 b && standB n ce ki (opsF (0 : Int)).2.2.1 x) := by
  show (plainB n ce (0 : Int) a b x || syncB ki (0 : Int) a b x) = (true && (a == 0) && (b == 0) && (x == 0))
  rw [show plainB n ce (0 : Int) a b x = ((a == 0) && ((b == 0) && (x == 0))) from rfl, show syncB ki (0 : Int) a b x = false from rfl]
  simp only [fromB, Bool.or_false, Bool.true_and, Bool.and_assoc]
theorem ins_stand1 (n ce : Int) (ki : List Int) (a b x : Int) : (plainB n ce (1 : Int) a b x || syncB ki (1 : Int) a b x) = ((opsF (1 : Int)).2.2.2 && standB n ce ki (opsF (1 : Int)).1 a && standB n ce ki (opsF (1 : Int)).2.1 b && standB n ce ki (opsF (1 : Int)).2.2.1 x) := by
  show (plainB n ce (1 : Int) a b x || syncB ki (1 : Int) a b x) = (true && inB a 4 && fromB (-2147483648) b 2147483647 && (x == 0))
  rw [show plainB n ce (1 : Int) a b x = (inB a 4 && (decide (-2147483648 ≤ b) && (decide (b ≤ 2147483647) && (x == 0)))) from rfl, show syncB ki (1 : Int) a b x = false from rfl]
  simp only [fromB, Bool.or_false, Bool.true_and, Bool.and_assoc]
theorem ins_stand2 (n ce : Int) (ki : List Int) (a b x : Int) : (plainB n ce (2 : Int) a b x || syncB ki (2 : Int) a b x) = ((opsF (2 : Int)).2.2.2 && standB n ce ki (opsF (2 : Int)).1 a && standB n ce ki (opsF (2 : Int)).2.1 b && standB n ce ki (opsF (2 : Int)).2.2.1 x) := by
  show (plainB n ce (2 : Int) a b x || syncB ki (2 : Int) a b x) = (true && inB a 4 && inB b 4 && (x == 0))
  rw [show plainB n ce (2 : Int) a b x = ((inB a 4 && inB b 4) && (x == 0)) from rfl, show syncB ki (2 : Int) a b x = false from rfl]
  simp only [fromB, Bool.or_false, Bool.true_and, Bool.and_assoc]
theorem ins_stand3 (n ce : Int) (ki : List Int) (a b x : Int) : (plainB n ce (3 : Int) a b x || syncB ki (3 : Int) a b x) = ((opsF (3 : Int)).2.2.2 && standB n ce ki (opsF (3 : Int)).1 a && standB n ce ki (opsF (3 : Int)).2.1 b && standB n ce ki (opsF (3 : Int)).2.2.1 x) := by
  show (plainB n ce (3 : Int) a b x || syncB ki (3 : Int) a b x) = (true && inB a 4 && inB b 4 && inB x 4)
  rw [show plainB n ce (3 : Int) a b x = ((inB a 4 && inB b 4) && inB x 4) from rfl, show syncB ki (3 : Int) a b x = false from rfl]
  simp only [fromB, Bool.or_false, Bool.true_and, Bool.and_assoc]
theorem ins_stand4 (n ce : Int) (ki : List Int) (a b x : Int) : (plainB n ce (4 : Int) a b x || syncB ki (4 : Int) a b x) = ((opsF (4 : Int)).2.2.2 && standB n ce ki (opsF (4 : Int)).1 a && standB n ce ki (opsF (4 : Int)).2.1 b && standB n ce ki (opsF (4 : Int)).2.2.1 x) := by
  show (plainB n ce (4 : Int) a b x || syncB ki (4 : Int) a b x) = (true && inB a 4 && inB b 4 && inB x 4)
  rw [show plainB n ce (4 : Int) a b x = ((inB a 4 && inB b 4) && inB x 4) from rfl, show syncB ki (4 : Int) a b x = false from rfl]
  simp only [fromB, Bool.or_false, Bool.true_and, Bool.and_assoc]
theorem ins_stand5 (n ce : Int) (ki : List Int) (a b x : Int) : (plainB n ce (5 : Int) a b x || syncB ki (5 : Int) a b x) = ((opsF (5 : Int)).2.2.2 && standB n ce ki (opsF (5 : Int)).1 a && standB n ce ki (opsF (5 : Int)).2.1 b && standB n ce ki (opsF (5 : Int)).2.2.1 x) := by
  show (plainB n ce (5 : Int) a b x || syncB ki (5 : Int) a b x) = (true && inB a 4 && inB b 4 && inB x 4)
  rw [show plainB n ce (5 : Int) a b x = ((inB a 4 && inB b 4) && inB x 4) from rfl, show syncB ki (5 : Int) a b x = false from rfl]
  simp only [fromB, Bool.or_false, Bool.true_and, Bool.and_assoc]
theorem ins_stand6 (n ce : Int) (ki : List Int) (a b x : Int) : (plainB n ce (6 : Int) a b x || syncB ki (6 : Int) a b x) = ((opsF (6 : Int)).2.2.2 && standB n ce ki (opsF (6 : Int)).1 a && standB n ce ki (opsF (6 : Int)).2.1 b && standB n ce ki (opsF (6 : Int)).2.2.1 x) := by
  show (plainB n ce (6 : Int) a b x || syncB ki (6 : Int) a b x) = (true && inB a n && (b == 0) && (x == 0))
  rw [show plainB n ce (6 : Int) a b x = (inB a n && ((b == 0) && (x == 0))) from rfl, show syncB ki (6 : Int) a b x = false from rfl]
  simp only [fromB, Bool.or_false, Bool.true_and, Bool.and_assoc]
theorem ins_stand7 (n ce : Int) (ki : List Int) (a b x : Int) : (plainB n ce (7 : Int) a b x || syncB ki (7 : Int) a b x) = ((opsF (7 : Int)).2.2.2 && standB n ce ki (opsF (7 : Int)).1 a && standB n ce ki (opsF (7 : Int)).2.1 b && standB n ce ki (opsF (7 : Int)).2.2.1 x) := by
  show (plainB n ce (7 : Int) a b x || syncB ki (7 : Int) a b x) = (true && inB a 4 && inB b n && (x == 0))
  rw [show plainB n ce (7 : Int) a b x = (inB a 4 && (inB b n && (x == 0))) from rfl, show syncB ki (7 : Int) a b x = false from rfl]
  simp only [fromB, Bool.or_false, Bool.true_and, Bool.and_assoc]
theorem ins_stand8 (n ce : Int) (ki : List Int) (a b x : Int) : (plainB n ce (8 : Int) a b x || syncB ki (8 : Int) a b x) = ((opsF (8 : Int)).2.2.2 && standB n ce ki (opsF (8 : Int)).1 a && standB n ce ki (opsF (8 : Int)).2.1 b && standB n ce ki (opsF (8 : Int)).2.2.1 x) := by
  show (plainB n ce (8 : Int) a b x || syncB ki (8 : Int) a b x) = (true && inB a 4 && inB b ce && (x == 0))
  rw [show plainB n ce (8 : Int) a b x = (inB a 4 && (inB b ce && (x == 0))) from rfl, show syncB ki (8 : Int) a b x = false from rfl]
  simp only [fromB, Bool.or_false, Bool.true_and, Bool.and_assoc]
theorem ins_stand9 (n ce : Int) (ki : List Int) (a b x : Int) : (plainB n ce (9 : Int) a b x || syncB ki (9 : Int) a b x) = ((opsF (9 : Int)).2.2.2 && standB n ce ki (opsF (9 : Int)).1 a && standB n ce ki (opsF (9 : Int)).2.1 b && standB n ce ki (opsF (9 : Int)).2.2.1 x) := by
  show (plainB n ce (9 : Int) a b x || syncB ki (9 : Int) a b x) = (true && inB a 4 && inB b ce && (x == 0))
  rw [show plainB n ce (9 : Int) a b x = (inB a 4 && (inB b ce && (x == 0))) from rfl, show syncB ki (9 : Int) a b x = false from rfl]
  simp only [fromB, Bool.or_false, Bool.true_and, Bool.and_assoc]
theorem ins_stand10 (n ce : Int) (ki : List Int) (a b x : Int) : (plainB n ce (10 : Int) a b x || syncB ki (10 : Int) a b x) = ((opsF (10 : Int)).2.2.2 && standB n ce ki (opsF (10 : Int)).1 a && standB n ce ki (opsF (10 : Int)).2.1 b && standB n ce ki (opsF (10 : Int)).2.2.1 x) := by
  show (plainB n ce (10 : Int) a b x || syncB ki (10 : Int) a b x) = (true && inB a 4 && inB b ce && inB x 4)
  rw [show plainB n ce (10 : Int) a b x = (inB a 4 && (inB b ce && inB x 4)) from rfl, show syncB ki (10 : Int) a b x = false from rfl]
  simp only [fromB, Bool.or_false, Bool.true_and, Bool.and_assoc]
theorem ins_stand11 (n ce : Int) (ki : List Int) (a b x : Int) : (plainB n ce (11 : Int) a b x || syncB ki (11 : Int) a b x) = ((opsF (11 : Int)).2.2.2 && standB n ce ki (opsF (11 : Int)).1 a && standB n ce ki (opsF (11 : Int)).2.1 b && standB n ce ki (opsF (11 : Int)).2.2.1 x) := by
  show (plainB n ce (11 : Int) a b x || syncB ki (11 : Int) a b x) = (true && inB a 4 && inB b ce && (x == 0))
  rw [show plainB n ce (11 : Int) a b x = (inB a 4 && (inB b ce && (x == 0))) from rfl, show syncB ki (11 : Int) a b x = false from rfl]
  simp only [fromB, Bool.or_false, Bool.true_and, Bool.and_assoc]
theorem ins_stand12 (n ce : Int) (ki : List Int) (a b x : Int) : (plainB n ce (12 : Int) a b x || syncB ki (12 : Int) a b x) = ((opsF (12 : Int)).2.2.2 && standB n ce ki (opsF (12 : Int)).1 a && standB n ce ki (opsF (12 : Int)).2.1 b && standB n ce ki (opsF (12 : Int)).2.2.1 x) := by
  show (plainB n ce (12 : Int) a b x || syncB ki (12 : Int) a b x) = (true && inB a 4 && inB b 4 && inB x 4)
  rw [show plainB n ce (12 : Int) a b x = ((inB a 4 && inB b 4) && inB x 4) from rfl, show syncB ki (12 : Int) a b x = false from rfl]
  simp only [fromB, Bool.or_false, Bool.true_and, Bool.and_assoc]
theorem ins_stand13 (n ce : Int) (ki : List Int) (a b x : Int) : (plainB n ce (13 : Int) a b x || syncB ki (13 : Int) a b x) = ((opsF (13 : Int)).2.2.2 && standB n ce ki (opsF (13 : Int)).1 a && standB n ce ki (opsF (13 : Int)).2.1 b && standB n ce ki (opsF (13 : Int)).2.2.1 x) := by
  show (plainB n ce (13 : Int) a b x || syncB ki (13 : Int) a b x) = (true && inB a 4 && inB b 4 && inB x 4)
  rw [show plainB n ce (13 : Int) a b x = ((inB a 4 && inB b 4) && inB x 4) from rfl, show syncB ki (13 : Int) a b x = false from rfl]
  simp only [fromB, Bool.or_false, Bool.true_and, Bool.and_assoc]
theorem ins_stand14 (n ce : Int) (ki : List Int) (a b x : Int) : (plainB n ce (14 : Int) a b x || syncB ki (14 : Int) a b x) = ((opsF (14 : Int)).2.2.2 && standB n ce ki (opsF (14 : Int)).1 a && standB n ce ki (opsF (14 : Int)).2.1 b && standB n ce ki (opsF (14 : Int)).2.2.1 x) := by
  show (plainB n ce (14 : Int) a b x || syncB ki (14 : Int) a b x) = (true && inB a 4 && inB b 4 && inB x 4)
  rw [show plainB n ce (14 : Int) a b x = ((inB a 4 && inB b 4) && inB x 4) from rfl, show syncB ki (14 : Int) a b x = false from rfl]
  simp only [fromB, Bool.or_false, Bool.true_and, Bool.and_assoc]
theorem ins_stand15 (n ce : Int) (ki : List Int) (a b x : Int) : (plainB n ce (15 : Int) a b x || syncB ki (15 : Int) a b x) = ((opsF (15 : Int)).2.2.2 && standB n ce ki (opsF (15 : Int)).1 a && standB n ce ki (opsF (15 : Int)).2.1 b && standB n ce ki (opsF (15 : Int)).2.2.1 x) := by
  show (plainB n ce (15 : Int) a b x || syncB ki (15 : Int) a b x) = (true && inB a 4 && inB b 4 && inB x 4)
  rw [show plainB n ce (15 : Int) a b x = ((inB a 4 && inB b 4) && inB x 4) from rfl, show syncB ki (15 : Int) a b x = false from rfl]
  simp only [fromB, Bool.or_false, Bool.true_and, Bool.and_assoc]
theorem ins_stand16 (n ce : Int) (ki : List Int) (a b x : Int) : (plainB n ce (16 : Int) a b x || syncB ki (16 : Int) a b x) = ((opsF (16 : Int)).2.2.2 && standB n ce ki (opsF (16 : Int)).1 a && standB n ce ki (opsF (16 : Int)).2.1 b && standB n ce ki (opsF (16 : Int)).2.2.1 x) := by
  show (plainB n ce (16 : Int) a b x || syncB ki (16 : Int) a b x) = (true && inB a 4 && inB b 4 && inB x 4)
  rw [show plainB n ce (16 : Int) a b x = ((inB a 4 && inB b 4) && inB x 4) from rfl, show syncB ki (16 : Int) a b x = false from rfl]
  simp only [fromB, Bool.or_false, Bool.true_and, Bool.and_assoc]
theorem ins_stand17 (n ce : Int) (ki : List Int) (a b x : Int) : (plainB n ce (17 : Int) a b x || syncB ki (17 : Int) a b x) = ((opsF (17 : Int)).2.2.2 && standB n ce ki (opsF (17 : Int)).1 a && standB n ce ki (opsF (17 : Int)).2.1 b && standB n ce ki (opsF (17 : Int)).2.2.1 x) := by
  show (plainB n ce (17 : Int) a b x || syncB ki (17 : Int) a b x) = (true && inB a 4 && inB b 4 && (x == 0))
  rw [show plainB n ce (17 : Int) a b x = ((inB a 4 && inB b 4) && (x == 0)) from rfl, show syncB ki (17 : Int) a b x = false from rfl]
  simp only [fromB, Bool.or_false, Bool.true_and, Bool.and_assoc]
theorem ins_stand18 (n ce : Int) (ki : List Int) (a b x : Int) : (plainB n ce (18 : Int) a b x || syncB ki (18 : Int) a b x) = ((opsF (18 : Int)).2.2.2 && standB n ce ki (opsF (18 : Int)).1 a && standB n ce ki (opsF (18 : Int)).2.1 b && standB n ce ki (opsF (18 : Int)).2.2.1 x) := by
  show (plainB n ce (18 : Int) a b x || syncB ki (18 : Int) a b x) = (true && inB a 4 && inB b 4 && (x == 0))
  rw [show plainB n ce (18 : Int) a b x = ((inB a 4 && inB b 4) && (x == 0)) from rfl, show syncB ki (18 : Int) a b x = false from rfl]
  simp only [fromB, Bool.or_false, Bool.true_and, Bool.and_assoc]
theorem ins_stand19 (n ce : Int) (ki : List Int) (a b x : Int) : (plainB n ce (19 : Int) a b x || syncB ki (19 : Int) a b x) = ((opsF (19 : Int)).2.2.2 && standB n ce ki (opsF (19 : Int)).1 a && standB n ce ki (opsF (19 : Int)).2.1 b && standB n ce ki (opsF (19 : Int)).2.2.1 x) := by
  show (plainB n ce (19 : Int) a b x || syncB ki (19 : Int) a b x) = (true && inB a 4 && (b == 0) && (x == 0))
  rw [show plainB n ce (19 : Int) a b x = (inB a 4 && ((b == 0) && (x == 0))) from rfl, show syncB ki (19 : Int) a b x = false from rfl]
  simp only [fromB, Bool.or_false, Bool.true_and, Bool.and_assoc]
theorem ins_stand20 (n ce : Int) (ki : List Int) (a b x : Int) : (plainB n ce (20 : Int) a b x || syncB ki (20 : Int) a b x) = ((opsF (20 : Int)).2.2.2 && standB n ce ki (opsF (20 : Int)).1 a && standB n ce ki (opsF (20 : Int)).2.1 b && standB n ce ki (opsF (20 : Int)).2.2.1 x) := by
  show (plainB n ce (20 : Int) a b x || syncB ki (20 : Int) a b x) = (true && inB a 4 && (b == 0) && (x == 0))
  rw [show plainB n ce (20 : Int) a b x = (inB a 4 && ((b == 0) && (x == 0))) from rfl, show syncB ki (20 : Int) a b x = false from rfl]
  simp only [fromB, Bool.or_false, Bool.true_and, Bool.and_assoc]
theorem ins_stand21 (n ce : Int) (ki : List Int) (a b x : Int) : (plainB n ce (21 : Int) a b x || syncB ki (21 : Int) a b x) = ((opsF (21 : Int)).2.2.2 && standB n ce ki (opsF (21 : Int)).1 a && standB n ce ki (opsF (21 : Int)).2.1 b && standB n ce ki (opsF (21 : Int)).2.2.1 x) := by
  show (plainB n ce (21 : Int) a b x || syncB ki (21 : Int) a b x) = (true && inB a 4 && (b == 0) && (x == 0))
  rw [show plainB n ce (21 : Int) a b x = (inB a 4 && ((b == 0) && (x == 0))) from rfl, show syncB ki (21 : Int) a b x = false from rfl]
  simp only [fromB, Bool.or_false, Bool.true_and, Bool.and_assoc]
theorem ins_stand22 (n ce : Int) (ki : List Int) (a b x : Int) : (plainB n ce (22 : Int) a b x || syncB ki (22 : Int) a b x) = ((opsF (22 : Int)).2.2.2 && standB n ce ki (opsF (22 : Int)).1 a && standB n ce ki (opsF (22 : Int)).2.1 b && standB n ce ki (opsF (22 : Int)).2.2.1 x) := by
  show (plainB n ce (22 : Int) a b x || syncB ki (22 : Int) a b x) = (true && inB a 4 && inB b n && (x == 0))
  rw [show plainB n ce (22 : Int) a b x = (inB a 4 && (inB b n && (x == 0))) from rfl, show syncB ki (22 : Int) a b x = false from rfl]
  simp only [fromB, Bool.or_false, Bool.true_and, Bool.and_assoc]
theorem ins_stand23 (n ce : Int) (ki : List Int) (a b x : Int) : (plainB n ce (23 : Int) a b x || syncB ki (23 : Int) a b x) = ((opsF (23 : Int)).2.2.2 && standB n ce ki (opsF (23 : Int)).1 a && standB n ce ki (opsF (23 : Int)).2.1 b && standB n ce ki (opsF (23 : Int)).2.2.1 x) := by
  show (plainB n ce (23 : Int) a b x || syncB ki (23 : Int) a b x) = (true && inB a n && (b == 0) && (x == 0))
  rw [show plainB n ce (23 : Int) a b x = (inB a n && ((b == 0) && (x == 0))) from rfl, show syncB ki (23 : Int) a b x = false from rfl]
  simp only [fromB, Bool.or_false, Bool.true_and, Bool.and_assoc]
theorem ins_stand24 (n ce : Int) (ki : List Int) (a b x : Int) : (plainB n ce (24 : Int) a b x || syncB ki (24 : Int) a b x) = ((opsF (24 : Int)).2.2.2 && standB n ce ki (opsF (24 : Int)).1 a && standB n ce ki (opsF (24 : Int)).2.1 b && standB n ce ki (opsF (24 : Int)).2.2.1 x) := by
  show (plainB n ce (24 : Int) a b x || syncB ki (24 : Int) a b x) = (true && inB a 4 && (b == 0) && (x == 0))
  rw [show plainB n ce (24 : Int) a b x = (inB a 4 && ((b == 0) && (x == 0))) from rfl, show syncB ki (24 : Int) a b x = false from rfl]
  simp only [fromB, Bool.or_false, Bool.true_and, Bool.and_assoc]
theorem ins_stand25 (n ce : Int) (ki : List Int) (a b x : Int) : (plainB n ce (25 : Int) a b x || syncB ki (25 : Int) a b x) = ((opsF (25 : Int)).2.2.2 && standB n ce ki (opsF (25 : Int)).1 a && standB n ce ki (opsF (25 : Int)).2.1 b && standB n ce ki (opsF (25 : Int)).2.2.1 x) := by
  show (plainB n ce (25 : Int) a b x || syncB ki (25 : Int) a b x) = (true && inB a 4 && inB b 4 && (x == 0))
  rw [show plainB n ce (25 : Int) a b x = ((inB a 4 && inB b 4) && (x == 0)) from rfl, show syncB ki (25 : Int) a b x = false from rfl]
  simp only [fromB, Bool.or_false, Bool.true_and, Bool.and_assoc]
theorem ins_stand26 (n ce : Int) (ki : List Int) (a b x : Int) : (plainB n ce (26 : Int) a b x || syncB ki (26 : Int) a b x) = ((opsF (26 : Int)).2.2.2 && standB n ce ki (opsF (26 : Int)).1 a && standB n ce ki (opsF (26 : Int)).2.1 b && standB n ce ki (opsF (26 : Int)).2.2.1 x) := by
  show (plainB n ce (26 : Int) a b x || syncB ki (26 : Int) a b x) = (true && objB ki a 1 && (b == 0) && (x == 0))
  rw [show plainB n ce (26 : Int) a b x = false from rfl, show syncB ki (26 : Int) a b x = (objB ki a 1 && ((b == 0) && (x == 0))) from rfl]
  simp only [Bool.false_or, Bool.true_and, Bool.and_assoc]
theorem ins_stand27 (n ce : Int) (ki : List Int) (a b x : Int) : (plainB n ce (27 : Int) a b x || syncB ki (27 : Int) a b x) = ((opsF (27 : Int)).2.2.2 && standB n ce ki (opsF (27 : Int)).1 a && standB n ce ki (opsF (27 : Int)).2.1 b && standB n ce ki (opsF (27 : Int)).2.2.1 x) := by
  show (plainB n ce (27 : Int) a b x || syncB ki (27 : Int) a b x) = (true && objB ki a 1 && (b == 0) && (x == 0))
  rw [show plainB n ce (27 : Int) a b x = false from rfl, show syncB ki (27 : Int) a b x = (objB ki a 1 && ((b == 0) && (x == 0))) from rfl]
  simp only [Bool.false_or, Bool.true_and, Bool.and_assoc]
theorem ins_stand28 (n ce : Int) (ki : List Int) (a b x : Int) : (plainB n ce (28 : Int) a b x || syncB ki (28 : Int) a b x) = ((opsF (28 : Int)).2.2.2 && standB n ce ki (opsF (28 : Int)).1 a && standB n ce ki (opsF (28 : Int)).2.1 b && standB n ce ki (opsF (28 : Int)).2.2.1 x) := by
  show (plainB n ce (28 : Int) a b x || syncB ki (28 : Int) a b x) = (true && objB ki a 2 && (b == 0) && (x == 0))
  rw [show plainB n ce (28 : Int) a b x = false from rfl, show syncB ki (28 : Int) a b x = (objB ki a 2 && ((b == 0) && (x == 0))) from rfl]
  simp only [Bool.false_or, Bool.true_and, Bool.and_assoc]
theorem ins_stand29 (n ce : Int) (ki : List Int) (a b x : Int) : (plainB n ce (29 : Int) a b x || syncB ki (29 : Int) a b x) = ((opsF (29 : Int)).2.2.2 && standB n ce ki (opsF (29 : Int)).1 a && standB n ce ki (opsF (29 : Int)).2.1 b && standB n ce ki (opsF (29 : Int)).2.2.1 x) := by
  show (plainB n ce (29 : Int) a b x || syncB ki (29 : Int) a b x) = (true && objB ki a 2 && (b == 0) && (x == 0))
  rw [show plainB n ce (29 : Int) a b x = false from rfl, show syncB ki (29 : Int) a b x = (objB ki a 2 && ((b == 0) && (x == 0))) from rfl]
  simp only [Bool.false_or, Bool.true_and, Bool.and_assoc]
theorem ins_stand30 (n ce : Int) (ki : List Int) (a b x : Int) : (plainB n ce (30 : Int) a b x || syncB ki (30 : Int) a b x) = ((opsF (30 : Int)).2.2.2 && standB n ce ki (opsF (30 : Int)).1 a && standB n ce ki (opsF (30 : Int)).2.1 b && standB n ce ki (opsF (30 : Int)).2.2.1 x) := by
  show (plainB n ce (30 : Int) a b x || syncB ki (30 : Int) a b x) = (true && objB ki a 2 && (b == 0) && (x == 0))
  rw [show plainB n ce (30 : Int) a b x = false from rfl, show syncB ki (30 : Int) a b x = (objB ki a 2 && ((b == 0) && (x == 0))) from rfl]
  simp only [Bool.false_or, Bool.true_and, Bool.and_assoc]
theorem ins_stand31 (n ce : Int) (ki : List Int) (a b x : Int) : (plainB n ce (31 : Int) a b x || syncB ki (31 : Int) a b x) = ((opsF (31 : Int)).2.2.2 && standB n ce ki (opsF (31 : Int)).1 a && standB n ce ki (opsF (31 : Int)).2.1 b && standB n ce ki (opsF (31 : Int)).2.2.1 x) := by
  show (plainB n ce (31 : Int) a b x || syncB ki (31 : Int) a b x) = (true && objB ki a 2 && (b == 0) && (x == 0))
  rw [show plainB n ce (31 : Int) a b x = false from rfl, show syncB ki (31 : Int) a b x = (objB ki a 2 && ((b == 0) && (x == 0))) from rfl]
  simp only [Bool.false_or, Bool.true_and, Bool.and_assoc]
theorem ins_stand32 (n ce : Int) (ki : List Int) (a b x : Int) : (plainB n ce (32 : Int) a b x || syncB ki (32 : Int) a b x) = ((opsF (32 : Int)).2.2.2 && standB n ce ki (opsF (32 : Int)).1 a && standB n ce ki (opsF (32 : Int)).2.1 b && standB n ce ki (opsF (32 : Int)).2.2.1 x) := by
  show (plainB n ce (32 : Int) a b x || syncB ki (32 : Int) a b x) = (true && objB ki a 3 && inB b 4 && (x == 0))
  rw [show plainB n ce (32 : Int) a b x = false from rfl, show syncB ki (32 : Int) a b x = (objB ki a 3 && (inB b 4 && (x == 0))) from rfl]
  simp only [Bool.false_or, Bool.true_and, Bool.and_assoc]
theorem ins_stand33 (n ce : Int) (ki : List Int) (a b x : Int) : (plainB n ce (33 : Int) a b x || syncB ki (33 : Int) a b x) = ((opsF (33 : Int)).2.2.2 && standB n ce ki (opsF (33 : Int)).1 a && standB n ce ki (opsF (33 : Int)).2.1 b && standB n ce ki (opsF (33 : Int)).2.2.1 x) := by
  show (plainB n ce (33 : Int) a b x || syncB ki (33 : Int) a b x) = (true && objB ki a 3 && (b == 0) && (x == 0))
  rw [show plainB n ce (33 : Int) a b x = false from rfl, show syncB ki (33 : Int) a b x = (objB ki a 3 && ((b == 0) && (x == 0))) from rfl]
  simp only [Bool.false_or, Bool.true_and, Bool.and_assoc]
theorem ins_stand34 (n ce : Int) (ki : List Int) (a b x : Int) : (plainB n ce (34 : Int) a b x || syncB ki (34 : Int) a b x) = ((opsF (34 : Int)).2.2.2 && standB n ce ki (opsF (34 : Int)).1 a && standB n ce ki (opsF (34 : Int)).2.1 b && standB n ce ki (opsF (34 : Int)).2.2.1 x) := by
  show (plainB n ce (34 : Int) a b x || syncB ki (34 : Int) a b x) = (true && objB ki a 4 && inB b 4 && (x == 0))
  rw [show plainB n ce (34 : Int) a b x = false from rfl, show syncB ki (34 : Int) a b x = (objB ki a 4 && (inB b 4 && (x == 0))) from rfl]
  simp only [Bool.false_or, Bool.true_and, Bool.and_assoc]
theorem ins_stand35 (n ce : Int) (ki : List Int) (a b x : Int) : (plainB n ce (35 : Int) a b x || syncB ki (35 : Int) a b x) = ((opsF (35 : Int)).2.2.2 && standB n ce ki (opsF (35 : Int)).1 a && standB n ce ki (opsF (35 : Int)).2.1 b && standB n ce ki (opsF (35 : Int)).2.2.1 x) := by
  show (plainB n ce (35 : Int) a b x || syncB ki (35 : Int) a b x) = (true && objB ki a 4 && (b == 0) && (x == 0))
  rw [show plainB n ce (35 : Int) a b x = false from rfl, show syncB ki (35 : Int) a b x = (objB ki a 4 && ((b == 0) && (x == 0))) from rfl]
  simp only [Bool.false_or, Bool.true_and, Bool.and_assoc]
theorem ins_stand36 (n ce : Int) (ki : List Int) (a b x : Int) : (plainB n ce (36 : Int) a b x || syncB ki (36 : Int) a b x) = ((opsF (36 : Int)).2.2.2 && standB n ce ki (opsF (36 : Int)).1 a && standB n ce ki (opsF (36 : Int)).2.1 b && standB n ce ki (opsF (36 : Int)).2.2.1 x) := by
  show (plainB n ce (36 : Int) a b x || syncB ki (36 : Int) a b x) = (true && objB ki a 5 && objB ki b 1 && (x == 0))
  rw [show plainB n ce (36 : Int) a b x = false from rfl, show syncB ki (36 : Int) a b x = (objB ki a 5 && (objB ki b 1 && (x == 0))) from rfl]
  simp only [Bool.false_or, Bool.true_and, Bool.and_assoc]
theorem ins_stand37 (n ce : Int) (ki : List Int) (a b x : Int) : (plainB n ce (37 : Int) a b x || syncB ki (37 : Int) a b x) = ((opsF (37 : Int)).2.2.2 && standB n ce ki (opsF (37 : Int)).1 a && standB n ce ki (opsF (37 : Int)).2.1 b && standB n ce ki (opsF (37 : Int)).2.2.1 x) := by
  show (plainB n ce (37 : Int) a b x || syncB ki (37 : Int) a b x) = (true && objB ki a 5 && (b == 0) && (x == 0))
  rw [show plainB n ce (37 : Int) a b x = false from rfl, show syncB ki (37 : Int) a b x = (objB ki a 5 && ((b == 0) && (x == 0))) from rfl]
  simp only [Bool.false_or, Bool.true_and, Bool.and_assoc]
theorem ins_stand38 (n ce : Int) (ki : List Int) (a b x : Int) : (plainB n ce (38 : Int) a b x || syncB ki (38 : Int) a b x) = ((opsF (38 : Int)).2.2.2 && standB n ce ki (opsF (38 : Int)).1 a && standB n ce ki (opsF (38 : Int)).2.1 b && standB n ce ki (opsF (38 : Int)).2.2.1 x) := by
  show (plainB n ce (38 : Int) a b x || syncB ki (38 : Int) a b x) = (true && objB ki a 5 && (b == 0) && (x == 0))
  rw [show plainB n ce (38 : Int) a b x = false from rfl, show syncB ki (38 : Int) a b x = (objB ki a 5 && ((b == 0) && (x == 0))) from rfl]
  simp only [Bool.false_or, Bool.true_and, Bool.and_assoc]
theorem ins_stand39 (n ce : Int) (ki : List Int) (a b x : Int) : (plainB n ce (39 : Int) a b x || syncB ki (39 : Int) a b x) = ((opsF (39 : Int)).2.2.2 && standB n ce ki (opsF (39 : Int)).1 a && standB n ce ki (opsF (39 : Int)).2.1 b && standB n ce ki (opsF (39 : Int)).2.2.1 x) := by
  show (plainB n ce (39 : Int) a b x || syncB ki (39 : Int) a b x) = (true && objB ki a 6 && inB b 4 && (x == 0))
  rw [show plainB n ce (39 : Int) a b x = false from rfl, show syncB ki (39 : Int) a b x = (objB ki a 6 && (inB b 4 && (x == 0))) from rfl]
  simp only [Bool.false_or, Bool.true_and, Bool.and_assoc]
theorem ins_stand40 (n ce : Int) (ki : List Int) (a b x : Int) : (plainB n ce (40 : Int) a b x || syncB ki (40 : Int) a b x) = ((opsF (40 : Int)).2.2.2 && standB n ce ki (opsF (40 : Int)).1 a && standB n ce ki (opsF (40 : Int)).2.1 b && standB n ce ki (opsF (40 : Int)).2.2.1 x) := by
  show (plainB n ce (40 : Int) a b x || syncB ki (40 : Int) a b x) = (true && objB ki a 6 && inB b 4 && (x == 0))
  rw [show plainB n ce (40 : Int) a b x = false from rfl, show syncB ki (40 : Int) a b x = (objB ki a 6 && (inB b 4 && (x == 0))) from rfl]
  simp only [Bool.false_or, Bool.true_and, Bool.and_assoc]
theorem ins_stand41 (n ce : Int) (ki : List Int) (a b x : Int) : (plainB n ce (41 : Int) a b x || syncB ki (41 : Int) a b x) = ((opsF (41 : Int)).2.2.2 && standB n ce ki (opsF (41 : Int)).1 a && standB n ce ki (opsF (41 : Int)).2.1 b && standB n ce ki (opsF (41 : Int)).2.2.1 x) := by
  show (plainB n ce (41 : Int) a b x || syncB ki (41 : Int) a b x) = (true && inB a 4 && (b == 0) && (x == 0))
  rw [show plainB n ce (41 : Int) a b x = (inB a 4 && ((b == 0) && (x == 0))) from rfl, show syncB ki (41 : Int) a b x = false from rfl]
  simp only [fromB, Bool.or_false, Bool.true_and, Bool.and_assoc]
/-- an instruction is right just if what stands in it may. -/
theorem ins_stand (n ce : Int) (ki : List Int) (o a b x : Int) : (plainB n ce o a b x || syncB ki o a b x) = ((opsF o).2.2.2 && standB n ce ki (opsF o).1 a && standB n ce ki (opsF o).2.1 b && standB n ce ki (opsF o).2.2.1 x) := by
  by_cases h : 0 ≤ o ∧ o ≤ 41
  · obtain ⟨k, rfl⟩ : ∃ k : Nat, o = k := ⟨o.toNat, by omega⟩
    have hk : k ≤ 41 := by omega
    clear h
    have key : ∀ k : Fin 42, (plainB n ce (k.val : Int) a b x || syncB ki (k.val : Int) a b x) = ((opsF (k.val : Int)).2.2.2 && standB n ce ki (opsF (k.val : Int)).1 a && standB n ce ki (opsF (k.val : Int)).2.1 b && standB n ce ki (opsF (k.val : Int)).2.2.1 x) := by
      intro k
      match k with
      | ⟨0, _⟩ => exact ins_stand0 n ce ki a b x
      | ⟨1, _⟩ => exact ins_stand1 n ce ki a b x
      | ⟨2, _⟩ => exact ins_stand2 n ce ki a b x
      | ⟨3, _⟩ => exact ins_stand3 n ce ki a b x
      | ⟨4, _⟩ => exact ins_stand4 n ce ki a b x
      | ⟨5, _⟩ => exact ins_stand5 n ce ki a b x
      | ⟨6, _⟩ => exact ins_stand6 n ce ki a b x
      | ⟨7, _⟩ => exact ins_stand7 n ce ki a b x
      | ⟨8, _⟩ => exact ins_stand8 n ce ki a b x
      | ⟨9, _⟩ => exact ins_stand9 n ce ki a b x
      | ⟨10, _⟩ => exact ins_stand10 n ce ki a b x
      | ⟨11, _⟩ => exact ins_stand11 n ce ki a b x
      | ⟨12, _⟩ => exact ins_stand12 n ce ki a b x
      | ⟨13, _⟩ => exact ins_stand13 n ce ki a b x
      | ⟨14, _⟩ => exact ins_stand14 n ce ki a b x
      | ⟨15, _⟩ => exact ins_stand15 n ce ki a b x
      | ⟨16, _⟩ => exact ins_stand16 n ce ki a b x
      | ⟨17, _⟩ => exact ins_stand17 n ce ki a b x
      | ⟨18, _⟩ => exact ins_stand18 n ce ki a b x
      | ⟨19, _⟩ => exact ins_stand19 n ce ki a b x
      | ⟨20, _⟩ => exact ins_stand20 n ce ki a b x
      | ⟨21, _⟩ => exact ins_stand21 n ce ki a b x
      | ⟨22, _⟩ => exact ins_stand22 n ce ki a b x
      | ⟨23, _⟩ => exact ins_stand23 n ce ki a b x
      | ⟨24, _⟩ => exact ins_stand24 n ce ki a b x
      | ⟨25, _⟩ => exact ins_stand25 n ce ki a b x
      | ⟨26, _⟩ => exact ins_stand26 n ce ki a b x
      | ⟨27, _⟩ => exact ins_stand27 n ce ki a b x
      | ⟨28, _⟩ => exact ins_stand28 n ce ki a b x
      | ⟨29, _⟩ => exact ins_stand29 n ce ki a b x
      | ⟨30, _⟩ => exact ins_stand30 n ce ki a b x
      | ⟨31, _⟩ => exact ins_stand31 n ce ki a b x
      | ⟨32, _⟩ => exact ins_stand32 n ce ki a b x
      | ⟨33, _⟩ => exact ins_stand33 n ce ki a b x
      | ⟨34, _⟩ => exact ins_stand34 n ce ki a b x
      | ⟨35, _⟩ => exact ins_stand35 n ce ki a b x
      | ⟨36, _⟩ => exact ins_stand36 n ce ki a b x
      | ⟨37, _⟩ => exact ins_stand37 n ce ki a b x
      | ⟨38, _⟩ => exact ins_stand38 n ce ki a b x
      | ⟨39, _⟩ => exact ins_stand39 n ce ki a b x
      | ⟨40, _⟩ => exact ins_stand40 n ce ki a b x
      | ⟨41, _⟩ => exact ins_stand41 n ce ki a b x
      | ⟨n + 42, hn⟩ => exact absurd hn (by omega)
    exact key ⟨k, by omega⟩
  · have h1 : plainB n ce o a b x = false := by
      unfold plainB
      rw [if_neg (by omega)]
      rw [if_neg (by omega)]
      rw [if_neg (by omega)]
      rw [if_neg (by omega)]
      rw [if_neg (by omega)]
      rw [if_neg (by omega)]
      rw [if_neg (by omega)]
      rw [if_neg (by omega)]
      rw [if_neg (by omega)]
    have h2 : syncB ki o a b x = false := by
      unfold syncB
      rw [if_neg (by omega)]
      rw [if_neg (by omega)]
      rw [if_neg (by omega)]
      rw [if_neg (by omega)]
      rw [if_neg (by omega)]
      rw [if_neg (by omega)]
      rw [if_neg (by omega)]
      rw [if_neg (by omega)]
      rw [if_neg (by omega)]
    have h3 : opsF o = (0, 0, 0, false) := by
      unfold opsF
      rw [if_neg (by omega)]
      rw [if_neg (by omega)]
      rw [if_neg (by omega)]
      rw [if_neg (by omega)]
      rw [if_neg (by omega)]
      rw [if_neg (by omega)]
      rw [if_neg (by omega)]
      rw [if_neg (by omega)]
      rw [if_neg (by omega)]
      rw [if_neg (by omega)]
      rw [if_neg (by omega)]
      rw [if_neg (by omega)]
      rw [if_neg (by omega)]
      rw [if_neg (by omega)]
      rw [if_neg (by omega)]
      rw [if_neg (by omega)]
      rw [if_neg (by omega)]
      rw [if_neg (by omega)]
    rw [h1, h2, h3]; rfl
theorem place_any (x y : Int) (w : World) :
    Calls Try.prog 24 #[.int .i64 x, .int .i64 y] w (fun e w' => e = .returned (.bool (inB x y)) ∧ w' = w) := by
  by_cases h0 : 0 ≤ x
  · have b0 : decide (0 ≤ x) = true := by simpa using h0
    have HE := Lib.hid (show inB x y = decide (x < y) by unfold inB; rw [b0, Bool.true_and])
    clear h0
    go_enter Try.func24, Try.ntmps24
    go_wp2
    go_ret
    rw [HE.out]
    exact ⟨rfl, rfl⟩
  · have b0 : decide (0 ≤ x) = false := by simpa using h0
    have HE := Lib.hid (show inB x y = false by unfold inB; rw [b0, Bool.false_and])
    clear h0
    go_enter Try.func24, Try.ntmps24
    go_wp2
    go_ret
    rw [HE.out]
    exact ⟨rfl, rfl⟩
theorem from_any (l x m : Int) (w : World) :
    Calls Try.prog 43 #[.int .i64 l, .int .i64 x, .int .i64 m] w (fun e w' => e = .returned (.bool (fromB l x m)) ∧ w' = w) := by
  by_cases h0 : l ≤ x
  · have b0 : decide (l ≤ x) = true := by simpa using h0
    have HE := Lib.hid (show fromB l x m = decide (x ≤ m) by unfold fromB; rw [b0, Bool.true_and])
    clear h0
    go_enter Try.func43, Try.ntmps43
    go_wp2
    go_ret
    rw [HE.out]
    exact ⟨rfl, rfl⟩
  · have b0 : decide (l ≤ x) = false := by simpa using h0
    have HE := Lib.hid (show fromB l x m = false by unfold fromB; rw [b0, Bool.false_and])
    clear h0
    go_enter Try.func43, Try.ntmps43
    go_wp2
    go_ret
    rw [HE.out]
    exact ⟨rfl, rfl⟩
theorem last_any (o : Int) (w : World) :
    Calls Try.prog 46 #[.int .i64 o] w (fun e w' => e = .returned (.bool (decide (lastOk o))) ∧ w' = w) := by
  by_cases ho0 : o = 0
  · subst ho0
    have HE := Lib.hid (show decide (lastOk 0) = true from rfl)
    go_enter Try.func46, Try.ntmps46
    go_wp2
    go_ret
    rw [HE.out]
    exact ⟨rfl, rfl⟩
  have hn0 : (o == 0) = false := by simpa using ho0
  by_cases ho6 : o = 6
  · subst ho6
    have HE := Lib.hid (show decide (lastOk 6) = true from rfl)
    go_enter Try.func46, Try.ntmps46
    go_wp2
    go_ret
    rw [HE.out]
    exact ⟨rfl, rfl⟩
  have hn6 : (o == 6) = false := by simpa using ho6
  by_cases ho24 : o = 24
  · subst ho24
    have HE := Lib.hid (show decide (lastOk 24) = true from rfl)
    go_enter Try.func46, Try.ntmps46
    go_wp2
    go_ret
    rw [HE.out]
    exact ⟨rfl, rfl⟩
  have hn24 : (o == 24) = false := by simpa using ho24
  have HE := Lib.hid (show decide (lastOk o) = false from decide_eq_false (by unfold lastOk; omega))
  clear ho0 ho6 ho24
  go_enter Try.func46, Try.ntmps46
  go_wp2
  go_ret
  rw [HE.out]
  exact ⟨rfl, rfl⟩
theorem size_any (k z : Int) (w : World) :
    Calls Try.prog 45 #[.int .i64 k, .int .i64 z] w (fun e w' => e = .returned (.bool (decide (kindOk k z))) ∧ w' = w) := by
  by_cases h6 : k = 6
  · subst h6
    have FF := Lib.hid (fun (W : World) => from_any 1 z 1073741824 W)
    have HE := Lib.hid (show decide (kindOk 6 z) = fromB 1 z 1073741824 from by
      unfold kindOk fromB
      rw [← Bool.decide_and]
      exact decide_eq_decide.2 ⟨fun h => by omega, fun h => by omega⟩)
    go_enter Try.func45, Try.ntmps45
    go_wp2_with fail
    refine (FF.out _).mono ?_
    rintro e w1 ⟨rfl, rfl⟩
    go_wp2
    go_ret
    rw [HE.out]
    exact ⟨rfl, rfl⟩
  have hn6 : (k == 6) = false := by simpa using h6
  have FF := fun (W : World) => from_any 1 k 6 W
  cases hf : fromB 1 k 6
  · rw [hf] at FF
    replace FF := Lib.hid FF
    have HE := Lib.hid (show decide (kindOk k z) = false from decide_eq_false (fun h => by have : fromB 1 k 6 = true := fromB_iff.2 ⟨h.1, h.2.1⟩; rw [hf] at this; cases this))
    clear hf h6
    go_enter Try.func45, Try.ntmps45
    go_wp2_with fail
    refine (FF.out _).mono ?_
    rintro e w1 ⟨rfl, rfl⟩
    go_wp2
    go_ret
    rw [HE.out]
    exact ⟨rfl, rfl⟩
  · rw [hf] at FF
    replace FF := Lib.hid FF
    have HE := Lib.hid (show decide (kindOk k z) = (z == 0) from by
      have h := fromB_iff.1 hf
      by_cases hz : z = 0
      · subst hz; simp [kindOk]; omega
      · rw [show (z == 0) = false by simpa using hz]; exact decide_eq_false (fun h2 => hz (h2.2.2.2 h6)))
    clear hf h6
    go_enter Try.func45, Try.ntmps45
    go_wp2_with fail
    refine (FF.out _).mono ?_
    rintro e w1 ⟨rfl, rfl⟩
    go_wp2
    go_ret
    rw [HE.out]
    exact ⟨rfl, rfl⟩
set_option maxRecDepth 100000 in
set_option maxHeartbeats 16000000 in
theorem operands_any (o : Int) (w : World) :
    Calls Try.prog 25 #[.int .i64 o] w (fun e w' => e = .returned (.tuple #[.agg #[.int .i64 (opsF o).1, .int .i64 (opsF o).2.1, .int .i64 (opsF o).2.2.1], .bool (opsF o).2.2.2]) ∧ Below w.heap.size w w') := by
  obtain ⟨v1, hv1⟩ : ∃ W, w.alloc (.cells #[.int .i64 0, .int .i64 0, .int .i64 0] 51) = W := ⟨_, rfl⟩
  have fr1 : Fr w v1 w.heap.size [.cells #[.int .i64 0, .int .i64 0, .int .i64 0] 51] := hv1 ▸ Fr.first w _
  have z1 : v1.heap.size = w.heap.size + 1 := by rw [← hv1, Fr.size1]
  generalize hq : w.heap.size = q at *
  have FR := Lib.hid fr1
  clear fr1
  have ge0 := FR.out.sz
  by_cases ho0 : o = 0
  · subst ho0
    go_enter Try.func25, Try.ntmps25
    have c00 : v1.cell? ⟨q, 0, none⟩ = some (.int .i64 0) := FR.out.cell 0 0 rfl rfl rfl
    have f00 : v1.frozen? ⟨q, 0, none⟩ = false := FR.out.frozen 0 0 rfl rfl
    have c01 : v1.cell? ⟨q, 1, none⟩ = some (.int .i64 0) := FR.out.cell 0 1 rfl rfl rfl
    have f01 : v1.frozen? ⟨q, 1, none⟩ = false := FR.out.frozen 0 1 rfl rfl
    have c02 : v1.cell? ⟨q, 2, none⟩ = some (.int .i64 0) := FR.out.cell 0 2 rfl rfl rfl
    have f02 : v1.frozen? ⟨q, 2, none⟩ = false := FR.out.frozen 0 2 rfl rfl
    go_wp2
    have FZ : Fr w (((v1.setCell ⟨q, 0, none⟩ (.int .i64 0)).setCell ⟨q, 1, none⟩ (.int .i64 0)).setCell ⟨q, 2, none⟩ (.int .i64 0)) q [.cells #[.int .i64 0, .int .i64 0, .int .i64 0] 51] := (((FR.out.set 0 0 rfl rfl (.int .i64 0)).set 0 1 rfl rfl (.int .i64 0)).set 0 2 rfl rfl (.int .i64 0))
    refine bodyPost_ret (res_cs Try.results25 (by rfl) (FZ.load 0 rfl rfl Try.underlying51 (by kernel_rfl))) rfl ?_
    exact ⟨rfl, FZ.bel⟩
  have hn0 : (o == 0) = false := by simpa using ho0
  replace ho0 := Lib.hid ho0
  by_cases ho1 : o = 1
  · subst ho1
    go_enter Try.func25, Try.ntmps25
    have c00 : v1.cell? ⟨q, 0, none⟩ = some (.int .i64 0) := FR.out.cell 0 0 rfl rfl rfl
    have f00 : v1.frozen? ⟨q, 0, none⟩ = false := FR.out.frozen 0 0 rfl rfl
    have c01 : v1.cell? ⟨q, 1, none⟩ = some (.int .i64 0) := FR.out.cell 0 1 rfl rfl rfl
    have f01 : v1.frozen? ⟨q, 1, none⟩ = false := FR.out.frozen 0 1 rfl rfl
    have c02 : v1.cell? ⟨q, 2, none⟩ = some (.int .i64 0) := FR.out.cell 0 2 rfl rfl rfl
    have f02 : v1.frozen? ⟨q, 2, none⟩ = false := FR.out.frozen 0 2 rfl rfl
    go_wp2
    have FZ : Fr w (((v1.setCell ⟨q, 0, none⟩ (.int .i64 1)).setCell ⟨q, 1, none⟩ (.int .i64 2)).setCell ⟨q, 2, none⟩ (.int .i64 0)) q [.cells #[.int .i64 1, .int .i64 2, .int .i64 0] 51] := (((FR.out.set 0 0 rfl rfl (.int .i64 1)).set 0 1 rfl rfl (.int .i64 2)).set 0 2 rfl rfl (.int .i64 0))
    refine bodyPost_ret (res_cs Try.results25 (by rfl) (FZ.load 0 rfl rfl Try.underlying51 (by kernel_rfl))) rfl ?_
    exact ⟨rfl, FZ.bel⟩
  have hn1 : (o == 1) = false := by simpa using ho1
  replace ho1 := Lib.hid ho1
  by_cases ho2 : o = 2
  · subst ho2
    go_enter Try.func25, Try.ntmps25
    have c00 : v1.cell? ⟨q, 0, none⟩ = some (.int .i64 0) := FR.out.cell 0 0 rfl rfl rfl
    have f00 : v1.frozen? ⟨q, 0, none⟩ = false := FR.out.frozen 0 0 rfl rfl
    have c01 : v1.cell? ⟨q, 1, none⟩ = some (.int .i64 0) := FR.out.cell 0 1 rfl rfl rfl
    have f01 : v1.frozen? ⟨q, 1, none⟩ = false := FR.out.frozen 0 1 rfl rfl
    have c02 : v1.cell? ⟨q, 2, none⟩ = some (.int .i64 0) := FR.out.cell 0 2 rfl rfl rfl
    have f02 : v1.frozen? ⟨q, 2, none⟩ = false := FR.out.frozen 0 2 rfl rfl
    go_wp2
    have FZ : Fr w (((v1.setCell ⟨q, 0, none⟩ (.int .i64 1)).setCell ⟨q, 1, none⟩ (.int .i64 1)).setCell ⟨q, 2, none⟩ (.int .i64 0)) q [.cells #[.int .i64 1, .int .i64 1, .int .i64 0] 51] := (((FR.out.set 0 0 rfl rfl (.int .i64 1)).set 0 1 rfl rfl (.int .i64 1)).set 0 2 rfl rfl (.int .i64 0))
    refine bodyPost_ret (res_cs Try.results25 (by rfl) (FZ.load 0 rfl rfl Try.underlying51 (by kernel_rfl))) rfl ?_
    exact ⟨rfl, FZ.bel⟩
  have hn2 : (o == 2) = false := by simpa using ho2
  replace ho2 := Lib.hid ho2
  by_cases ho3 : o = 3
  · subst ho3
    go_enter Try.func25, Try.ntmps25
    have c00 : v1.cell? ⟨q, 0, none⟩ = some (.int .i64 0) := FR.out.cell 0 0 rfl rfl rfl
    have f00 : v1.frozen? ⟨q, 0, none⟩ = false := FR.out.frozen 0 0 rfl rfl
    have c01 : v1.cell? ⟨q, 1, none⟩ = some (.int .i64 0) := FR.out.cell 0 1 rfl rfl rfl
    have f01 : v1.frozen? ⟨q, 1, none⟩ = false := FR.out.frozen 0 1 rfl rfl
    have c02 : v1.cell? ⟨q, 2, none⟩ = some (.int .i64 0) := FR.out.cell 0 2 rfl rfl rfl
    have f02 : v1.frozen? ⟨q, 2, none⟩ = false := FR.out.frozen 0 2 rfl rfl
    go_wp2
    have FZ : Fr w (((v1.setCell ⟨q, 0, none⟩ (.int .i64 1)).setCell ⟨q, 1, none⟩ (.int .i64 1)).setCell ⟨q, 2, none⟩ (.int .i64 1)) q [.cells #[.int .i64 1, .int .i64 1, .int .i64 1] 51] := (((FR.out.set 0 0 rfl rfl (.int .i64 1)).set 0 1 rfl rfl (.int .i64 1)).set 0 2 rfl rfl (.int .i64 1))
    refine bodyPost_ret (res_cs Try.results25 (by rfl) (FZ.load 0 rfl rfl Try.underlying51 (by kernel_rfl))) rfl ?_
    exact ⟨rfl, FZ.bel⟩
  have hn3 : (o == 3) = false := by simpa using ho3
  replace ho3 := Lib.hid ho3
  by_cases ho4 : o = 4
  · subst ho4
    go_enter Try.func25, Try.ntmps25
    have c00 : v1.cell? ⟨q, 0, none⟩ = some (.int .i64 0) := FR.out.cell 0 0 rfl rfl rfl
    have f00 : v1.frozen? ⟨q, 0, none⟩ = false := FR.out.frozen 0 0 rfl rfl
    have c01 : v1.cell? ⟨q, 1, none⟩ = some (.int .i64 0) := FR.out.cell 0 1 rfl rfl rfl
    have f01 : v1.frozen? ⟨q, 1, none⟩ = false := FR.out.frozen 0 1 rfl rfl
    have c02 : v1.cell? ⟨q, 2, none⟩ = some (.int .i64 0) := FR.out.cell 0 2 rfl rfl rfl
    have f02 : v1.frozen? ⟨q, 2, none⟩ = false := FR.out.frozen 0 2 rfl rfl
    go_wp2
    have FZ : Fr w (((v1.setCell ⟨q, 0, none⟩ (.int .i64 1)).setCell ⟨q, 1, none⟩ (.int .i64 1)).setCell ⟨q, 2, none⟩ (.int .i64 1)) q [.cells #[.int .i64 1, .int .i64 1, .int .i64 1] 51] := (((FR.out.set 0 0 rfl rfl (.int .i64 1)).set 0 1 rfl rfl (.int .i64 1)).set 0 2 rfl rfl (.int .i64 1))
    refine bodyPost_ret (res_cs Try.results25 (by rfl) (FZ.load 0 rfl rfl Try.underlying51 (by kernel_rfl))) rfl ?_
    exact ⟨rfl, FZ.bel⟩
  have hn4 : (o == 4) = false := by simpa using ho4
  replace ho4 := Lib.hid ho4
  by_cases ho5 : o = 5
  · subst ho5
    go_enter Try.func25, Try.ntmps25
    have c00 : v1.cell? ⟨q, 0, none⟩ = some (.int .i64 0) := FR.out.cell 0 0 rfl rfl rfl
    have f00 : v1.frozen? ⟨q, 0, none⟩ = false := FR.out.frozen 0 0 rfl rfl
    have c01 : v1.cell? ⟨q, 1, none⟩ = some (.int .i64 0) := FR.out.cell 0 1 rfl rfl rfl
    have f01 : v1.frozen? ⟨q, 1, none⟩ = false := FR.out.frozen 0 1 rfl rfl
    have c02 : v1.cell? ⟨q, 2, none⟩ = some (.int .i64 0) := FR.out.cell 0 2 rfl rfl rfl
    have f02 : v1.frozen? ⟨q, 2, none⟩ = false := FR.out.frozen 0 2 rfl rfl
    go_wp2
    have FZ : Fr w (((v1.setCell ⟨q, 0, none⟩ (.int .i64 1)).setCell ⟨q, 1, none⟩ (.int .i64 1)).setCell ⟨q, 2, none⟩ (.int .i64 1)) q [.cells #[.int .i64 1, .int .i64 1, .int .i64 1] 51] := (((FR.out.set 0 0 rfl rfl (.int .i64 1)).set 0 1 rfl rfl (.int .i64 1)).set 0 2 rfl rfl (.int .i64 1))
    refine bodyPost_ret (res_cs Try.results25 (by rfl) (FZ.load 0 rfl rfl Try.underlying51 (by kernel_rfl))) rfl ?_
    exact ⟨rfl, FZ.bel⟩
  have hn5 : (o == 5) = false := by simpa using ho5
  replace ho5 := Lib.hid ho5
  by_cases ho6 : o = 6
  · subst ho6
    go_enter Try.func25, Try.ntmps25
    have c00 : v1.cell? ⟨q, 0, none⟩ = some (.int .i64 0) := FR.out.cell 0 0 rfl rfl rfl
    have f00 : v1.frozen? ⟨q, 0, none⟩ = false := FR.out.frozen 0 0 rfl rfl
    have c01 : v1.cell? ⟨q, 1, none⟩ = some (.int .i64 0) := FR.out.cell 0 1 rfl rfl rfl
    have f01 : v1.frozen? ⟨q, 1, none⟩ = false := FR.out.frozen 0 1 rfl rfl
    have c02 : v1.cell? ⟨q, 2, none⟩ = some (.int .i64 0) := FR.out.cell 0 2 rfl rfl rfl
    have f02 : v1.frozen? ⟨q, 2, none⟩ = false := FR.out.frozen 0 2 rfl rfl
    go_wp2
    have FZ : Fr w (((v1.setCell ⟨q, 0, none⟩ (.int .i64 3)).setCell ⟨q, 1, none⟩ (.int .i64 0)).setCell ⟨q, 2, none⟩ (.int .i64 0)) q [.cells #[.int .i64 3, .int .i64 0, .int .i64 0] 51] := (((FR.out.set 0 0 rfl rfl (.int .i64 3)).set 0 1 rfl rfl (.int .i64 0)).set 0 2 rfl rfl (.int .i64 0))
    refine bodyPost_ret (res_cs Try.results25 (by rfl) (FZ.load 0 rfl rfl Try.underlying51 (by kernel_rfl))) rfl ?_
    exact ⟨rfl, FZ.bel⟩
  have hn6 : (o == 6) = false := by simpa using ho6
  replace ho6 := Lib.hid ho6
  by_cases ho7 : o = 7
  · subst ho7
    go_enter Try.func25, Try.ntmps25
    have c00 : v1.cell? ⟨q, 0, none⟩ = some (.int .i64 0) := FR.out.cell 0 0 rfl rfl rfl
    have f00 : v1.frozen? ⟨q, 0, none⟩ = false := FR.out.frozen 0 0 rfl rfl
    have c01 : v1.cell? ⟨q, 1, none⟩ = some (.int .i64 0) := FR.out.cell 0 1 rfl rfl rfl
    have f01 : v1.frozen? ⟨q, 1, none⟩ = false := FR.out.frozen 0 1 rfl rfl
    have c02 : v1.cell? ⟨q, 2, none⟩ = some (.int .i64 0) := FR.out.cell 0 2 rfl rfl rfl
    have f02 : v1.frozen? ⟨q, 2, none⟩ = false := FR.out.frozen 0 2 rfl rfl
    go_wp2
    have FZ : Fr w (((v1.setCell ⟨q, 0, none⟩ (.int .i64 1)).setCell ⟨q, 1, none⟩ (.int .i64 3)).setCell ⟨q, 2, none⟩ (.int .i64 0)) q [.cells #[.int .i64 1, .int .i64 3, .int .i64 0] 51] := (((FR.out.set 0 0 rfl rfl (.int .i64 1)).set 0 1 rfl rfl (.int .i64 3)).set 0 2 rfl rfl (.int .i64 0))
    refine bodyPost_ret (res_cs Try.results25 (by rfl) (FZ.load 0 rfl rfl Try.underlying51 (by kernel_rfl))) rfl ?_
    exact ⟨rfl, FZ.bel⟩
  have hn7 : (o == 7) = false := by simpa using ho7
  replace ho7 := Lib.hid ho7
  by_cases ho8 : o = 8
  · subst ho8
    go_enter Try.func25, Try.ntmps25
    have c00 : v1.cell? ⟨q, 0, none⟩ = some (.int .i64 0) := FR.out.cell 0 0 rfl rfl rfl
    have f00 : v1.frozen? ⟨q, 0, none⟩ = false := FR.out.frozen 0 0 rfl rfl
    have c01 : v1.cell? ⟨q, 1, none⟩ = some (.int .i64 0) := FR.out.cell 0 1 rfl rfl rfl
    have f01 : v1.frozen? ⟨q, 1, none⟩ = false := FR.out.frozen 0 1 rfl rfl
    have c02 : v1.cell? ⟨q, 2, none⟩ = some (.int .i64 0) := FR.out.cell 0 2 rfl rfl rfl
    have f02 : v1.frozen? ⟨q, 2, none⟩ = false := FR.out.frozen 0 2 rfl rfl
    go_wp2
    have FZ : Fr w (((v1.setCell ⟨q, 0, none⟩ (.int .i64 1)).setCell ⟨q, 1, none⟩ (.int .i64 4)).setCell ⟨q, 2, none⟩ (.int .i64 0)) q [.cells #[.int .i64 1, .int .i64 4, .int .i64 0] 51] := (((FR.out.set 0 0 rfl rfl (.int .i64 1)).set 0 1 rfl rfl (.int .i64 4)).set 0 2 rfl rfl (.int .i64 0))
    refine bodyPost_ret (res_cs Try.results25 (by rfl) (FZ.load 0 rfl rfl Try.underlying51 (by kernel_rfl))) rfl ?_
    exact ⟨rfl, FZ.bel⟩
  have hn8 : (o == 8) = false := by simpa using ho8
  replace ho8 := Lib.hid ho8
  by_cases ho9 : o = 9
  · subst ho9
    go_enter Try.func25, Try.ntmps25
    have c00 : v1.cell? ⟨q, 0, none⟩ = some (.int .i64 0) := FR.out.cell 0 0 rfl rfl rfl
    have f00 : v1.frozen? ⟨q, 0, none⟩ = false := FR.out.frozen 0 0 rfl rfl
    have c01 : v1.cell? ⟨q, 1, none⟩ = some (.int .i64 0) := FR.out.cell 0 1 rfl rfl rfl
    have f01 : v1.frozen? ⟨q, 1, none⟩ = false := FR.out.frozen 0 1 rfl rfl
    have c02 : v1.cell? ⟨q, 2, none⟩ = some (.int .i64 0) := FR.out.cell 0 2 rfl rfl rfl
    have f02 : v1.frozen? ⟨q, 2, none⟩ = false := FR.out.frozen 0 2 rfl rfl
    go_wp2
    have FZ : Fr w (((v1.setCell ⟨q, 0, none⟩ (.int .i64 1)).setCell ⟨q, 1, none⟩ (.int .i64 4)).setCell ⟨q, 2, none⟩ (.int .i64 0)) q [.cells #[.int .i64 1, .int .i64 4, .int .i64 0] 51] := (((FR.out.set 0 0 rfl rfl (.int .i64 1)).set 0 1 rfl rfl (.int .i64 4)).set 0 2 rfl rfl (.int .i64 0))
    refine bodyPost_ret (res_cs Try.results25 (by rfl) (FZ.load 0 rfl rfl Try.underlying51 (by kernel_rfl))) rfl ?_
    exact ⟨rfl, FZ.bel⟩
  have hn9 : (o == 9) = false := by simpa using ho9
  replace ho9 := Lib.hid ho9
  by_cases ho10 : o = 10
  · subst ho10
    go_enter Try.func25, Try.ntmps25
    have c00 : v1.cell? ⟨q, 0, none⟩ = some (.int .i64 0) := FR.out.cell 0 0 rfl rfl rfl
    have f00 : v1.frozen? ⟨q, 0, none⟩ = false := FR.out.frozen 0 0 rfl rfl
    have c01 : v1.cell? ⟨q, 1, none⟩ = some (.int .i64 0) := FR.out.cell 0 1 rfl rfl rfl
    have f01 : v1.frozen? ⟨q, 1, none⟩ = false := FR.out.frozen 0 1 rfl rfl
    have c02 : v1.cell? ⟨q, 2, none⟩ = some (.int .i64 0) := FR.out.cell 0 2 rfl rfl rfl
    have f02 : v1.frozen? ⟨q, 2, none⟩ = false := FR.out.frozen 0 2 rfl rfl
    go_wp2
    have FZ : Fr w (((v1.setCell ⟨q, 0, none⟩ (.int .i64 1)).setCell ⟨q, 1, none⟩ (.int .i64 4)).setCell ⟨q, 2, none⟩ (.int .i64 1)) q [.cells #[.int .i64 1, .int .i64 4, .int .i64 1] 51] := (((FR.out.set 0 0 rfl rfl (.int .i64 1)).set 0 1 rfl rfl (.int .i64 4)).set 0 2 rfl rfl (.int .i64 1))
    refine bodyPost_ret (res_cs Try.results25 (by rfl) (FZ.load 0 rfl rfl Try.underlying51 (by kernel_rfl))) rfl ?_
    exact ⟨rfl, FZ.bel⟩
  have hn10 : (o == 10) = false := by simpa using ho10
  replace ho10 := Lib.hid ho10
  by_cases ho11 : o = 11
  · subst ho11
    go_enter Try.func25, Try.ntmps25
    have c00 : v1.cell? ⟨q, 0, none⟩ = some (.int .i64 0) := FR.out.cell 0 0 rfl rfl rfl
    have f00 : v1.frozen? ⟨q, 0, none⟩ = false := FR.out.frozen 0 0 rfl rfl
    have c01 : v1.cell? ⟨q, 1, none⟩ = some (.int .i64 0) := FR.out.cell 0 1 rfl rfl rfl
    have f01 : v1.frozen? ⟨q, 1, none⟩ = false := FR.out.frozen 0 1 rfl rfl
    have c02 : v1.cell? ⟨q, 2, none⟩ = some (.int .i64 0) := FR.out.cell 0 2 rfl rfl rfl
    have f02 : v1.frozen? ⟨q, 2, none⟩ = false := FR.out.frozen 0 2 rfl rfl
    go_wp2
    have FZ : Fr w (((v1.setCell ⟨q, 0, none⟩ (.int .i64 1)).setCell ⟨q, 1, none⟩ (.int .i64 4)).setCell ⟨q, 2, none⟩ (.int .i64 0)) q [.cells #[.int .i64 1, .int .i64 4, .int .i64 0] 51] := (((FR.out.set 0 0 rfl rfl (.int .i64 1)).set 0 1 rfl rfl (.int .i64 4)).set 0 2 rfl rfl (.int .i64 0))
    refine bodyPost_ret (res_cs Try.results25 (by rfl) (FZ.load 0 rfl rfl Try.underlying51 (by kernel_rfl))) rfl ?_
    exact ⟨rfl, FZ.bel⟩
  have hn11 : (o == 11) = false := by simpa using ho11
  replace ho11 := Lib.hid ho11
  by_cases ho12 : o = 12
  · subst ho12
    go_enter Try.func25, Try.ntmps25
    have c00 : v1.cell? ⟨q, 0, none⟩ = some (.int .i64 0) := FR.out.cell 0 0 rfl rfl rfl
    have f00 : v1.frozen? ⟨q, 0, none⟩ = false := FR.out.frozen 0 0 rfl rfl
    have c01 : v1.cell? ⟨q, 1, none⟩ = some (.int .i64 0) := FR.out.cell 0 1 rfl rfl rfl
    have f01 : v1.frozen? ⟨q, 1, none⟩ = false := FR.out.frozen 0 1 rfl rfl
    have c02 : v1.cell? ⟨q, 2, none⟩ = some (.int .i64 0) := FR.out.cell 0 2 rfl rfl rfl
    have f02 : v1.frozen? ⟨q, 2, none⟩ = false := FR.out.frozen 0 2 rfl rfl
    go_wp2
    have FZ : Fr w (((v1.setCell ⟨q, 0, none⟩ (.int .i64 1)).setCell ⟨q, 1, none⟩ (.int .i64 1)).setCell ⟨q, 2, none⟩ (.int .i64 1)) q [.cells #[.int .i64 1, .int .i64 1, .int .i64 1] 51] := (((FR.out.set 0 0 rfl rfl (.int .i64 1)).set 0 1 rfl rfl (.int .i64 1)).set 0 2 rfl rfl (.int .i64 1))
    refine bodyPost_ret (res_cs Try.results25 (by rfl) (FZ.load 0 rfl rfl Try.underlying51 (by kernel_rfl))) rfl ?_
    exact ⟨rfl, FZ.bel⟩
  have hn12 : (o == 12) = false := by simpa using ho12
  replace ho12 := Lib.hid ho12
  by_cases ho13 : o = 13
  · subst ho13
    go_enter Try.func25, Try.ntmps25
    have c00 : v1.cell? ⟨q, 0, none⟩ = some (.int .i64 0) := FR.out.cell 0 0 rfl rfl rfl
    have f00 : v1.frozen? ⟨q, 0, none⟩ = false := FR.out.frozen 0 0 rfl rfl
    have c01 : v1.cell? ⟨q, 1, none⟩ = some (.int .i64 0) := FR.out.cell 0 1 rfl rfl rfl
    have f01 : v1.frozen? ⟨q, 1, none⟩ = false := FR.out.frozen 0 1 rfl rfl
    have c02 : v1.cell? ⟨q, 2, none⟩ = some (.int .i64 0) := FR.out.cell 0 2 rfl rfl rfl
    have f02 : v1.frozen? ⟨q, 2, none⟩ = false := FR.out.frozen 0 2 rfl rfl
    go_wp2
    have FZ : Fr w (((v1.setCell ⟨q, 0, none⟩ (.int .i64 1)).setCell ⟨q, 1, none⟩ (.int .i64 1)).setCell ⟨q, 2, none⟩ (.int .i64 1)) q [.cells #[.int .i64 1, .int .i64 1, .int .i64 1] 51] := (((FR.out.set 0 0 rfl rfl (.int .i64 1)).set 0 1 rfl rfl (.int .i64 1)).set 0 2 rfl rfl (.int .i64 1))
    refine bodyPost_ret (res_cs Try.results25 (by rfl) (FZ.load 0 rfl rfl Try.underlying51 (by kernel_rfl))) rfl ?_
    exact ⟨rfl, FZ.bel⟩
  have hn13 : (o == 13) = false := by simpa using ho13
  replace ho13 := Lib.hid ho13
  by_cases ho14 : o = 14
  · subst ho14
    go_enter Try.func25, Try.ntmps25
    have c00 : v1.cell? ⟨q, 0, none⟩ = some (.int .i64 0) := FR.out.cell 0 0 rfl rfl rfl
    have f00 : v1.frozen? ⟨q, 0, none⟩ = false := FR.out.frozen 0 0 rfl rfl
    have c01 : v1.cell? ⟨q, 1, none⟩ = some (.int .i64 0) := FR.out.cell 0 1 rfl rfl rfl
    have f01 : v1.frozen? ⟨q, 1, none⟩ = false := FR.out.frozen 0 1 rfl rfl
    have c02 : v1.cell? ⟨q, 2, none⟩ = some (.int .i64 0) := FR.out.cell 0 2 rfl rfl rfl
    have f02 : v1.frozen? ⟨q, 2, none⟩ = false := FR.out.frozen 0 2 rfl rfl
    go_wp2
    have FZ : Fr w (((v1.setCell ⟨q, 0, none⟩ (.int .i64 1)).setCell ⟨q, 1, none⟩ (.int .i64 1)).setCell ⟨q, 2, none⟩ (.int .i64 1)) q [.cells #[.int .i64 1, .int .i64 1, .int .i64 1] 51] := (((FR.out.set 0 0 rfl rfl (.int .i64 1)).set 0 1 rfl rfl (.int .i64 1)).set 0 2 rfl rfl (.int .i64 1))
    refine bodyPost_ret (res_cs Try.results25 (by rfl) (FZ.load 0 rfl rfl Try.underlying51 (by kernel_rfl))) rfl ?_
    exact ⟨rfl, FZ.bel⟩
  have hn14 : (o == 14) = false := by simpa using ho14
  replace ho14 := Lib.hid ho14
  by_cases ho15 : o = 15
  · subst ho15
    go_enter Try.func25, Try.ntmps25
    have c00 : v1.cell? ⟨q, 0, none⟩ = some (.int .i64 0) := FR.out.cell 0 0 rfl rfl rfl
    have f00 : v1.frozen? ⟨q, 0, none⟩ = false := FR.out.frozen 0 0 rfl rfl
    have c01 : v1.cell? ⟨q, 1, none⟩ = some (.int .i64 0) := FR.out.cell 0 1 rfl rfl rfl
    have f01 : v1.frozen? ⟨q, 1, none⟩ = false := FR.out.frozen 0 1 rfl rfl
    have c02 : v1.cell? ⟨q, 2, none⟩ = some (.int .i64 0) := FR.out.cell 0 2 rfl rfl rfl
    have f02 : v1.frozen? ⟨q, 2, none⟩ = false := FR.out.frozen 0 2 rfl rfl
    go_wp2
    have FZ : Fr w (((v1.setCell ⟨q, 0, none⟩ (.int .i64 1)).setCell ⟨q, 1, none⟩ (.int .i64 1)).setCell ⟨q, 2, none⟩ (.int .i64 1)) q [.cells #[.int .i64 1, .int .i64 1, .int .i64 1] 51] := (((FR.out.set 0 0 rfl rfl (.int .i64 1)).set 0 1 rfl rfl (.int .i64 1)).set 0 2 rfl rfl (.int .i64 1))
    refine bodyPost_ret (res_cs Try.results25 (by rfl) (FZ.load 0 rfl rfl Try.underlying51 (by kernel_rfl))) rfl ?_
    exact ⟨rfl, FZ.bel⟩
  have hn15 : (o == 15) = false := by simpa using ho15
  replace ho15 := Lib.hid ho15
  by_cases ho16 : o = 16
  · subst ho16
    go_enter Try.func25, Try.ntmps25
    have c00 : v1.cell? ⟨q, 0, none⟩ = some (.int .i64 0) := FR.out.cell 0 0 rfl rfl rfl
    have f00 : v1.frozen? ⟨q, 0, none⟩ = false := FR.out.frozen 0 0 rfl rfl
    have c01 : v1.cell? ⟨q, 1, none⟩ = some (.int .i64 0) := FR.out.cell 0 1 rfl rfl rfl
    have f01 : v1.frozen? ⟨q, 1, none⟩ = false := FR.out.frozen 0 1 rfl rfl
    have c02 : v1.cell? ⟨q, 2, none⟩ = some (.int .i64 0) := FR.out.cell 0 2 rfl rfl rfl
    have f02 : v1.frozen? ⟨q, 2, none⟩ = false := FR.out.frozen 0 2 rfl rfl
    go_wp2
    have FZ : Fr w (((v1.setCell ⟨q, 0, none⟩ (.int .i64 1)).setCell ⟨q, 1, none⟩ (.int .i64 1)).setCell ⟨q, 2, none⟩ (.int .i64 1)) q [.cells #[.int .i64 1, .int .i64 1, .int .i64 1] 51] := (((FR.out.set 0 0 rfl rfl (.int .i64 1)).set 0 1 rfl rfl (.int .i64 1)).set 0 2 rfl rfl (.int .i64 1))
    refine bodyPost_ret (res_cs Try.results25 (by rfl) (FZ.load 0 rfl rfl Try.underlying51 (by kernel_rfl))) rfl ?_
    exact ⟨rfl, FZ.bel⟩
  have hn16 : (o == 16) = false := by simpa using ho16
  replace ho16 := Lib.hid ho16
  by_cases ho17 : o = 17
  · subst ho17
    go_enter Try.func25, Try.ntmps25
    have c00 : v1.cell? ⟨q, 0, none⟩ = some (.int .i64 0) := FR.out.cell 0 0 rfl rfl rfl
    have f00 : v1.frozen? ⟨q, 0, none⟩ = false := FR.out.frozen 0 0 rfl rfl
    have c01 : v1.cell? ⟨q, 1, none⟩ = some (.int .i64 0) := FR.out.cell 0 1 rfl rfl rfl
    have f01 : v1.frozen? ⟨q, 1, none⟩ = false := FR.out.frozen 0 1 rfl rfl
    have c02 : v1.cell? ⟨q, 2, none⟩ = some (.int .i64 0) := FR.out.cell 0 2 rfl rfl rfl
    have f02 : v1.frozen? ⟨q, 2, none⟩ = false := FR.out.frozen 0 2 rfl rfl
    go_wp2
    have FZ : Fr w (((v1.setCell ⟨q, 0, none⟩ (.int .i64 1)).setCell ⟨q, 1, none⟩ (.int .i64 1)).setCell ⟨q, 2, none⟩ (.int .i64 0)) q [.cells #[.int .i64 1, .int .i64 1, .int .i64 0] 51] := (((FR.out.set 0 0 rfl rfl (.int .i64 1)).set 0 1 rfl rfl (.int .i64 1)).set 0 2 rfl rfl (.int .i64 0))
    refine bodyPost_ret (res_cs Try.results25 (by rfl) (FZ.load 0 rfl rfl Try.underlying51 (by kernel_rfl))) rfl ?_
    exact ⟨rfl, FZ.bel⟩
  have hn17 : (o == 17) = false := by simpa using ho17
  replace ho17 := Lib.hid ho17
  by_cases ho18 : o = 18
  · subst ho18
    go_enter Try.func25, Try.ntmps25
    have c00 : v1.cell? ⟨q, 0, none⟩ = some (.int .i64 0) := FR.out.cell 0 0 rfl rfl rfl
    have f00 : v1.frozen? ⟨q, 0, none⟩ = false := FR.out.frozen 0 0 rfl rfl
    have c01 : v1.cell? ⟨q, 1, none⟩ = some (.int .i64 0) := FR.out.cell 0 1 rfl rfl rfl
    have f01 : v1.frozen? ⟨q, 1, none⟩ = false := FR.out.frozen 0 1 rfl rfl
    have c02 : v1.cell? ⟨q, 2, none⟩ = some (.int .i64 0) := FR.out.cell 0 2 rfl rfl rfl
    have f02 : v1.frozen? ⟨q, 2, none⟩ = false := FR.out.frozen 0 2 rfl rfl
    go_wp2
    have FZ : Fr w (((v1.setCell ⟨q, 0, none⟩ (.int .i64 1)).setCell ⟨q, 1, none⟩ (.int .i64 1)).setCell ⟨q, 2, none⟩ (.int .i64 0)) q [.cells #[.int .i64 1, .int .i64 1, .int .i64 0] 51] := (((FR.out.set 0 0 rfl rfl (.int .i64 1)).set 0 1 rfl rfl (.int .i64 1)).set 0 2 rfl rfl (.int .i64 0))
    refine bodyPost_ret (res_cs Try.results25 (by rfl) (FZ.load 0 rfl rfl Try.underlying51 (by kernel_rfl))) rfl ?_
    exact ⟨rfl, FZ.bel⟩
  have hn18 : (o == 18) = false := by simpa using ho18
  replace ho18 := Lib.hid ho18
  by_cases ho19 : o = 19
  · subst ho19
    go_enter Try.func25, Try.ntmps25
    have c00 : v1.cell? ⟨q, 0, none⟩ = some (.int .i64 0) := FR.out.cell 0 0 rfl rfl rfl
    have f00 : v1.frozen? ⟨q, 0, none⟩ = false := FR.out.frozen 0 0 rfl rfl
    have c01 : v1.cell? ⟨q, 1, none⟩ = some (.int .i64 0) := FR.out.cell 0 1 rfl rfl rfl
    have f01 : v1.frozen? ⟨q, 1, none⟩ = false := FR.out.frozen 0 1 rfl rfl
    have c02 : v1.cell? ⟨q, 2, none⟩ = some (.int .i64 0) := FR.out.cell 0 2 rfl rfl rfl
    have f02 : v1.frozen? ⟨q, 2, none⟩ = false := FR.out.frozen 0 2 rfl rfl
    go_wp2
    have FZ : Fr w (((v1.setCell ⟨q, 0, none⟩ (.int .i64 1)).setCell ⟨q, 1, none⟩ (.int .i64 0)).setCell ⟨q, 2, none⟩ (.int .i64 0)) q [.cells #[.int .i64 1, .int .i64 0, .int .i64 0] 51] := (((FR.out.set 0 0 rfl rfl (.int .i64 1)).set 0 1 rfl rfl (.int .i64 0)).set 0 2 rfl rfl (.int .i64 0))
    refine bodyPost_ret (res_cs Try.results25 (by rfl) (FZ.load 0 rfl rfl Try.underlying51 (by kernel_rfl))) rfl ?_
    exact ⟨rfl, FZ.bel⟩
  have hn19 : (o == 19) = false := by simpa using ho19
  replace ho19 := Lib.hid ho19
  by_cases ho20 : o = 20
  · subst ho20
    go_enter Try.func25, Try.ntmps25
    have c00 : v1.cell? ⟨q, 0, none⟩ = some (.int .i64 0) := FR.out.cell 0 0 rfl rfl rfl
    have f00 : v1.frozen? ⟨q, 0, none⟩ = false := FR.out.frozen 0 0 rfl rfl
    have c01 : v1.cell? ⟨q, 1, none⟩ = some (.int .i64 0) := FR.out.cell 0 1 rfl rfl rfl
    have f01 : v1.frozen? ⟨q, 1, none⟩ = false := FR.out.frozen 0 1 rfl rfl
    have c02 : v1.cell? ⟨q, 2, none⟩ = some (.int .i64 0) := FR.out.cell 0 2 rfl rfl rfl
    have f02 : v1.frozen? ⟨q, 2, none⟩ = false := FR.out.frozen 0 2 rfl rfl
    go_wp2
    have FZ : Fr w (((v1.setCell ⟨q, 0, none⟩ (.int .i64 1)).setCell ⟨q, 1, none⟩ (.int .i64 0)).setCell ⟨q, 2, none⟩ (.int .i64 0)) q [.cells #[.int .i64 1, .int .i64 0, .int .i64 0] 51] := (((FR.out.set 0 0 rfl rfl (.int .i64 1)).set 0 1 rfl rfl (.int .i64 0)).set 0 2 rfl rfl (.int .i64 0))
    refine bodyPost_ret (res_cs Try.results25 (by rfl) (FZ.load 0 rfl rfl Try.underlying51 (by kernel_rfl))) rfl ?_
    exact ⟨rfl, FZ.bel⟩
  have hn20 : (o == 20) = false := by simpa using ho20
  replace ho20 := Lib.hid ho20
  by_cases ho21 : o = 21
  · subst ho21
    go_enter Try.func25, Try.ntmps25
    have c00 : v1.cell? ⟨q, 0, none⟩ = some (.int .i64 0) := FR.out.cell 0 0 rfl rfl rfl
    have f00 : v1.frozen? ⟨q, 0, none⟩ = false := FR.out.frozen 0 0 rfl rfl
    have c01 : v1.cell? ⟨q, 1, none⟩ = some (.int .i64 0) := FR.out.cell 0 1 rfl rfl rfl
    have f01 : v1.frozen? ⟨q, 1, none⟩ = false := FR.out.frozen 0 1 rfl rfl
    have c02 : v1.cell? ⟨q, 2, none⟩ = some (.int .i64 0) := FR.out.cell 0 2 rfl rfl rfl
    have f02 : v1.frozen? ⟨q, 2, none⟩ = false := FR.out.frozen 0 2 rfl rfl
    go_wp2
    have FZ : Fr w (((v1.setCell ⟨q, 0, none⟩ (.int .i64 1)).setCell ⟨q, 1, none⟩ (.int .i64 0)).setCell ⟨q, 2, none⟩ (.int .i64 0)) q [.cells #[.int .i64 1, .int .i64 0, .int .i64 0] 51] := (((FR.out.set 0 0 rfl rfl (.int .i64 1)).set 0 1 rfl rfl (.int .i64 0)).set 0 2 rfl rfl (.int .i64 0))
    refine bodyPost_ret (res_cs Try.results25 (by rfl) (FZ.load 0 rfl rfl Try.underlying51 (by kernel_rfl))) rfl ?_
    exact ⟨rfl, FZ.bel⟩
  have hn21 : (o == 21) = false := by simpa using ho21
  replace ho21 := Lib.hid ho21
  by_cases ho22 : o = 22
  · subst ho22
    go_enter Try.func25, Try.ntmps25
    have c00 : v1.cell? ⟨q, 0, none⟩ = some (.int .i64 0) := FR.out.cell 0 0 rfl rfl rfl
    have f00 : v1.frozen? ⟨q, 0, none⟩ = false := FR.out.frozen 0 0 rfl rfl
    have c01 : v1.cell? ⟨q, 1, none⟩ = some (.int .i64 0) := FR.out.cell 0 1 rfl rfl rfl
    have f01 : v1.frozen? ⟨q, 1, none⟩ = false := FR.out.frozen 0 1 rfl rfl
    have c02 : v1.cell? ⟨q, 2, none⟩ = some (.int .i64 0) := FR.out.cell 0 2 rfl rfl rfl
    have f02 : v1.frozen? ⟨q, 2, none⟩ = false := FR.out.frozen 0 2 rfl rfl
    go_wp2
    have FZ : Fr w (((v1.setCell ⟨q, 0, none⟩ (.int .i64 1)).setCell ⟨q, 1, none⟩ (.int .i64 3)).setCell ⟨q, 2, none⟩ (.int .i64 0)) q [.cells #[.int .i64 1, .int .i64 3, .int .i64 0] 51] := (((FR.out.set 0 0 rfl rfl (.int .i64 1)).set 0 1 rfl rfl (.int .i64 3)).set 0 2 rfl rfl (.int .i64 0))
    refine bodyPost_ret (res_cs Try.results25 (by rfl) (FZ.load 0 rfl rfl Try.underlying51 (by kernel_rfl))) rfl ?_
    exact ⟨rfl, FZ.bel⟩
  have hn22 : (o == 22) = false := by simpa using ho22
  replace ho22 := Lib.hid ho22
  by_cases ho23 : o = 23
  · subst ho23
    go_enter Try.func25, Try.ntmps25
    have c00 : v1.cell? ⟨q, 0, none⟩ = some (.int .i64 0) := FR.out.cell 0 0 rfl rfl rfl
    have f00 : v1.frozen? ⟨q, 0, none⟩ = false := FR.out.frozen 0 0 rfl rfl
    have c01 : v1.cell? ⟨q, 1, none⟩ = some (.int .i64 0) := FR.out.cell 0 1 rfl rfl rfl
    have f01 : v1.frozen? ⟨q, 1, none⟩ = false := FR.out.frozen 0 1 rfl rfl
    have c02 : v1.cell? ⟨q, 2, none⟩ = some (.int .i64 0) := FR.out.cell 0 2 rfl rfl rfl
    have f02 : v1.frozen? ⟨q, 2, none⟩ = false := FR.out.frozen 0 2 rfl rfl
    go_wp2
    have FZ : Fr w (((v1.setCell ⟨q, 0, none⟩ (.int .i64 3)).setCell ⟨q, 1, none⟩ (.int .i64 0)).setCell ⟨q, 2, none⟩ (.int .i64 0)) q [.cells #[.int .i64 3, .int .i64 0, .int .i64 0] 51] := (((FR.out.set 0 0 rfl rfl (.int .i64 3)).set 0 1 rfl rfl (.int .i64 0)).set 0 2 rfl rfl (.int .i64 0))
    refine bodyPost_ret (res_cs Try.results25 (by rfl) (FZ.load 0 rfl rfl Try.underlying51 (by kernel_rfl))) rfl ?_
    exact ⟨rfl, FZ.bel⟩
  have hn23 : (o == 23) = false := by simpa using ho23
  replace ho23 := Lib.hid ho23
  by_cases ho24 : o = 24
  · subst ho24
    go_enter Try.func25, Try.ntmps25
    have c00 : v1.cell? ⟨q, 0, none⟩ = some (.int .i64 0) := FR.out.cell 0 0 rfl rfl rfl
    have f00 : v1.frozen? ⟨q, 0, none⟩ = false := FR.out.frozen 0 0 rfl rfl
    have c01 : v1.cell? ⟨q, 1, none⟩ = some (.int .i64 0) := FR.out.cell 0 1 rfl rfl rfl
    have f01 : v1.frozen? ⟨q, 1, none⟩ = false := FR.out.frozen 0 1 rfl rfl
    have c02 : v1.cell? ⟨q, 2, none⟩ = some (.int .i64 0) := FR.out.cell 0 2 rfl rfl rfl
    have f02 : v1.frozen? ⟨q, 2, none⟩ = false := FR.out.frozen 0 2 rfl rfl
    go_wp2
    have FZ : Fr w (((v1.setCell ⟨q, 0, none⟩ (.int .i64 1)).setCell ⟨q, 1, none⟩ (.int .i64 0)).setCell ⟨q, 2, none⟩ (.int .i64 0)) q [.cells #[.int .i64 1, .int .i64 0, .int .i64 0] 51] := (((FR.out.set 0 0 rfl rfl (.int .i64 1)).set 0 1 rfl rfl (.int .i64 0)).set 0 2 rfl rfl (.int .i64 0))
    refine bodyPost_ret (res_cs Try.results25 (by rfl) (FZ.load 0 rfl rfl Try.underlying51 (by kernel_rfl))) rfl ?_
    exact ⟨rfl, FZ.bel⟩
  have hn24 : (o == 24) = false := by simpa using ho24
  replace ho24 := Lib.hid ho24
  by_cases ho25 : o = 25
  · subst ho25
    go_enter Try.func25, Try.ntmps25
    have c00 : v1.cell? ⟨q, 0, none⟩ = some (.int .i64 0) := FR.out.cell 0 0 rfl rfl rfl
    have f00 : v1.frozen? ⟨q, 0, none⟩ = false := FR.out.frozen 0 0 rfl rfl
    have c01 : v1.cell? ⟨q, 1, none⟩ = some (.int .i64 0) := FR.out.cell 0 1 rfl rfl rfl
    have f01 : v1.frozen? ⟨q, 1, none⟩ = false := FR.out.frozen 0 1 rfl rfl
    have c02 : v1.cell? ⟨q, 2, none⟩ = some (.int .i64 0) := FR.out.cell 0 2 rfl rfl rfl
    have f02 : v1.frozen? ⟨q, 2, none⟩ = false := FR.out.frozen 0 2 rfl rfl
    go_wp2
    have FZ : Fr w (((v1.setCell ⟨q, 0, none⟩ (.int .i64 1)).setCell ⟨q, 1, none⟩ (.int .i64 1)).setCell ⟨q, 2, none⟩ (.int .i64 0)) q [.cells #[.int .i64 1, .int .i64 1, .int .i64 0] 51] := (((FR.out.set 0 0 rfl rfl (.int .i64 1)).set 0 1 rfl rfl (.int .i64 1)).set 0 2 rfl rfl (.int .i64 0))
    refine bodyPost_ret (res_cs Try.results25 (by rfl) (FZ.load 0 rfl rfl Try.underlying51 (by kernel_rfl))) rfl ?_
    exact ⟨rfl, FZ.bel⟩
  have hn25 : (o == 25) = false := by simpa using ho25
  replace ho25 := Lib.hid ho25
  by_cases ho26 : o = 26
  · subst ho26
    go_enter Try.func25, Try.ntmps25
    have c00 : v1.cell? ⟨q, 0, none⟩ = some (.int .i64 0) := FR.out.cell 0 0 rfl rfl rfl
    have f00 : v1.frozen? ⟨q, 0, none⟩ = false := FR.out.frozen 0 0 rfl rfl
    have c01 : v1.cell? ⟨q, 1, none⟩ = some (.int .i64 0) := FR.out.cell 0 1 rfl rfl rfl
    have f01 : v1.frozen? ⟨q, 1, none⟩ = false := FR.out.frozen 0 1 rfl rfl
    have c02 : v1.cell? ⟨q, 2, none⟩ = some (.int .i64 0) := FR.out.cell 0 2 rfl rfl rfl
    have f02 : v1.frozen? ⟨q, 2, none⟩ = false := FR.out.frozen 0 2 rfl rfl
    go_wp2
    have FZ : Fr w (((v1.setCell ⟨q, 0, none⟩ (.int .i64 6)).setCell ⟨q, 1, none⟩ (.int .i64 0)).setCell ⟨q, 2, none⟩ (.int .i64 0)) q [.cells #[.int .i64 6, .int .i64 0, .int .i64 0] 51] := (((FR.out.set 0 0 rfl rfl (.int .i64 6)).set 0 1 rfl rfl (.int .i64 0)).set 0 2 rfl rfl (.int .i64 0))
    refine bodyPost_ret (res_cs Try.results25 (by rfl) (FZ.load 0 rfl rfl Try.underlying51 (by kernel_rfl))) rfl ?_
    exact ⟨rfl, FZ.bel⟩
  have hn26 : (o == 26) = false := by simpa using ho26
  replace ho26 := Lib.hid ho26
  by_cases ho27 : o = 27
  · subst ho27
    go_enter Try.func25, Try.ntmps25
    have c00 : v1.cell? ⟨q, 0, none⟩ = some (.int .i64 0) := FR.out.cell 0 0 rfl rfl rfl
    have f00 : v1.frozen? ⟨q, 0, none⟩ = false := FR.out.frozen 0 0 rfl rfl
    have c01 : v1.cell? ⟨q, 1, none⟩ = some (.int .i64 0) := FR.out.cell 0 1 rfl rfl rfl
    have f01 : v1.frozen? ⟨q, 1, none⟩ = false := FR.out.frozen 0 1 rfl rfl
    have c02 : v1.cell? ⟨q, 2, none⟩ = some (.int .i64 0) := FR.out.cell 0 2 rfl rfl rfl
    have f02 : v1.frozen? ⟨q, 2, none⟩ = false := FR.out.frozen 0 2 rfl rfl
    go_wp2
    have FZ : Fr w (((v1.setCell ⟨q, 0, none⟩ (.int .i64 6)).setCell ⟨q, 1, none⟩ (.int .i64 0)).setCell ⟨q, 2, none⟩ (.int .i64 0)) q [.cells #[.int .i64 6, .int .i64 0, .int .i64 0] 51] := (((FR.out.set 0 0 rfl rfl (.int .i64 6)).set 0 1 rfl rfl (.int .i64 0)).set 0 2 rfl rfl (.int .i64 0))
    refine bodyPost_ret (res_cs Try.results25 (by rfl) (FZ.load 0 rfl rfl Try.underlying51 (by kernel_rfl))) rfl ?_
    exact ⟨rfl, FZ.bel⟩
  have hn27 : (o == 27) = false := by simpa using ho27
  replace ho27 := Lib.hid ho27
  by_cases ho28 : o = 28
  · subst ho28
    go_enter Try.func25, Try.ntmps25
    have c00 : v1.cell? ⟨q, 0, none⟩ = some (.int .i64 0) := FR.out.cell 0 0 rfl rfl rfl
    have f00 : v1.frozen? ⟨q, 0, none⟩ = false := FR.out.frozen 0 0 rfl rfl
    have c01 : v1.cell? ⟨q, 1, none⟩ = some (.int .i64 0) := FR.out.cell 0 1 rfl rfl rfl
    have f01 : v1.frozen? ⟨q, 1, none⟩ = false := FR.out.frozen 0 1 rfl rfl
    have c02 : v1.cell? ⟨q, 2, none⟩ = some (.int .i64 0) := FR.out.cell 0 2 rfl rfl rfl
    have f02 : v1.frozen? ⟨q, 2, none⟩ = false := FR.out.frozen 0 2 rfl rfl
    go_wp2
    have FZ : Fr w (((v1.setCell ⟨q, 0, none⟩ (.int .i64 7)).setCell ⟨q, 1, none⟩ (.int .i64 0)).setCell ⟨q, 2, none⟩ (.int .i64 0)) q [.cells #[.int .i64 7, .int .i64 0, .int .i64 0] 51] := (((FR.out.set 0 0 rfl rfl (.int .i64 7)).set 0 1 rfl rfl (.int .i64 0)).set 0 2 rfl rfl (.int .i64 0))
    refine bodyPost_ret (res_cs Try.results25 (by rfl) (FZ.load 0 rfl rfl Try.underlying51 (by kernel_rfl))) rfl ?_
    exact ⟨rfl, FZ.bel⟩
  have hn28 : (o == 28) = false := by simpa using ho28
  replace ho28 := Lib.hid ho28
  by_cases ho29 : o = 29
  · subst ho29
    go_enter Try.func25, Try.ntmps25
    have c00 : v1.cell? ⟨q, 0, none⟩ = some (.int .i64 0) := FR.out.cell 0 0 rfl rfl rfl
    have f00 : v1.frozen? ⟨q, 0, none⟩ = false := FR.out.frozen 0 0 rfl rfl
    have c01 : v1.cell? ⟨q, 1, none⟩ = some (.int .i64 0) := FR.out.cell 0 1 rfl rfl rfl
    have f01 : v1.frozen? ⟨q, 1, none⟩ = false := FR.out.frozen 0 1 rfl rfl
    have c02 : v1.cell? ⟨q, 2, none⟩ = some (.int .i64 0) := FR.out.cell 0 2 rfl rfl rfl
    have f02 : v1.frozen? ⟨q, 2, none⟩ = false := FR.out.frozen 0 2 rfl rfl
    go_wp2
    have FZ : Fr w (((v1.setCell ⟨q, 0, none⟩ (.int .i64 7)).setCell ⟨q, 1, none⟩ (.int .i64 0)).setCell ⟨q, 2, none⟩ (.int .i64 0)) q [.cells #[.int .i64 7, .int .i64 0, .int .i64 0] 51] := (((FR.out.set 0 0 rfl rfl (.int .i64 7)).set 0 1 rfl rfl (.int .i64 0)).set 0 2 rfl rfl (.int .i64 0))
    refine bodyPost_ret (res_cs Try.results25 (by rfl) (FZ.load 0 rfl rfl Try.underlying51 (by kernel_rfl))) rfl ?_
    exact ⟨rfl, FZ.bel⟩
  have hn29 : (o == 29) = false := by simpa using ho29
  replace ho29 := Lib.hid ho29
  by_cases ho30 : o = 30
  · subst ho30
    go_enter Try.func25, Try.ntmps25
    have c00 : v1.cell? ⟨q, 0, none⟩ = some (.int .i64 0) := FR.out.cell 0 0 rfl rfl rfl
    have f00 : v1.frozen? ⟨q, 0, none⟩ = false := FR.out.frozen 0 0 rfl rfl
    have c01 : v1.cell? ⟨q, 1, none⟩ = some (.int .i64 0) := FR.out.cell 0 1 rfl rfl rfl
    have f01 : v1.frozen? ⟨q, 1, none⟩ = false := FR.out.frozen 0 1 rfl rfl
    have c02 : v1.cell? ⟨q, 2, none⟩ = some (.int .i64 0) := FR.out.cell 0 2 rfl rfl rfl
    have f02 : v1.frozen? ⟨q, 2, none⟩ = false := FR.out.frozen 0 2 rfl rfl
    go_wp2
    have FZ : Fr w (((v1.setCell ⟨q, 0, none⟩ (.int .i64 7)).setCell ⟨q, 1, none⟩ (.int .i64 0)).setCell ⟨q, 2, none⟩ (.int .i64 0)) q [.cells #[.int .i64 7, .int .i64 0, .int .i64 0] 51] := (((FR.out.set 0 0 rfl rfl (.int .i64 7)).set 0 1 rfl rfl (.int .i64 0)).set 0 2 rfl rfl (.int .i64 0))
    refine bodyPost_ret (res_cs Try.results25 (by rfl) (FZ.load 0 rfl rfl Try.underlying51 (by kernel_rfl))) rfl ?_
    exact ⟨rfl, FZ.bel⟩
  have hn30 : (o == 30) = false := by simpa using ho30
  replace ho30 := Lib.hid ho30
  by_cases ho31 : o = 31
  · subst ho31
    go_enter Try.func25, Try.ntmps25
    have c00 : v1.cell? ⟨q, 0, none⟩ = some (.int .i64 0) := FR.out.cell 0 0 rfl rfl rfl
    have f00 : v1.frozen? ⟨q, 0, none⟩ = false := FR.out.frozen 0 0 rfl rfl
    have c01 : v1.cell? ⟨q, 1, none⟩ = some (.int .i64 0) := FR.out.cell 0 1 rfl rfl rfl
    have f01 : v1.frozen? ⟨q, 1, none⟩ = false := FR.out.frozen 0 1 rfl rfl
    have c02 : v1.cell? ⟨q, 2, none⟩ = some (.int .i64 0) := FR.out.cell 0 2 rfl rfl rfl
    have f02 : v1.frozen? ⟨q, 2, none⟩ = false := FR.out.frozen 0 2 rfl rfl
    go_wp2
    have FZ : Fr w (((v1.setCell ⟨q, 0, none⟩ (.int .i64 7)).setCell ⟨q, 1, none⟩ (.int .i64 0)).setCell ⟨q, 2, none⟩ (.int .i64 0)) q [.cells #[.int .i64 7, .int .i64 0, .int .i64 0] 51] := (((FR.out.set 0 0 rfl rfl (.int .i64 7)).set 0 1 rfl rfl (.int .i64 0)).set 0 2 rfl rfl (.int .i64 0))
    refine bodyPost_ret (res_cs Try.results25 (by rfl) (FZ.load 0 rfl rfl Try.underlying51 (by kernel_rfl))) rfl ?_
    exact ⟨rfl, FZ.bel⟩
  have hn31 : (o == 31) = false := by simpa using ho31
  replace ho31 := Lib.hid ho31
  by_cases ho32 : o = 32
  · subst ho32
    go_enter Try.func25, Try.ntmps25
    have c00 : v1.cell? ⟨q, 0, none⟩ = some (.int .i64 0) := FR.out.cell 0 0 rfl rfl rfl
    have f00 : v1.frozen? ⟨q, 0, none⟩ = false := FR.out.frozen 0 0 rfl rfl
    have c01 : v1.cell? ⟨q, 1, none⟩ = some (.int .i64 0) := FR.out.cell 0 1 rfl rfl rfl
    have f01 : v1.frozen? ⟨q, 1, none⟩ = false := FR.out.frozen 0 1 rfl rfl
    have c02 : v1.cell? ⟨q, 2, none⟩ = some (.int .i64 0) := FR.out.cell 0 2 rfl rfl rfl
    have f02 : v1.frozen? ⟨q, 2, none⟩ = false := FR.out.frozen 0 2 rfl rfl
    go_wp2
    have FZ : Fr w (((v1.setCell ⟨q, 0, none⟩ (.int .i64 8)).setCell ⟨q, 1, none⟩ (.int .i64 1)).setCell ⟨q, 2, none⟩ (.int .i64 0)) q [.cells #[.int .i64 8, .int .i64 1, .int .i64 0] 51] := (((FR.out.set 0 0 rfl rfl (.int .i64 8)).set 0 1 rfl rfl (.int .i64 1)).set 0 2 rfl rfl (.int .i64 0))
    refine bodyPost_ret (res_cs Try.results25 (by rfl) (FZ.load 0 rfl rfl Try.underlying51 (by kernel_rfl))) rfl ?_
    exact ⟨rfl, FZ.bel⟩
  have hn32 : (o == 32) = false := by simpa using ho32
  replace ho32 := Lib.hid ho32
  by_cases ho33 : o = 33
  · subst ho33
    go_enter Try.func25, Try.ntmps25
    have c00 : v1.cell? ⟨q, 0, none⟩ = some (.int .i64 0) := FR.out.cell 0 0 rfl rfl rfl
    have f00 : v1.frozen? ⟨q, 0, none⟩ = false := FR.out.frozen 0 0 rfl rfl
    have c01 : v1.cell? ⟨q, 1, none⟩ = some (.int .i64 0) := FR.out.cell 0 1 rfl rfl rfl
    have f01 : v1.frozen? ⟨q, 1, none⟩ = false := FR.out.frozen 0 1 rfl rfl
    have c02 : v1.cell? ⟨q, 2, none⟩ = some (.int .i64 0) := FR.out.cell 0 2 rfl rfl rfl
    have f02 : v1.frozen? ⟨q, 2, none⟩ = false := FR.out.frozen 0 2 rfl rfl
    go_wp2
    have FZ : Fr w (((v1.setCell ⟨q, 0, none⟩ (.int .i64 8)).setCell ⟨q, 1, none⟩ (.int .i64 0)).setCell ⟨q, 2, none⟩ (.int .i64 0)) q [.cells #[.int .i64 8, .int .i64 0, .int .i64 0] 51] := (((FR.out.set 0 0 rfl rfl (.int .i64 8)).set 0 1 rfl rfl (.int .i64 0)).set 0 2 rfl rfl (.int .i64 0))
    refine bodyPost_ret (res_cs Try.results25 (by rfl) (FZ.load 0 rfl rfl Try.underlying51 (by kernel_rfl))) rfl ?_
    exact ⟨rfl, FZ.bel⟩
  have hn33 : (o == 33) = false := by simpa using ho33
  replace ho33 := Lib.hid ho33
  by_cases ho34 : o = 34
  · subst ho34
    go_enter Try.func25, Try.ntmps25
    have c00 : v1.cell? ⟨q, 0, none⟩ = some (.int .i64 0) := FR.out.cell 0 0 rfl rfl rfl
    have f00 : v1.frozen? ⟨q, 0, none⟩ = false := FR.out.frozen 0 0 rfl rfl
    have c01 : v1.cell? ⟨q, 1, none⟩ = some (.int .i64 0) := FR.out.cell 0 1 rfl rfl rfl
    have f01 : v1.frozen? ⟨q, 1, none⟩ = false := FR.out.frozen 0 1 rfl rfl
    have c02 : v1.cell? ⟨q, 2, none⟩ = some (.int .i64 0) := FR.out.cell 0 2 rfl rfl rfl
    have f02 : v1.frozen? ⟨q, 2, none⟩ = false := FR.out.frozen 0 2 rfl rfl
    go_wp2
    have FZ : Fr w (((v1.setCell ⟨q, 0, none⟩ (.int .i64 9)).setCell ⟨q, 1, none⟩ (.int .i64 1)).setCell ⟨q, 2, none⟩ (.int .i64 0)) q [.cells #[.int .i64 9, .int .i64 1, .int .i64 0] 51] := (((FR.out.set 0 0 rfl rfl (.int .i64 9)).set 0 1 rfl rfl (.int .i64 1)).set 0 2 rfl rfl (.int .i64 0))
    refine bodyPost_ret (res_cs Try.results25 (by rfl) (FZ.load 0 rfl rfl Try.underlying51 (by kernel_rfl))) rfl ?_
    exact ⟨rfl, FZ.bel⟩
  have hn34 : (o == 34) = false := by simpa using ho34
  replace ho34 := Lib.hid ho34
  by_cases ho35 : o = 35
  · subst ho35
    go_enter Try.func25, Try.ntmps25
    have c00 : v1.cell? ⟨q, 0, none⟩ = some (.int .i64 0) := FR.out.cell 0 0 rfl rfl rfl
    have f00 : v1.frozen? ⟨q, 0, none⟩ = false := FR.out.frozen 0 0 rfl rfl
    have c01 : v1.cell? ⟨q, 1, none⟩ = some (.int .i64 0) := FR.out.cell 0 1 rfl rfl rfl
    have f01 : v1.frozen? ⟨q, 1, none⟩ = false := FR.out.frozen 0 1 rfl rfl
    have c02 : v1.cell? ⟨q, 2, none⟩ = some (.int .i64 0) := FR.out.cell 0 2 rfl rfl rfl
    have f02 : v1.frozen? ⟨q, 2, none⟩ = false := FR.out.frozen 0 2 rfl rfl
    go_wp2
    have FZ : Fr w (((v1.setCell ⟨q, 0, none⟩ (.int .i64 9)).setCell ⟨q, 1, none⟩ (.int .i64 0)).setCell ⟨q, 2, none⟩ (.int .i64 0)) q [.cells #[.int .i64 9, .int .i64 0, .int .i64 0] 51] := (((FR.out.set 0 0 rfl rfl (.int .i64 9)).set 0 1 rfl rfl (.int .i64 0)).set 0 2 rfl rfl (.int .i64 0))
    refine bodyPost_ret (res_cs Try.results25 (by rfl) (FZ.load 0 rfl rfl Try.underlying51 (by kernel_rfl))) rfl ?_
    exact ⟨rfl, FZ.bel⟩
  have hn35 : (o == 35) = false := by simpa using ho35
  replace ho35 := Lib.hid ho35
  by_cases ho36 : o = 36
  · subst ho36
    go_enter Try.func25, Try.ntmps25
    have c00 : v1.cell? ⟨q, 0, none⟩ = some (.int .i64 0) := FR.out.cell 0 0 rfl rfl rfl
    have f00 : v1.frozen? ⟨q, 0, none⟩ = false := FR.out.frozen 0 0 rfl rfl
    have c01 : v1.cell? ⟨q, 1, none⟩ = some (.int .i64 0) := FR.out.cell 0 1 rfl rfl rfl
    have f01 : v1.frozen? ⟨q, 1, none⟩ = false := FR.out.frozen 0 1 rfl rfl
    have c02 : v1.cell? ⟨q, 2, none⟩ = some (.int .i64 0) := FR.out.cell 0 2 rfl rfl rfl
    have f02 : v1.frozen? ⟨q, 2, none⟩ = false := FR.out.frozen 0 2 rfl rfl
    go_wp2
    have FZ : Fr w (((v1.setCell ⟨q, 0, none⟩ (.int .i64 10)).setCell ⟨q, 1, none⟩ (.int .i64 6)).setCell ⟨q, 2, none⟩ (.int .i64 0)) q [.cells #[.int .i64 10, .int .i64 6, .int .i64 0] 51] := (((FR.out.set 0 0 rfl rfl (.int .i64 10)).set 0 1 rfl rfl (.int .i64 6)).set 0 2 rfl rfl (.int .i64 0))
    refine bodyPost_ret (res_cs Try.results25 (by rfl) (FZ.load 0 rfl rfl Try.underlying51 (by kernel_rfl))) rfl ?_
    exact ⟨rfl, FZ.bel⟩
  have hn36 : (o == 36) = false := by simpa using ho36
  replace ho36 := Lib.hid ho36
  by_cases ho37 : o = 37
  · subst ho37
    go_enter Try.func25, Try.ntmps25
    have c00 : v1.cell? ⟨q, 0, none⟩ = some (.int .i64 0) := FR.out.cell 0 0 rfl rfl rfl
    have f00 : v1.frozen? ⟨q, 0, none⟩ = false := FR.out.frozen 0 0 rfl rfl
    have c01 : v1.cell? ⟨q, 1, none⟩ = some (.int .i64 0) := FR.out.cell 0 1 rfl rfl rfl
    have f01 : v1.frozen? ⟨q, 1, none⟩ = false := FR.out.frozen 0 1 rfl rfl
    have c02 : v1.cell? ⟨q, 2, none⟩ = some (.int .i64 0) := FR.out.cell 0 2 rfl rfl rfl
    have f02 : v1.frozen? ⟨q, 2, none⟩ = false := FR.out.frozen 0 2 rfl rfl
    go_wp2
    have FZ : Fr w (((v1.setCell ⟨q, 0, none⟩ (.int .i64 10)).setCell ⟨q, 1, none⟩ (.int .i64 0)).setCell ⟨q, 2, none⟩ (.int .i64 0)) q [.cells #[.int .i64 10, .int .i64 0, .int .i64 0] 51] := (((FR.out.set 0 0 rfl rfl (.int .i64 10)).set 0 1 rfl rfl (.int .i64 0)).set 0 2 rfl rfl (.int .i64 0))
    refine bodyPost_ret (res_cs Try.results25 (by rfl) (FZ.load 0 rfl rfl Try.underlying51 (by kernel_rfl))) rfl ?_
    exact ⟨rfl, FZ.bel⟩
  have hn37 : (o == 37) = false := by simpa using ho37
  replace ho37 := Lib.hid ho37
  by_cases ho38 : o = 38
  · subst ho38
    go_enter Try.func25, Try.ntmps25
    have c00 : v1.cell? ⟨q, 0, none⟩ = some (.int .i64 0) := FR.out.cell 0 0 rfl rfl rfl
    have f00 : v1.frozen? ⟨q, 0, none⟩ = false := FR.out.frozen 0 0 rfl rfl
    have c01 : v1.cell? ⟨q, 1, none⟩ = some (.int .i64 0) := FR.out.cell 0 1 rfl rfl rfl
    have f01 : v1.frozen? ⟨q, 1, none⟩ = false := FR.out.frozen 0 1 rfl rfl
    have c02 : v1.cell? ⟨q, 2, none⟩ = some (.int .i64 0) := FR.out.cell 0 2 rfl rfl rfl
    have f02 : v1.frozen? ⟨q, 2, none⟩ = false := FR.out.frozen 0 2 rfl rfl
    go_wp2
    have FZ : Fr w (((v1.setCell ⟨q, 0, none⟩ (.int .i64 10)).setCell ⟨q, 1, none⟩ (.int .i64 0)).setCell ⟨q, 2, none⟩ (.int .i64 0)) q [.cells #[.int .i64 10, .int .i64 0, .int .i64 0] 51] := (((FR.out.set 0 0 rfl rfl (.int .i64 10)).set 0 1 rfl rfl (.int .i64 0)).set 0 2 rfl rfl (.int .i64 0))
    refine bodyPost_ret (res_cs Try.results25 (by rfl) (FZ.load 0 rfl rfl Try.underlying51 (by kernel_rfl))) rfl ?_
    exact ⟨rfl, FZ.bel⟩
  have hn38 : (o == 38) = false := by simpa using ho38
  replace ho38 := Lib.hid ho38
  by_cases ho39 : o = 39
  · subst ho39
    go_enter Try.func25, Try.ntmps25
    have c00 : v1.cell? ⟨q, 0, none⟩ = some (.int .i64 0) := FR.out.cell 0 0 rfl rfl rfl
    have f00 : v1.frozen? ⟨q, 0, none⟩ = false := FR.out.frozen 0 0 rfl rfl
    have c01 : v1.cell? ⟨q, 1, none⟩ = some (.int .i64 0) := FR.out.cell 0 1 rfl rfl rfl
    have f01 : v1.frozen? ⟨q, 1, none⟩ = false := FR.out.frozen 0 1 rfl rfl
    have c02 : v1.cell? ⟨q, 2, none⟩ = some (.int .i64 0) := FR.out.cell 0 2 rfl rfl rfl
    have f02 : v1.frozen? ⟨q, 2, none⟩ = false := FR.out.frozen 0 2 rfl rfl
    go_wp2
    have FZ : Fr w (((v1.setCell ⟨q, 0, none⟩ (.int .i64 11)).setCell ⟨q, 1, none⟩ (.int .i64 1)).setCell ⟨q, 2, none⟩ (.int .i64 0)) q [.cells #[.int .i64 11, .int .i64 1, .int .i64 0] 51] := (((FR.out.set 0 0 rfl rfl (.int .i64 11)).set 0 1 rfl rfl (.int .i64 1)).set 0 2 rfl rfl (.int .i64 0))
    refine bodyPost_ret (res_cs Try.results25 (by rfl) (FZ.load 0 rfl rfl Try.underlying51 (by kernel_rfl))) rfl ?_
    exact ⟨rfl, FZ.bel⟩
  have hn39 : (o == 39) = false := by simpa using ho39
  replace ho39 := Lib.hid ho39
  by_cases ho40 : o = 40
  · subst ho40
    go_enter Try.func25, Try.ntmps25
    have c00 : v1.cell? ⟨q, 0, none⟩ = some (.int .i64 0) := FR.out.cell 0 0 rfl rfl rfl
    have f00 : v1.frozen? ⟨q, 0, none⟩ = false := FR.out.frozen 0 0 rfl rfl
    have c01 : v1.cell? ⟨q, 1, none⟩ = some (.int .i64 0) := FR.out.cell 0 1 rfl rfl rfl
    have f01 : v1.frozen? ⟨q, 1, none⟩ = false := FR.out.frozen 0 1 rfl rfl
    have c02 : v1.cell? ⟨q, 2, none⟩ = some (.int .i64 0) := FR.out.cell 0 2 rfl rfl rfl
    have f02 : v1.frozen? ⟨q, 2, none⟩ = false := FR.out.frozen 0 2 rfl rfl
    go_wp2
    have FZ : Fr w (((v1.setCell ⟨q, 0, none⟩ (.int .i64 11)).setCell ⟨q, 1, none⟩ (.int .i64 1)).setCell ⟨q, 2, none⟩ (.int .i64 0)) q [.cells #[.int .i64 11, .int .i64 1, .int .i64 0] 51] := (((FR.out.set 0 0 rfl rfl (.int .i64 11)).set 0 1 rfl rfl (.int .i64 1)).set 0 2 rfl rfl (.int .i64 0))
    refine bodyPost_ret (res_cs Try.results25 (by rfl) (FZ.load 0 rfl rfl Try.underlying51 (by kernel_rfl))) rfl ?_
    exact ⟨rfl, FZ.bel⟩
  have hn40 : (o == 40) = false := by simpa using ho40
  replace ho40 := Lib.hid ho40
  by_cases ho41 : o = 41
  · subst ho41
    go_enter Try.func25, Try.ntmps25
    have c00 : v1.cell? ⟨q, 0, none⟩ = some (.int .i64 0) := FR.out.cell 0 0 rfl rfl rfl
    have f00 : v1.frozen? ⟨q, 0, none⟩ = false := FR.out.frozen 0 0 rfl rfl
    have c01 : v1.cell? ⟨q, 1, none⟩ = some (.int .i64 0) := FR.out.cell 0 1 rfl rfl rfl
    have f01 : v1.frozen? ⟨q, 1, none⟩ = false := FR.out.frozen 0 1 rfl rfl
    have c02 : v1.cell? ⟨q, 2, none⟩ = some (.int .i64 0) := FR.out.cell 0 2 rfl rfl rfl
    have f02 : v1.frozen? ⟨q, 2, none⟩ = false := FR.out.frozen 0 2 rfl rfl
    go_wp2
    have FZ : Fr w (((v1.setCell ⟨q, 0, none⟩ (.int .i64 1)).setCell ⟨q, 1, none⟩ (.int .i64 0)).setCell ⟨q, 2, none⟩ (.int .i64 0)) q [.cells #[.int .i64 1, .int .i64 0, .int .i64 0] 51] := (((FR.out.set 0 0 rfl rfl (.int .i64 1)).set 0 1 rfl rfl (.int .i64 0)).set 0 2 rfl rfl (.int .i64 0))
    refine bodyPost_ret (res_cs Try.results25 (by rfl) (FZ.load 0 rfl rfl Try.underlying51 (by kernel_rfl))) rfl ?_
    exact ⟨rfl, FZ.bel⟩
  have hn41 : (o == 41) = false := by simpa using ho41
  replace ho41 := Lib.hid ho41
  have HE := Lib.hid (show opsF o = (0, 0, 0, false) from by
    unfold opsF
    rw [if_neg (by have q0 := ho0.out; omega)]
    rw [if_neg (by have q1 := ho1.out; omega)]
    rw [if_neg (by have q2 := ho2.out; have q17 := ho17.out; have q18 := ho18.out; have q25 := ho25.out; omega)]
    rw [if_neg (by have q3 := ho3.out; have q4 := ho4.out; have q5 := ho5.out; have q12 := ho12.out; have q13 := ho13.out; have q14 := ho14.out; have q15 := ho15.out; have q16 := ho16.out; omega)]
    rw [if_neg (by have q6 := ho6.out; have q23 := ho23.out; omega)]
    rw [if_neg (by have q7 := ho7.out; have q22 := ho22.out; omega)]
    rw [if_neg (by have q8 := ho8.out; have q9 := ho9.out; have q11 := ho11.out; omega)]
    rw [if_neg (by have q10 := ho10.out; omega)]
    rw [if_neg (by have q19 := ho19.out; have q20 := ho20.out; have q21 := ho21.out; have q24 := ho24.out; have q41 := ho41.out; omega)]
    rw [if_neg (by have q26 := ho26.out; have q27 := ho27.out; omega)]
    rw [if_neg (by have q28 := ho28.out; have q29 := ho29.out; have q30 := ho30.out; have q31 := ho31.out; omega)]
    rw [if_neg (by have q32 := ho32.out; omega)]
    rw [if_neg (by have q33 := ho33.out; omega)]
    rw [if_neg (by have q34 := ho34.out; omega)]
    rw [if_neg (by have q35 := ho35.out; omega)]
    rw [if_neg (by have q36 := ho36.out; omega)]
    rw [if_neg (by have q37 := ho37.out; have q38 := ho38.out; omega)]
    rw [if_neg (by have q39 := ho39.out; have q40 := ho40.out; omega)])
  go_enter Try.func25, Try.ntmps25
  have c00 : v1.cell? ⟨q, 0, none⟩ = some (.int .i64 0) := FR.out.cell 0 0 rfl rfl rfl
  have f00 : v1.frozen? ⟨q, 0, none⟩ = false := FR.out.frozen 0 0 rfl rfl
  have c01 : v1.cell? ⟨q, 1, none⟩ = some (.int .i64 0) := FR.out.cell 0 1 rfl rfl rfl
  have f01 : v1.frozen? ⟨q, 1, none⟩ = false := FR.out.frozen 0 1 rfl rfl
  have c02 : v1.cell? ⟨q, 2, none⟩ = some (.int .i64 0) := FR.out.cell 0 2 rfl rfl rfl
  have f02 : v1.frozen? ⟨q, 2, none⟩ = false := FR.out.frozen 0 2 rfl rfl
  go_wp2
  have FZ : Fr w (((v1.setCell ⟨q, 0, none⟩ (.int .i64 0)).setCell ⟨q, 1, none⟩ (.int .i64 0)).setCell ⟨q, 2, none⟩ (.int .i64 0)) q [.cells #[.int .i64 0, .int .i64 0, .int .i64 0] 51] := (((FR.out.set 0 0 rfl rfl (.int .i64 0)).set 0 1 rfl rfl (.int .i64 0)).set 0 2 rfl rfl (.int .i64 0))
  refine bodyPost_ret (res_cs Try.results25 (by rfl) (FZ.load 0 rfl rfl Try.underlying51 (by kernel_rfl))) rfl ?_
  rw [HE.out]
  exact ⟨rfl, FZ.bel⟩
end Go.Proofs.Ytkoodhnfphmbnaa
