/- What the program's own Make of layer 7 answers; no condition; and all of its contracts in the shapes that the walks want. -/
import Derived.Test.YtombfempdfdeoaaAreOE
import Derived.Test.YtombfempdfdeoaaAreH
namespace Go.Proofs.Ytombfempdfdeoaa
set_option linter.unusedVariables false
set_option linter.unusedSimpArgs false
open Go.RowKit

theorem recC_zero : ∀ n : Nat, recC (List.replicate n noRec) = List.replicate (n * 3) (Value.int .i64 0)
  | 0 => rfl
  | n + 1 => by rw [List.replicate_succ, recC, recC_zero n, show (n + 1) * 3 = n * 3 + 1 + 1 + 1 by omega, List.replicate_succ, List.replicate_succ, List.replicate_succ]; rfl
theorem made_zero (n : Nat) : (madeCells (Value.agg #[.int .i64 0, .int .i64 0, .int .i64 0]).cells (n * 3)).toList = recC (List.replicate n noRec) := by
  rw [recC_zero]
  apply List.ext_getElem
  · simp [madeCells]
  · intro i h1 h2
    simp only [madeCells, Array.toList_map, Array.toList_range, List.getElem_map, List.getElem_range, List.getElem_replicate]
    rcases (by omega : i % 3 = 0 ∨ i % 3 = 1 ∨ i % 3 = 2) with h | h | h <;> simp [Value.cells, h]
/-- the records so far. -/
def partMade (n t : Nat) : List Rec3 := List.replicate (n - t) noRec ++ made n t
theorem made_len (n t : Nat) : (made n t).length = t := freshL_len _ _
theorem partMade_step {n t : Nat} (h : t < n) : (partMade n t).set (n - 1 - t) (-1, -1, madeFr n t) = partMade n (t + 1) := by
  unfold partMade
  rw [made_step h, show n - t = (n - (t + 1)) + 1 by omega, List.replicate_succ', List.append_assoc, List.set_append_right _ _ (by simp; omega)]
  simp only [List.length_replicate]
  rw [show n - 1 - t - (n - (t + 1)) = 0 by omega]
  rfl
theorem partMade_end (n : Nat) : partMade n n = made n n := by unfold partMade; rw [Nat.sub_self]; rfl
theorem arnTake_own (A : Option Addr) (n c : Nat) (rs : List Rec3) (fr key task : Int) (w : World) (hx : Rs w A n c rs) (hn : n ≤ 16384) :
    Calls Try.prog 33 #[.agg #[.slice A n c, .int .i64 fr], .int .i64 key, .int .i64 task] w (TakeOwn w (arTake (rs, fr) key task)) := (arnTake_all A n c rs fr key task w hx hn).mono fun _ _ h => h.own
theorem arnTake_any (A : Option Addr) (n c : Nat) (rs : List Rec3) (fr key task : Int) (w : World) (hx : Rs w A n c rs) (hn : n ≤ 16384) :
    Calls Try.prog 33 #[.agg #[.slice A n c, .int .i64 fr], .int .i64 key, .int .i64 task] w (TakePost w (arTake (rs, fr) key task)) := (arnTake_all A n c rs fr key task w hx hn).mono fun _ _ h => h.post
theorem arnGive_own (A : Option Addr) (n c : Nat) (rs : List Rec3) (fr i : Int) (w : World) (hx : Rs w A n c rs) (hn : n ≤ 16384) :
    Calls Try.prog 42 #[.agg #[.slice A n c, .int .i64 fr], .int .i64 i] w (GiveOwn w (arGive (rs, fr) i)) := (arnGive_all A n c rs fr i w hx hn).mono fun _ _ h => h.own
theorem arnGive_any (A : Option Addr) (n c : Nat) (rs : List Rec3) (fr i : Int) (w : World) (hx : Rs w A n c rs) (hn : n ≤ 16384) :
    Calls Try.prog 42 #[.agg #[.slice A n c, .int .i64 fr], .int .i64 i] w (GivePost w (arGive (rs, fr) i)) := (arnGive_all A n c rs fr i w hx hn).mono fun _ _ h => h.post
theorem arnSet_own (A : Option Addr) (n c : Nat) (rs : List Rec3) (fr i next : Int) (w : World) (hx : Rs w A n c rs) (hn : n ≤ 16384) :
    Calls Try.prog 34 #[.agg #[.slice A n c, .int .i64 fr], .int .i64 i, .int .i64 next] w (GiveOwn w (arSet (rs, fr) i next)) := (arnSet_all A n c rs fr i next w hx hn).mono fun _ _ h => h.own
theorem arnSet_any (A : Option Addr) (n c : Nat) (rs : List Rec3) (fr i next : Int) (w : World) (hx : Rs w A n c rs) (hn : n ≤ 16384) :
    Calls Try.prog 34 #[.agg #[.slice A n c, .int .i64 fr], .int .i64 i, .int .i64 next] w (GivePost w (arSet (rs, fr) i next)) := (arnSet_all A n c rs fr i next w hx hn).mono fun _ _ h => h.post
end Go.Proofs.Ytombfempdfdeoaa
