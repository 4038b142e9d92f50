/- What the document's own One and All of layer 11 answer; for lists of up to 16384 who wait. -/
import Derived.Test.YtpkegfochfkkcaaNotC
namespace Go.Proofs.Ytpkegfochfkkcaa
set_option linter.unusedVariables false
set_option linter.unusedSimpArgs false
open Go.RowKit
/-- a list, numbers, and what was wrong. -/
def LGotN (w : World) (A : Option Addr) (n c : Nat) (r : Nf × List Int × Int) (e : Ending) (w' : World) : Prop :=
  ∃ B m d C k f, e = .returned (.tuple #[.agg #[.int .u32 r.1.1, .int .u32 r.1.2.1, .slice B m d], .slice C k f, .int .i64 r.2.2]) ∧ Wts w' B m d r.1.2.2 ∧ w'.ownsRow w.heap.size 3 1 (.slice C k f) k (intC r.2.1) ∧ Below w.heap.size w w' ∧ (w'.ownsRow w.heap.size 67 2 (.slice B m d) m (wtC r.1.2.2) ∨ Value.slice B m d = .slice A n c)
/-- a list, a task, and what was wrong. -/
def OGotN (w : World) (A : Option Addr) (n c : Nat) (r : Nf × Int × Int) (e : Ending) (w' : World) : Prop :=
  ∃ B m d, e = .returned (.tuple #[.agg #[.int .u32 r.1.1, .int .u32 r.1.2.1, .slice B m d], .int .i64 r.2.1, .int .i64 r.2.2]) ∧ Wts w' B m d r.1.2.2 ∧ Below w.heap.size w w' ∧ (w'.ownsRow w.heap.size 67 2 (.slice B m d) m (wtC r.1.2.2) ∨ Value.slice B m d = .slice A n c)
theorem oneT_add (t : Int) (x : Wt) : ∀ (ws : List Wt) (acc : Int), oneT t (ws ++ [x]) acc = if x.1 = t then x.2 else oneT t ws acc
  | [], acc => rfl
  | y :: ws, acc => oneT_add t x ws _
theorem butT_add (t : Int) (x : Wt) : ∀ (ws : List Wt), butT t (ws ++ [x]) = if x.1 = t then butT t ws else butT t ws ++ [x]
  | [] => by show (if x.1 = t then butT t [] else x :: butT t []) = _; split <;> rfl
  | y :: ws => by
    show (if y.1 = t then butT t (ws ++ [x]) else y :: butT t (ws ++ [x])) = _
    rw [butT_add t x ws]
    by_cases hy : y.1 = t
    · rw [if_pos hy, show butT t (y :: ws) = butT t ws from if_pos hy]
    · rw [if_neg hy, show butT t (y :: ws) = y :: butT t ws from if_neg hy]
      split <;> rfl
theorem butT_len (t : Int) : ∀ ws, (butT t ws).length ≤ ws.length
  | [] => Nat.le_refl _
  | y :: ws => by
    have := butT_len t ws
    unfold butT
    split <;> simp <;> omega
theorem take_wt {ws : List Wt} {i : Nat} (h : i < ws.length) : ws.take (i + 1) = ws.take i ++ [wtAt ws i] := by
  unfold wtAt
  rw [List.take_add_one, List.getElem?_eq_getElem h, List.getD_eq_getElem?_getD, List.getElem?_eq_getElem h]; rfl
theorem lit_wt {w : World} {b : Nat} {x : Wt} (h : w.heap[b]? = some (.cells #[.int .u32 x.1, .int .i64 x.2] 67)) : Es w (some ⟨b, 0, none⟩) 1 1 2 (wtC [x]) := by
  refine ⟨rfl, Nat.le_refl _, wtC_one _, fun _ => ⟨b, 0, rfl, blk_lt h, fun j v hj => ?_⟩⟩
  rw [Nat.zero_add, blk_cell h]; simpa [wtC] using hj
theorem rng2n {w : World} {b o : Nat} {v0 v1 : Value} (h0 : w.cell? ⟨b, o, none⟩ = some v0) (h1 : w.cell? ⟨b, o + 1, none⟩ = some v1) : w.rangeAt b o [v0, v1] := by
  intro j v hj
  match j, hj with
  | 0, hj => simp at hj; subst hj; exact h0
  | 1, hj => simp at hj; subst hj; exact h1
  | j + 2, hj => simp at hj
end Go.Proofs.Ytpkegfochfkkcaa
