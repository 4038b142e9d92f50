/- Layer 11: tickets of a condition: what the document's words come to; no condition but those in each theorem. -/
import Derived.Test.YtpkegfochfkkcaaAreG
namespace Go.Proofs.Ytpkegfochfkkcaa
set_option linter.unusedVariables false
set_option linter.unusedSimpArgs false
open Go.RowKit

/-- one who waits: a ticket, a task. -/
abbrev Wt := Int × Int
/-- a list: the next ticket that is given, the next one that is told, who waits. -/
abbrev Nf := Int × Int × List Wt
def noWt : Wt := (0, 0)
def wtAt (ws : List Wt) (i : Nat) : Wt := ws.getD i noWt
/-- how far it is from a ticket on to another one, going round. -/
def far (f t : Int) : Int := (t + 4294967296 - f) % 4294967296
def outP (n : Nf) (t : Int) : Prop := far n.2.1 t < far n.2.1 n.1
instance (n : Nf) (t : Int) : Decidable (outP n t) := by unfold outP; infer_instance
def outN (n : Nf) (t : Int) : Bool := decide (outP n t)
def okW (n : Nf) (i : Nat) : Prop := 0 ≤ (wtAt n.2.2 i).2 ∧ outP n (wtAt n.2.2 i).1 ∧ ∀ k : Nat, k < i → (wtAt n.2.2 k).1 ≠ (wtAt n.2.2 i).1 ∧ (wtAt n.2.2 k).2 ≠ (wtAt n.2.2 i).2
instance (n : Nf) (i : Nat) : Decidable (okW n i) := by unfold okW; infer_instance
def okWs (n : Nf) (m : Nat) : Prop := ∀ i : Nat, i < m → okW n i
instance (n : Nf) (m : Nat) : Decidable (okWs n m) := by unfold okWs; infer_instance
def rightP11 (n : Nf) : Prop := far n.2.1 n.1 ≤ 1000 ∧ n.2.2.length ≤ 12 ∧ okWs n n.2.2.length
instance (n : Nf) : Decidable (rightP11 n) := by unfold rightP11; infer_instance
def rightN (n : Nf) : Bool := decide (rightP11 n)
def toldN (n : Nf) (t : Int) : Bool := decide (2147483648 ≤ far n.2.1 t)
def next32 (t : Int) : Int := (t + 1) % 4294967296
def addN (n : Nf) : Nf × Int × Int := if rightN n = false then (n, 0, 1) else if far n.2.1 n.1 = 1000 then (n, 0, 6) else ((next32 n.1, n.2.1, n.2.2), n.1, 0)
/-- has one of the first so many this ticket, or this task? -/
def anyW (ws : List Wt) (ticket task : Int) (m : Nat) : Prop := ∃ i : Nat, i < m ∧ ((wtAt ws i).1 = ticket ∨ (wtAt ws i).2 = task)
instance (ws : List Wt) (ticket task : Int) (m : Nat) : Decidable (anyW ws ticket task m) := by unfold anyW; infer_instance
def parkN (n : Nf) (ticket task : Int) : Nf × Int :=
  if rightN n = false ∨ task < 0 ∨ outN n ticket = false then (n, 1) else if anyW n.2.2 ticket task n.2.2.length then (n, 8) else if 12 ≤ n.2.2.length then (n, 6) else ((n.1, n.2.1, n.2.2 ++ [(ticket, task)]), 0)
/-- who waits with a ticket: the last one; -1. -/
def oneT (t : Int) : List Wt → Int → Int
  | [], acc => acc
  | x :: ws, acc => oneT t ws (if x.1 = t then x.2 else acc)
def butT (t : Int) : List Wt → List Wt
  | [] => []
  | x :: ws => if x.1 = t then butT t ws else x :: butT t ws
def oneN (n : Nf) : Nf × Int × Int :=
  if rightN n = false then (n, 0, 1) else if n.2.1 = n.1 then (n, 0, 7) else ((n.1, next32 n.2.1, butT n.2.1 n.2.2), oneT n.2.1 n.2.2 (-1), 0)
def allN (n : Nf) : Nf × List Int × Int := if rightN n = false then (n, [], 1) else ((n.1, n.1, []), n.2.2.map (·.2), 0)
/-- numbers of 32 bits, where they must be. -/
structure NB (n : Nf) : Prop where
  w0 : 0 ≤ n.1
  w1 : n.1 < 4294967296
  t0 : 0 ≤ n.2.1
  t1 : n.2.1 < 4294967296
  ws : ∀ x ∈ n.2.2, 0 ≤ x.1 ∧ x.1 < 4294967296
  ts : ∀ x ∈ n.2.2, -9223372036854775808 ≤ x.2 ∧ x.2 < 9223372036854775808
theorem wtAt_mem {ws : List Wt} {i : Nat} (h : i < ws.length) : wtAt ws i ∈ ws := by
  unfold wtAt
  rw [List.getD_eq_getElem?_getD, List.getElem?_eq_getElem h]
  exact List.getElem_mem h
theorem far_ge (f t : Int) : 0 ≤ far f t := by unfold far; omega
theorem far_lt (f t : Int) : far f t < 4294967296 := by unfold far; omega
theorem rightN_iff {n : Nf} : rightN n = true ↔ rightP11 n := by unfold rightN; exact decide_eq_true_iff
theorem rightN_no {n : Nf} (h : ¬ rightP11 n) : rightN n = false := by unfold rightN; exact decide_eq_false h
/-- those who wait, as cells. -/
def wtC : List Wt → List Value
  | [] => []
  | x :: ws => .int .u32 x.1 :: .int .i64 x.2 :: wtC ws
theorem wtC_len : ∀ ws, (wtC ws).length = ws.length * 2
  | [] => rfl
  | x :: ws => by simp [wtC, wtC_len ws]; omega
theorem wtC_one : ∀ ws, ∀ u ∈ wtC ws, u.oneCell' = true
  | [], u, h => by simp [wtC] at h
  | x :: ws, u, h => by
    simp only [wtC, List.mem_cons] at h
    rcases h with rfl | rfl | h
    · rfl
    · rfl
    · exact wtC_one ws u h
theorem wtC_app : ∀ a b, wtC (a ++ b) = wtC a ++ wtC b
  | [], b => rfl
  | x :: a, b => by simp [wtC, wtC_app a b]
theorem wtAt_cons (x : Wt) (ws : List Wt) (i : Nat) : wtAt (x :: ws) (i + 1) = wtAt ws i := rfl
theorem wtC_at : ∀ (ws : List Wt) (i : Nat), i < ws.length → (wtC ws)[i * 2]? = some (.int .u32 (wtAt ws i).1) ∧ (wtC ws)[i * 2 + 1]? = some (.int .i64 (wtAt ws i).2)
  | [], i, h => by simp at h
  | x :: ws, 0, _ => ⟨rfl, rfl⟩
  | x :: ws, i + 1, h => by
    have := wtC_at ws i (by simpa using h)
    rw [wtAt_cons, show (i + 1) * 2 = i * 2 + 2 by omega]
    exact this
/-- the slice '.slice A n c' reads as those who wait. -/
def Wts (w : World) (A : Option Addr) (n c : Nat) (ws : List Wt) : Prop := Es w A n c 2 (wtC ws)
theorem Wts.len {w : World} {A : Option Addr} {n c : Nat} {ws : List Wt} (h : Wts w A n c ws) : ws.length = n := by
  have := Es.len h; rw [wtC_len] at this; omega
theorem Wts.look {w : World} {A : Option Addr} {n c : Nat} {ws : List Wt} (h : Wts w A n c ws) (i : Nat) (hi : i < n) :
    ∃ b off, A = some ⟨b, off, none⟩ ∧ b < w.heap.size ∧ w.cell? ⟨b, off + i * 2, none⟩ = some (.int .u32 (wtAt ws i).1) ∧ w.cell? ⟨b, off + i * 2 + 1, none⟩ = some (.int .i64 (wtAt ws i).2) := by
  obtain ⟨b, off, e, hb, hc⟩ := Es.mem h (by omega)
  obtain ⟨h0, h1⟩ := wtC_at ws i (by have := h.len; omega)
  exact ⟨b, off, e, hb, hc _ _ h0, by have := hc _ _ h1; rwa [← Nat.add_assoc] at this⟩
theorem wts_own {w : World} {base n d : Nat} {B : Option Addr} {ws : List Wt} (h : w.ownsRow base 67 2 (.slice B n d) n (wtC ws)) : Wts w B n d ws := by
  obtain ⟨B', d', he, hrs⟩ := Es.of_own h (wtC_one _)
  injection he with he1 he2 he3; subst he1; subst he3; exact hrs
theorem infoWt : (Try.prog.info? 67).map (fun i => (i.zero, i.size, i.bytes)) = some (some (.agg #[.int .u32 0, .int .i64 0]), 2, 16) := by kernel_rfl
theorem wt_neq (x y : Wt) (W : World) : (binOp .neq 67 (.agg #[.int .u32 x.1, .int .i64 x.2]) (.agg #[.int .u32 y.1, .int .i64 y.2])).run Try.prog W = .ok (.bool (decide (x ≠ y))) W := by
  obtain ⟨a1, a2⟩ := x
  obtain ⟨b1, b2⟩ := y
  have hd : decide (((a1, a2) : Wt) ≠ (b1, b2)) = !(decide (a1 = b1) && decide (a2 = b2)) := by
    by_cases h1 : a1 = b1 <;> by_cases h2 : a2 = b2 <;> simp [h1, h2]
  rw [hd]
  go_simp
  (repeat' split) <;> simp_all
end Go.Proofs.Ytpkegfochfkkcaa
