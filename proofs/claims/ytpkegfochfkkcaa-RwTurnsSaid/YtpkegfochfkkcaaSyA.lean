/- Layers 15 to 22: frames, claims, objects, acts as cells; no condition but those in each theorem. -/
import Derived.Test.YtpkegfochfkkcaaMutA
import Derived.Test.YtpkegfochfkkcaaNotA
import Derived.Test.YtpkegfochfkkcaaSyn
namespace Go.Proofs.Ytpkegfochfkkcaa
set_option linter.unusedVariables false
set_option linter.unusedSimpArgs false
open Go.RowKit
def frC (f : MFr) : List Value := [.int .i64 f.op, .int .i64 f.stage, .int .i64 f.phase, .int .i64 f.old, .int .i64 f.since, .int .i64 f.left, .bool f.awoke, .bool f.starve, .int .i64 f.need, .bool f.front]
def frV (f : MFr) : Value := .agg (frC f).toArray
/-- a claim: a task, and how much. -/
abbrev Cl := Int × Int
def noCl : Cl := (0, 0)
def clAt (ws : List Cl) (i : Nat) : Cl := ws.getD i noCl
def clC : List Cl → List Value
  | [] => []
  | x :: ws => .int .i64 x.1 :: .int .i64 x.2 :: clC ws
theorem clC_len : ∀ ws, (clC ws).length = ws.length * 2
  | [] => rfl
  | x :: ws => by simp [clC, clC_len ws]; omega
theorem clC_one : ∀ ws, ∀ u ∈ clC ws, u.oneCell' = true
  | [], u, h => by simp [clC] at h
  | x :: ws, u, h => by
    simp only [clC, List.mem_cons] at h
    rcases h with rfl | rfl | h
    · rfl
    · rfl
    · exact clC_one ws u h
theorem clC_app : ∀ a b, clC (a ++ b) = clC a ++ clC b
  | [], b => rfl
  | x :: a, b => by simp [clC, clC_app a b]
theorem clAt_cons (x : Cl) (ws : List Cl) (i : Nat) : clAt (x :: ws) (i + 1) = clAt ws i := rfl
theorem clC_at : ∀ (ws : List Cl) (i : Nat), i < ws.length → (clC ws)[i * 2]? = some (.int .i64 (clAt ws i).1) ∧ (clC ws)[i * 2 + 1]? = some (.int .i64 (clAt ws i).2)
  | [], i, h => by simp at h
  | x :: ws, 0, _ => ⟨rfl, rfl⟩
  | x :: ws, i + 1, h => by
    have := clC_at ws i (by simpa using h)
    rw [clAt_cons, show (i + 1) * 2 = i * 2 + 2 by omega]
    exact this
/-- the slice '.slice A n c' reads as claims. -/
def Cls (w : World) (A : Option Addr) (n c : Nat) (ws : List Cl) : Prop := Es w A n c 2 (clC ws)
theorem Cls.len {w : World} {A : Option Addr} {n c : Nat} {ws : List Cl} (h : Cls w A n c ws) : ws.length = n := by
  have := Es.len h; rw [clC_len] at this; omega
theorem Cls.look {w : World} {A : Option Addr} {n c : Nat} {ws : List Cl} (h : Cls w A n c ws) (i : Nat) (hi : i < n) :
    ∃ b off, A = some ⟨b, off, none⟩ ∧ b < w.heap.size ∧ w.cell? ⟨b, off + i * 2, none⟩ = some (.int .i64 (clAt ws i).1) ∧ w.cell? ⟨b, off + i * 2 + 1, none⟩ = some (.int .i64 (clAt ws i).2) := by
  obtain ⟨b, off, e, hb, hc⟩ := Es.mem h (by omega)
  obtain ⟨h0, h1⟩ := clC_at ws i (by have := h.len; omega)
  exact ⟨b, off, e, hb, hc _ _ h0, by have := hc _ _ h1; rwa [← Nat.add_assoc] at this⟩
def obV (kd o0 o1 o2 o3 o4 o5 wa to : Int) (A : Option Addr) (n c : Nat) (B : Option Addr) (m d : Nat) : Value := .agg #[.int .i64 kd, .int .i64 o0, .int .i64 o1, .int .i64 o2, .int .i64 o3, .int .i64 o4, .int .i64 o5, .int .u32 wa, .int .u32 to, .slice A n c, .slice B m d]
def acV (a : MAct) : Value := .agg #[.bool a.done, .bool false, .bool a.hand, .int .i64 a.give, .int .i64 a.fault, .int .u64 0, .slice none 0 0]
/-- a yes or a no. -/
def YesS (w : World) (b : Bool) (e : Ending) (w' : World) : Prop := e = .returned (.bool b) ∧ Below w.heap.size w w'
end Go.Proofs.Ytpkegfochfkkcaa
