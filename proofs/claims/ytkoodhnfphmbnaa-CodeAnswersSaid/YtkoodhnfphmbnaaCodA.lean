/- Layer 13: programs and their bytes: what the document's words come to; no condition but those in each theorem. -/
import Derived.Test.YtkoodhnfphmbnaaVarC
import Derived.Test.YtkoodhnfphmbnaaAreG
namespace Go.Proofs.Ytkoodhnfphmbnaa
set_option linter.unusedVariables false
set_option linter.unusedSimpArgs false
open Go.RowKit

/-- an instruction: its number, and what stands at A, B, C. -/
abbrev I4 := Int × Int × Int × Int
def noI : I4 := (0, 0, 0, 0)
def inAt (l : List I4) (i : Nat) : I4 := l.getD i noI
/-- a program. -/
structure Pg where
  code : List I4
  kinds : List Int
  sizes : List Int
  cells : Int
  recs : Int
  pat : Int
def noPg : Pg := ⟨[], [], [], 0, 0, 0⟩
/-- is it one of so many, from 0 on? -/
def inB (n m : Int) : Bool := decide (0 ≤ n) && decide (n < m)
/-- is it an object of a kind? -/
def objB (ks : List Int) (n k : Int) : Bool := inB n ks.length && (ks.getD n.toNat 0 == k)
def z2 (b c : Int) : Bool := (b == 0) && (c == 0)
/-- is an instruction right, if it is of no object? -/
def plainB (len cells : Int) (op a b c : Int) : Bool :=
  if op = 0 then (a == 0) && ((b == 0) && (c == 0))
  else if op = 1 then inB a 4 && (decide (-2147483648 ≤ b) && (decide (b ≤ 2147483647) && (c == 0)))
  else if op = 2 ∨ op = 17 ∨ op = 18 ∨ op = 25 then (inB a 4 && inB b 4) && (c == 0)
  else if op = 3 ∨ op = 4 ∨ op = 5 ∨ op = 12 ∨ op = 13 ∨ op = 14 ∨ op = 15 ∨ op = 16 then (inB a 4 && inB b 4) && inB c 4
  else if op = 6 ∨ op = 23 then inB a len && ((b == 0) && (c == 0))
  else if op = 7 ∨ op = 22 then inB a 4 && (inB b len && (c == 0))
  else if op = 8 ∨ op = 9 ∨ op = 11 then inB a 4 && (inB b cells && (c == 0))
  else if op = 10 then inB a 4 && (inB b cells && inB c 4)
  else if op = 19 ∨ op = 20 ∨ op = 21 ∨ op = 24 ∨ op = 41 then inB a 4 && ((b == 0) && (c == 0))
  else false
/-- is an instruction right, if it is of an object? -/
def syncB (ks : List Int) (op a b c : Int) : Bool :=
  if op = 26 ∨ op = 27 then objB ks a 1 && ((b == 0) && (c == 0))
  else if op = 28 ∨ op = 29 ∨ op = 30 ∨ op = 31 then objB ks a 2 && ((b == 0) && (c == 0))
  else if op = 32 then objB ks a 3 && (inB b 4 && (c == 0))
  else if op = 33 then objB ks a 3 && ((b == 0) && (c == 0))
  else if op = 34 then objB ks a 4 && (inB b 4 && (c == 0))
  else if op = 35 then objB ks a 4 && ((b == 0) && (c == 0))
  else if op = 36 then objB ks a 5 && (objB ks b 1 && (c == 0))
  else if op = 37 ∨ op = 38 then objB ks a 5 && ((b == 0) && (c == 0))
  else if op = 39 ∨ op = 40 then objB ks a 6 && (inB b 4 && (c == 0))
  else false
def insX (p : Pg) (x : I4) : Bool := plainB p.code.length p.cells x.1 x.2.1 x.2.2.1 x.2.2.2 || syncB p.kinds x.1 x.2.1 x.2.2.1 x.2.2.2
def insB (p : Pg) (i : Int) : Bool := inB i p.code.length && insX p (inAt p.code i.toNat)
/-- may an object be of such a kind, and size? -/
def kindOk (k s : Int) : Prop := 1 ≤ k ∧ k ≤ 6 ∧ (k = 6 → 1 ≤ s ∧ s ≤ 1073741824) ∧ (k ≠ 6 → s = 0)
instance (k s : Int) : Decidable (kindOk k s) := by unfold kindOk; infer_instance
def kindsTo (p : Pg) (m : Nat) : Prop := ∀ i : Nat, i < m → kindOk (p.kinds.getD i 0) (p.sizes.getD i 0)
instance (p : Pg) (m : Nat) : Decidable (kindsTo p m) := by unfold kindsTo; infer_instance
def codeTo (p : Pg) (m : Nat) : Prop := ∀ i : Nat, i < m → insX p (inAt p.code i) = true
instance (p : Pg) (m : Nat) : Decidable (codeTo p m) := by unfold codeTo; infer_instance
def lastOk (o : Int) : Prop := o = 0 ∨ o = 6 ∨ o = 24
instance (o : Int) : Decidable (lastOk o) := by unfold lastOk; infer_instance
structure RightPg (p : Pg) : Prop where
  n1 : 1 ≤ p.code.length
  n60 : p.code.length ≤ 60
  k8 : p.kinds.length ≤ 8
  ks : p.sizes.length = p.kinds.length
  c0 : 0 ≤ p.cells
  c32 : p.cells ≤ 32
  r0 : 0 ≤ p.recs
  r64 : p.recs ≤ 64
  p1 : 1 ≤ p.pat
  p1000 : p.pat ≤ 1000
  kinds : kindsTo p p.kinds.length
  code : codeTo p p.code.length
  last : lastOk (inAt p.code (p.code.length - 1)).1
def rightC (p : Pg) : Prop := 1 ≤ p.code.length ∧ p.code.length ≤ 60 ∧ p.kinds.length ≤ 8 ∧ p.sizes.length = p.kinds.length ∧ 0 ≤ p.cells ∧ p.cells ≤ 32 ∧ 0 ≤ p.recs ∧ p.recs ≤ 64 ∧ 1 ≤ p.pat ∧ p.pat ≤ 1000 ∧ kindsTo p p.kinds.length ∧ codeTo p p.code.length ∧ lastOk (inAt p.code (p.code.length - 1)).1
instance (p : Pg) : Decidable (rightC p) := by unfold rightC; infer_instance
theorem rightC_iff {p : Pg} : rightC p ↔ RightPg p :=
  ⟨fun ⟨a, b, c, d, e, f, g, h, i, j, k, l, m⟩ => ⟨a, b, c, d, e, f, g, h, i, j, k, l, m⟩, fun ⟨a, b, c, d, e, f, g, h, i, j, k, l, m⟩ => ⟨a, b, c, d, e, f, g, h, i, j, k, l, m⟩⟩
def rightPg (p : Pg) : Bool := decide (rightC p)
theorem rightPg_iff {p : Pg} : rightPg p = true ↔ RightPg p := by unfold rightPg; rw [decide_eq_true_iff]; exact rightC_iff
theorem rightPg_no {p : Pg} (h : ¬ RightPg p) : rightPg p = false := by unfold rightPg; exact decide_eq_false (fun h2 => h (rightC_iff.1 h2))
/-- a program's numbers; their bytes. -/
def codeN : List I4 → List Int
  | [] => []
  | x :: l => x.1 :: x.2.1 :: x.2.2.1 :: x.2.2.2 :: codeN l
def objsN : List Int → List Int → List Int
  | k :: ks, s :: ss => k :: s :: objsN ks ss
  | _, _ => []
def numsP (p : Pg) : List Int := (p.code.length : Int) :: (codeN p.code ++ ((p.kinds.length : Int) :: (objsN p.kinds p.sizes ++ [p.cells, p.recs, p.pat])))
def bytesN : List Int → List Int
  | [] => []
  | y :: l => vb (zig y).toNat ++ bytesN l
def appendPg (b : List Int) (p : Pg) : List Int × Int := if rightPg p = true then (b ++ bytesN (numsP p), 0) else ([], 1)
/-- so many numbers, from a place on. -/
def manyS (bs : List Int) : Nat → Int → List Int → List Int × Int × Int
  | 0, at_, out => (out, at_, 0)
  | n + 1, at_, out => if (readIntS bs at_).2.2 ≠ 0 then ([], 0, (readIntS bs at_).2.2) else manyS bs n (readIntS bs at_).2.1 (out ++ [(readIntS bs at_).1])
def countS (bs : List Int) (at_ most each : Int) : List Int × Int × Int :=
  if (manyS bs 1 at_ []).2.2 ≠ 0 then ([], 0, (manyS bs 1 at_ []).2.2)
  else if (manyS bs 1 at_ []).1.getD 0 0 < 0 ∨ most < (manyS bs 1 at_ []).1.getD 0 0 then ([], 0, 4)
  else manyS bs ((manyS bs 1 at_ []).1.getD 0 0 * each).toNat (manyS bs 1 at_ []).2.1 []
def quads : List Int → List I4
  | a :: b :: c :: d :: l => (a, b, c, d) :: quads l
  | _ => []
def evens : List Int → List Int
  | a :: _ :: l => a :: evens l
  | _ => []
def odds : List Int → List Int
  | _ :: b :: l => b :: odds l
  | _ => []
def mkPg (code objs rest : List Int) : Pg := ⟨quads code, evens objs, odds objs, rest.getD 0 0, rest.getD 1 0, rest.getD 2 0⟩
def endPg (code objs rest : List Int) (at_ : Int) : Pg × Int × Int := if rightPg (mkPg code objs rest) = true then (mkPg code objs rest, at_, 0) else (noPg, 0, 3)
def readPg (bs : List Int) (at_ : Int) : Pg × Int × Int :=
  if at_ < 0 ∨ (bs.length : Int) < at_ then (noPg, 0, 1)
  else if (countS bs at_ 60 4).2.2 ≠ 0 then (noPg, 0, (countS bs at_ 60 4).2.2)
  else if (countS bs (countS bs at_ 60 4).2.1 8 2).2.2 ≠ 0 then (noPg, 0, (countS bs (countS bs at_ 60 4).2.1 8 2).2.2)
  else if (manyS bs 3 (countS bs (countS bs at_ 60 4).2.1 8 2).2.1 []).2.2 ≠ 0 then (noPg, 0, (manyS bs 3 (countS bs (countS bs at_ 60 4).2.1 8 2).2.1 []).2.2)
  else endPg (countS bs at_ 60 4).1 (countS bs (countS bs at_ 60 4).2.1 8 2).1 (manyS bs 3 (countS bs (countS bs at_ 60 4).2.1 8 2).2.1 []).1 (manyS bs 3 (countS bs (countS bs at_ 60 4).2.1 8 2).2.1 []).2.1
/-- instructions, as cells. -/
def insC : List I4 → List Value
  | [] => []
  | x :: l => .int .i64 x.1 :: .int .i64 x.2.1 :: .int .i64 x.2.2.1 :: .int .i64 x.2.2.2 :: insC l
theorem insC_len : ∀ l, (insC l).length = l.length * 4
  | [] => rfl
  | x :: l => by simp [insC, insC_len l]; omega
theorem insC_one : ∀ l, ∀ u ∈ insC l, u.oneCell' = true
  | [], u, h => by simp [insC] at h
  | x :: l, u, h => by
    simp only [insC, List.mem_cons] at h
    rcases h with rfl | rfl | rfl | rfl | h
    · rfl
    · rfl
    · rfl
    · rfl
    · exact insC_one l u h
theorem insC_app : ∀ a b, insC (a ++ b) = insC a ++ insC b
  | [], b => rfl
  | x :: a, b => by simp [insC, insC_app a b]
theorem inAt_cons (x : I4) (l : List I4) (i : Nat) : inAt (x :: l) (i + 1) = inAt l i := rfl
theorem insC_at : ∀ (l : List I4) (i : Nat), i < l.length → (insC l)[i * 4]? = some (.int .i64 (inAt l i).1) ∧ (insC l)[i * 4 + 1]? = some (.int .i64 (inAt l i).2.1) ∧ (insC l)[i * 4 + 2]? = some (.int .i64 (inAt l i).2.2.1) ∧ (insC l)[i * 4 + 3]? = some (.int .i64 (inAt l i).2.2.2)
  | [], i, h => by simp at h
  | x :: l, 0, _ => ⟨rfl, rfl, rfl, rfl⟩
  | x :: l, i + 1, h => by
    have := insC_at l i (by simpa using h)
    rw [inAt_cons, show (i + 1) * 4 = i * 4 + 4 by omega]
    exact this
/-- the slice '.slice A n c' reads as instructions. -/
def I4s (w : World) (A : Option Addr) (n c : Nat) (l : List I4) : Prop := Es w A n c 4 (insC l)
theorem I4s.len {w : World} {A : Option Addr} {n c : Nat} {l : List I4} (h : I4s w A n c l) : l.length = n := by
  have := Es.len h; rw [insC_len] at this; omega
theorem I4s.look {w : World} {A : Option Addr} {n c : Nat} {l : List I4} (h : I4s w A n c l) (i : Nat) (hi : i < n) :
    ∃ b off, A = some ⟨b, off, none⟩ ∧ b < w.heap.size ∧ w.cell? ⟨b, off + i * 4, none⟩ = some (.int .i64 (inAt l i).1) ∧ w.cell? ⟨b, off + i * 4 + 1, none⟩ = some (.int .i64 (inAt l i).2.1) ∧ w.cell? ⟨b, off + i * 4 + 2, none⟩ = some (.int .i64 (inAt l i).2.2.1) ∧ w.cell? ⟨b, off + i * 4 + 3, none⟩ = some (.int .i64 (inAt l i).2.2.2) := by
  obtain ⟨b, off, e, hb, hc⟩ := Es.mem h (by omega)
  obtain ⟨h0, h1, h2, h3⟩ := insC_at l i (by have := h.len; omega)
  exact ⟨b, off, e, hb, hc _ _ h0, by have := hc _ _ h1; rwa [← Nat.add_assoc] at this, by have := hc _ _ h2; rwa [← Nat.add_assoc] at this, by have := hc _ _ h3; rwa [← Nat.add_assoc] at this⟩
theorem i4s_own {w : World} {base n d : Nat} {B : Option Addr} {l : List I4} (h : w.ownsRow base 40 4 (.slice B n d) n (insC l)) : I4s w B n d l := by
  obtain ⟨B', d', he, hrs⟩ := Es.of_own h (insC_one _)
  injection he with he1 he2 he3; subst he1; subst he3; exact hrs
theorem infoI4 : (Try.prog.info? 40).map (fun i => (i.zero, i.size, i.bytes)) = some (some (.agg #[.int .i64 0, .int .i64 0, .int .i64 0, .int .i64 0]), 4, 32) := by kernel_rfl
/-- numbers of 64 bits, where they must be. -/
structure PB (p : Pg) : Prop where
  code : ∀ x ∈ p.code, (-9223372036854775808 ≤ x.1 ∧ x.1 ≤ 9223372036854775807) ∧ (-9223372036854775808 ≤ x.2.1 ∧ x.2.1 ≤ 9223372036854775807) ∧ (-9223372036854775808 ≤ x.2.2.1 ∧ x.2.2.1 ≤ 9223372036854775807) ∧ (-9223372036854775808 ≤ x.2.2.2 ∧ x.2.2.2 ≤ 9223372036854775807)
  kinds : ∀ x ∈ p.kinds, -9223372036854775808 ≤ x ∧ x ≤ 9223372036854775807
  sizes : ∀ x ∈ p.sizes, -9223372036854775808 ≤ x ∧ x ≤ 9223372036854775807
end Go.Proofs.Ytkoodhnfphmbnaa
