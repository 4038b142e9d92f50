/- Layer 9: treaps: what the document's words come to; no condition but those in each theorem. -/
import Derived.Test.YtfgfohomgomidaaAreD
namespace Go.Proofs.Ytfgfohomgomidaa
set_option linter.unusedVariables false
set_option linter.unusedSimpArgs false
open Go.RowKit

/-- a node: its key, its priority, what is left and right of it, its queue. -/
structure Nd where
  k : Int
  p : Int
  l : Int
  r : Int
  h : Int
  t : Int
theorem Nd.eq {a b : Nd} (h1 : a.k = b.k) (h2 : a.p = b.p) (h3 : a.l = b.l) (h4 : a.r = b.r) (h5 : a.h = b.h) (h6 : a.t = b.t) : a = b := by
  cases a; cases b; simp_all
instance : DecidableEq Nd := fun a b => decidable_of_iff (a.k = b.k ∧ a.p = b.p ∧ a.l = b.l ∧ a.r = b.r ∧ a.h = b.h ∧ a.t = b.t)
  ⟨fun ⟨h1, h2, h3, h4, h5, h6⟩ => Nd.eq h1 h2 h3 h4 h5 h6, fun h => by subst h; exact ⟨rfl, rfl, rfl, rfl, rfl, rfl⟩⟩
def noNd : Nd := ⟨0, 0, 0, 0, 0, 0⟩
def empN (next : Int) : Nd := ⟨-1, 0, next, -1, -1, -1⟩
/-- a treap: its nodes, the one on top, and the first free one. -/
abbrev Trp := List Nd × Int × Int
def ndAt (ns : List Nd) (i : Int) : Nd := ns.getD i.toNat noNd
def keyT (ns : List Nd) (i : Int) : Int := (ndAt ns i).k
def prT (ns : List Nd) (i : Int) : Int := (ndAt ns i).p
/-- may not stand next in the free list? -/
def badT (ns : List Nd) (out : List Int) (at_ : Int) : Prop := at_ < 0 ∨ (ns.length : Int) ≤ at_ ∨ at_ ∈ out ∨ ndAt ns at_ ≠ empN (ndAt ns at_).l
instance (ns : List Nd) (out : List Int) (at_ : Int) : Decidable (badT ns out at_) := by unfold badT; infer_instance
/-- the free list from a place on. -/
def walkT (ns : List Nd) : Nat → Int → List Int → Option (List Int)
  | 0, _, _ => none
  | f + 1, at_, out => if at_ = -1 then some out else if badT ns out at_ then none else walkT ns f (ndAt ns at_).l (out ++ [at_])
def freeW (p : Trp) : Option (List Int) := walkT p.1 (p.1.length + 1) p.2.2 []
/-- the free list; none, where it doesn't end. -/
def freeT (p : Trp) : List Int := (freeW p).getD []
/-- a place among others that stand by their keys. -/
def insK (ns : List Nd) (x : Int) : List Int → List Int
  | [] => [x]
  | y :: l => if keyT ns y < keyT ns x then y :: insK ns x l else x :: y :: l
/-- the places up to one that aren't free, by their keys. -/
def sortK (ns : List Nd) (fl : List Int) : Nat → List Int
  | 0 => []
  | k + 1 => if (k : Int) ∈ fl then sortK ns fl k else insK ns k (sortK ns fl k)
def sortT (p : Trp) : List Int := sortK p.1 (freeT p) p.1.length
/-- of the first so many places the first one of the least priority. -/
def bestI (ns : List Nd) (l : List Int) : Nat → Nat
  | 0 => 0
  | k + 1 => if prT ns (l.getD k 0) < prT ns (l.getD (bestI ns l k) 0) then k else bestI ns l k
def setL (ns : List Nd) (i x : Int) : List Nd := ns.set i.toNat { ndAt ns i with l := x }
def setR (ns : List Nd) (i x : Int) : List Nd := ns.set i.toNat { ndAt ns i with r := x }
/-- the tree of places that stand by their keys: laid into nodes; and the one on top. -/
def laidT : Nat → List Nd → List Int → List Nd × Int
  | 0, ns, _ => (ns, -1)
  | f + 1, ns, l => if l = [] then (ns, -1) else
    (setR (laidT f (setL (laidT f ns (l.take (bestI ns l l.length))).1 (l.getD (bestI ns l l.length) 0) (laidT f ns (l.take (bestI ns l l.length))).2) (l.drop (bestI ns l l.length + 1))).1 (l.getD (bestI ns l l.length) 0)
      (laidT f (setL (laidT f ns (l.take (bestI ns l l.length))).1 (l.getD (bestI ns l l.length) 0) (laidT f ns (l.take (bestI ns l l.length))).2) (l.drop (bestI ns l l.length + 1))).2,
      l.getD (bestI ns l l.length) 0)
def laidP (p : Trp) : Trp := ((laidT (sortT p).length p.1 (sortT p)).1, (laidT (sortT p).length p.1 (sortT p)).2, p.2.2)
/-- do keys rise, from 0 on? -/
def keysOk (ns : List Nd) (l : List Int) (k : Nat) : Prop := ∀ i : Nat, i < k → 0 ≤ keyT ns (l.getD i 0) ∧ (0 < i → keyT ns (l.getD (i - 1) 0) ≠ keyT ns (l.getD i 0))
def rightP9 (p : Trp) : Prop := p.1.length ≤ 64 ∧ (freeW p).isSome = true ∧ keysOk p.1 (sortT p) (sortT p).length ∧ laidP p = p
instance (ns : List Nd) (l : List Int) (k : Nat) : Decidable (keysOk ns l k) := by unfold keysOk; infer_instance
instance (p : Trp) : Decidable (rightP9 p) := by unfold rightP9; infer_instance
def rightT (p : Trp) : Bool := decide (rightP9 p)
def keysT (p : Trp) : List Int := if rightT p = true then (sortT p).map (keyT p.1) else []
/-- a key's place: the first one; -1. -/
def placeN (ns : List Nd) (key : Int) : Nat → Nat → Int
  | 0, _ => -1
  | f + 1, i => if (ndAt ns i).k = key ∧ 0 ≤ key then (i : Int) else placeN ns key f (i + 1)
def placeT (ns : List Nd) (key : Int) : Int := placeN ns key ns.length 0
/-- a key's place, looked for from a node on. -/
def findN (ns : List Nd) (key : Int) : Nat → Int → Int → Int × Int × Bool
  | 0, _, looks => (0, looks, false)
  | f + 1, at_, looks => if at_ = -1 then (0, looks, false) else if (ndAt ns at_).k = key then (at_, looks + 1, true) else
    findN ns key f (if key < (ndAt ns at_).k then (ndAt ns at_).l else (ndAt ns at_).r) (looks + 1)
def findT (p : Trp) (key : Int) : Int × Int × Bool := if rightT p = true then findN p.1 key (p.1.length + 1) p.2.1 0 else (0, 0, false)
def newN (key prio : Int) : Nd := ⟨key, prio, -1, -1, -1, -1⟩
def putIn (p : Trp) (key prio : Int) : Trp := (p.1.set p.2.2.toNat (newN key prio), p.2.1, (ndAt p.1 p.2.2).l)
def insT (p : Trp) (key prio : Int) : Trp × Int × Int :=
  if rightT p = false ∨ key < 0 then (p, 0, 1) else if 0 ≤ placeT p.1 key then (p, 0, 8) else if p.2.2 = -1 then (p, 0, 6) else (laidP (putIn p key prio), p.2.2, 0)
def takeOut (p : Trp) (i : Int) : Trp := (p.1.set i.toNat (empN p.2.2), p.2.1, i)
def delT (p : Trp) (key : Int) : Trp × Int :=
  if rightT p = false then (p, 1) else if placeT p.1 key < 0 then (p, 7) else
  if ((ndAt p.1 (placeT p.1 key)).h, (ndAt p.1 (placeT p.1 key)).t) ≠ (-1, -1) then (p, 8) else (laidP (takeOut p (placeT p.1 key)), 0)
def hangT (p : Trp) (key h t : Int) : Trp × Int :=
  if rightT p = false then (p, 1) else if placeT p.1 key < 0 then (p, 7) else ((p.1.set (placeT p.1 key).toNat { ndAt p.1 (placeT p.1 key) with h := h, t := t }, p.2.1, p.2.2), 0)
/-- n empty nodes from a place on, each leading to the one behind it. -/
def freshT : Nat → Nat → List Nd
  | _, 0 => []
  | _, 1 => [empN (-1)]
  | at_, n + 2 => empN ((at_ : Int) + 1) :: freshT (at_ + 1) (n + 1)
def makeT (n : Int) : Trp × Int := if n < 0 ∨ 64 < n then (([], 0, 0), 1) else ((freshT 0 n.toNat, -1, if n = 0 then -1 else 0), 0)
end Go.Proofs.Ytfgfohomgomidaa
