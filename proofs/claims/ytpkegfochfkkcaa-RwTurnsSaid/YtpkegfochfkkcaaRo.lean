/- Words on memory for rows that a statement's walk holds: each is old, or lies in a block of its own type; over any world. -/
import Derived.Test.YtpkegfochfkkcaaFr
namespace Go.Proofs.Ytpkegfochfkkcaa
set_option linter.unusedVariables false
set_option linter.unusedSimpArgs false
open Go.RowKit

/-- the slice '.slice B m d' reads as the cells cs (k each), and lies in what was in w0, or in a block of type T. -/
structure Ro (T : TypeId) (k : Nat) (w0 w : World) (B : Option Addr) (m d : Nat) (cs : List Value) : Prop where
  es : Es w B m d k cs
  tag : 0 < m → ∃ b o, B = some ⟨b, o, none⟩ ∧ (b < w0.heap.size ∨ ∃ xs fr, w.heap[b]? = some (.cells xs T fr))
section
variable {T : TypeId} {k : Nat} {w0 w w' : World} {B : Option Addr} {m d : Nat} {cs : List Value}
theorem Ro.old (h : Es w0 B m d k cs) : Ro T k w0 w0 B m d cs := ⟨h, fun hm => by
  obtain ⟨b, o, e, hb, _⟩ := h.mem hm
  exact ⟨b, o, e, Or.inl hb⟩⟩
theorem Ro.nil (T : TypeId) (k : Nat) (w0 w : World) (B : Option Addr) (d : Nat) : Ro T k w0 w B 0 d [] := ⟨Es.nil _ _ _ _, fun h => absurd h (by omega)⟩
theorem Ro.of_own {base : Nat} (h : w.ownsRow base T k (.slice B m d) m cs) (h1 : ∀ u ∈ cs, u.oneCell' = true) : Ro T k w0 w B m d cs := by
  obtain ⟨B', d', he, hrs⟩ := Es.of_own h h1
  injection he with he1 he2 he3; subst he1; subst he3
  refine ⟨hrs, fun hm => ?_⟩
  rcases h.2 with ⟨_, h0⟩ | ⟨g, cap, cur, h1, h2, h3, h4⟩
  · omega
  · injection h1 with h1; exact ⟨g, 0, h1, Or.inr ⟨cur, _, h3⟩⟩
theorem Ro.below (h : Ro T k w0 w B m d cs) (hb : Below w.heap.size w w') : Ro T k w0 w' B m d cs := ⟨h.es.below hb, fun hm => by
  obtain ⟨b, o, e, hh⟩ := h.tag hm
  refine ⟨b, o, e, ?_⟩
  rcases hh with hh | ⟨xs, fr, hh⟩
  · exact Or.inl hh
  · exact Or.inr ⟨xs, fr, by rw [hb.block b (blk_lt hh)]; exact hh⟩⟩
/-- a variable of another type is stored. -/
theorem Ro.set {s o : Nat} {ys : Array Value} {T' : TypeId} {fr : Nat × Nat} {u : Value} (h : Ro T k w0 w B m d cs) (hs : w.heap[s]? = some (.cells ys T' fr)) (hT : T ≠ T') (h0 : w0.heap.size ≤ s) : Ro T k w0 (w.setCell ⟨s, o, none⟩ u) B m d cs := by
  have hne : ∀ b, (b < w0.heap.size ∨ ∃ xs fr, w.heap[b]? = some (.cells xs T fr)) → b ≠ s := by
    rintro b (hb | ⟨xs, fr, hb⟩) e
    · omega
    · subst e; rw [hb] at hs; injection hs with hs; injection hs with _ hs; exact hT hs
  refine ⟨⟨h.es.len, h.es.cap, h.es.one, fun hm => ?_⟩, fun hm => ?_⟩
  · obtain ⟨b, off, e, hb, hc⟩ := h.es.mem hm
    obtain ⟨b2, o2, e2, hh⟩ := h.tag hm
    rw [e] at e2; injection e2 with e2; injection e2 with e2 _; subst e2
    have h3 := hne _ hh
    refine ⟨b, off, e, by simpa [World.setCell] using hb, fun j u hj => ?_⟩
    have := hc j u hj
    unfold World.cell? at this ⊢
    rw [show (w.setCell ⟨s, o, none⟩ _).heap[b]? = w.heap[b]? from Below.heap_setCell _ _ _ _ (by simpa using h3)]
    exact this
  · obtain ⟨b2, o2, e2, hh⟩ := h.tag hm
    have h3 := hne _ hh
    refine ⟨b2, o2, e2, ?_⟩
    rcases hh with hh | ⟨xs, fr, hh⟩
    · exact Or.inl hh
    · exact Or.inr ⟨xs, fr, by rw [Below.heap_setCell _ _ _ _ (by simpa using h3)]; exact hh⟩
theorem Ro.pair {s : Nat} {x y : Value} {T' : TypeId} (h : Ro T k w0 w B m d cs) (hs : w.heap[s]? = some (.cells #[x, y] T')) (hT : T ≠ T') (h0 : w0.heap.size ≤ s) (u v : Value) : Ro T k w0 ((w.setCell ⟨s, 0, none⟩ u).setCell ⟨s, 1, none⟩ v) B m d cs := by
  have h2 : (w.setCell ⟨s, 0, none⟩ u).heap[s]? = some (.cells #[u, y] T') := by
    simp only [World.setCell, Array.getElem?_modify]
    rw [if_pos trivial, hs]; rfl
  exact (h.set hs hT h0).set h2 hT h0
/-- a row of another type, of the walk's own, grows. -/
theorem Ro.grown {v : Value} {base n kk : Nat} {T' : TypeId} {xs : List Value} (h : Ro T k w0 w B m d cs) (g : w.grownBy w' v.ownBlock) (ho : w.ownsRow base T' kk v n xs) (hT : T ≠ T') (h0 : w0.heap.size ≤ base) : Ro T k w0 w' B m d cs := by
  have hne : ∀ b, (b < w0.heap.size ∨ ∃ xs fr, w.heap[b]? = some (.cells xs T fr)) → v.ownBlock ≠ some b := by
    rintro b (hb | ⟨xs, fr, hb⟩) e
    · have := (ho.lt b e).1; omega
    · exact own_ne ho hb (fun e => hT e.symm) e
  refine ⟨⟨h.es.len, h.es.cap, h.es.one, fun hm => ?_⟩, fun hm => ?_⟩
  · obtain ⟨b, off, e, hb, hc⟩ := h.es.mem hm
    obtain ⟨b2, o2, e2, hh⟩ := h.tag hm
    rw [e] at e2; injection e2 with e2; injection e2 with e2 _; subst e2
    have h3 := g.block b hb (fun e => hne _ hh e.symm)
    refine ⟨b, off, e, Nat.lt_of_lt_of_le hb g.size, fun j u hj => ?_⟩
    have := hc j u hj
    unfold World.cell? at this ⊢
    rw [h3]; exact this
  · obtain ⟨b2, o2, e2, hh⟩ := h.tag hm
    refine ⟨b2, o2, e2, ?_⟩
    have hne2 := hne _ hh
    rcases hh with hh2 | ⟨xs, fr, hh2⟩
    · exact Or.inl hh2
    · exact Or.inr ⟨xs, fr, by rw [g.block b2 (blk_lt hh2) (fun e => hne2 e.symm)]; exact hh2⟩
theorem Ro.drew (h : Ro T k w0 w B m d cs) : Ro T k w0 w.drew B m d cs := ⟨h.es.drew, h.tag⟩
theorem Ro.drewN (h : Ro T k w0 w B m d cs) (q : Nat) : Ro T k w0 (w.drewN q) B m d cs := ⟨h.es.drewN q, h.tag⟩
/-- a row that is made by a literal of the walk. -/
theorem Ro.lit (w0 w : World) (T : TypeId) (cs : List Value) (h1 : ∀ u ∈ cs, u.oneCell' = true) {q : Nat} (hq : cs.length = q * k) : Ro T k w0 (w.alloc (.cells cs.toArray T)) (some ⟨w.heap.size, 0, none⟩) q q cs :=
  ⟨Es.new_ w T cs h1 hq, fun _ => ⟨_, _, rfl, Or.inr ⟨_, _, heap_alloc_new w _⟩⟩⟩
end
/-- a row of the walk's own, and a variable of another type that is stored. -/
theorem own_set {w : World} {base s o k n : Nat} {T T' : TypeId} {v u : Value} {xs : List Value} {ys : Array Value} {fr : Nat × Nat} (h : w.ownsRow base T k v n xs) (hs : w.heap[s]? = some (.cells ys T' fr)) (hT : T ≠ T') : (w.setCell ⟨s, o, none⟩ u).ownsRow base T k v n xs :=
  own_other h (own_ne h hs hT)
theorem own_pair {w : World} {base s k n : Nat} {T T' : TypeId} {v : Value} {xs : List Value} {x y : Value} (h : w.ownsRow base T k v n xs) (hs : w.heap[s]? = some (.cells #[x, y] T')) (hT : T ≠ T') (a b : Value) : ((w.setCell ⟨s, 0, none⟩ a).setCell ⟨s, 1, none⟩ b).ownsRow base T k v n xs := by
  have h2 : (w.setCell ⟨s, 0, none⟩ a).heap[s]? = some (.cells #[a, y] T') := by
    simp only [World.setCell, Array.getElem?_modify]
    rw [if_pos trivial, hs]; rfl
  exact own_set (own_set h hs hT) h2 hT
end Go.Proofs.Ytpkegfochfkkcaa
