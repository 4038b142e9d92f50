/- Layer 16: three rows of numbers of a walk's own, in unlike blocks: one of them grows, or is made anew; conditions: those in each theorem. -/
import Derived.Test.YtpkegfochfkkcaaRo
import Derived.Test.YtpkegfochfkkcaaE
import Derived.Test.YtpkegfochfkkcaaSyn
namespace Go.Proofs.Ytpkegfochfkkcaa
set_option linter.unusedVariables false
set_option linter.unusedSimpArgs false
open Go.RowKit
/-- eapp_own, and where the row lies behind it. -/
theorem eapp_at {P : Program} (w : World) (base : Nat) (t ty e : TypeId) (i : TypeInfo) (z : Value) (k bytes : Nat) (ht : P.underlying t = some (.slice e)) (hi : P.info? e = some i) (hz : i.zero = some z)
    (hsize : i.size = k) (hby : i.bytes = bytes) (hzs : z.cells.size = k) (hk : 0 < k)
    (v : Value) (n : Nat) (xs : List Value) (hown : w.ownsRow base e k v n xs) (A : Option Addr) (m c : Nat) (cs : List Value) (hb : Es w A m c k cs)
    (hlim : n + m ≤ maxLen) (hbytes : (n + m) * bytes ≤ 140737488355328) (hbase : base ≤ w.heap.size) :
    ∃ v' w', (Builtin.append_ #[t, t] ty #[v, .slice A m c]).run P w = .ok v' w' ∧ w'.ownsRow base e k v' (n + m) (xs ++ cs) ∧ w.grownBy w' v.ownBlock ∧ (∀ g, v'.ownBlock = some g → v.ownBlock = some g ∨ w.heap.size ≤ g) := by
  have hlen := hb.len
  have h1 := hb.one
  cases A with
  | some ad =>
    have hnews : ∀ j u, cs[j]? = some u → w.cell? (ad.add j) = some u := by
      rcases Nat.eq_zero_or_pos m with h0 | h0
      · subst h0
        rw [Nat.zero_mul] at hlen
        obtain rfl : cs = [] := List.eq_nil_of_length_eq_zero hlen
        intro j u hj; simp at hj
      · obtain ⟨ad', e1, h⟩ := hb.news h0
        injection e1 with e1; subst e1; exact h
    obtain ⟨v', w', hr, h2, h3, _, h5⟩ := run_append_own_at (P := P) w base t ty e i z k bytes ht hi hz hsize hby hzs hk v n _ hown ad m c _ hlen hnews h1 hlim hbytes hbase
    refine ⟨v', w', hr, h2, h3, fun g hg => ?_⟩
    rcases h5 with h5 | h5
    · exact Or.inl (h5 ▸ hg)
    · rw [h5] at hg; injection hg with hg; exact Or.inr (hg ▸ Nat.le_refl _)
  | none =>
    obtain rfl : m = 0 := by
      rcases Nat.eq_zero_or_pos m with h0 | h0
      · exact h0
      · obtain ⟨ad', e1, _⟩ := hb.news h0; cases e1
    rw [Nat.zero_mul] at hlen
    obtain rfl : cs = [] := List.eq_nil_of_length_eq_zero hlen
    refine ⟨v, w, ?_, by simpa using hown, World.grownBy.refl _ _, fun g hg => Or.inl hg⟩
    rcases hown.2 with ⟨rfl, h0⟩ | ⟨g, cap, cur, rfl, _, _, hnc, _⟩
    · subst h0; simp [Builtin.append_, run_underlying ht, sizeOf, typeInfo, hi, Builtin.lenOf, Builtin.firstCells]
    · simp [Builtin.append_, run_underlying ht, sizeOf, typeInfo, hi, Builtin.lenOf, Builtin.firstCells, hnc, storeCells]
theorem own_kept {w w' : World} {base k n : Nat} {T : TypeId} {v : Value} {xs : List Value} (h : w.ownsRow base T k v n xs) (hk : ∀ b, b < w.heap.size → v.ownBlock = some b → w'.heap[b]? = w.heap[b]?) : w'.ownsRow base T k v n xs := by
  refine ⟨h.1, ?_⟩
  rcases h.2 with h2 | ⟨g, cap, cur, h1, h2, h3, h4⟩
  · exact .inl h2
  · refine .inr ⟨g, cap, cur, h1, h2, ?_, h4⟩
    rw [hk g (blk_lt h3) (by rw [h1]; rfl)]; exact h3
structure R3 (w : World) (base : Nat) (v1 v2 v3 : Value) (n1 n2 n3 : Nat) (l1 l2 l3 : List Value) : Prop where
  o1 : w.ownsRow base 3 1 v1 n1 l1
  o2 : w.ownsRow base 3 1 v2 n2 l2
  o3 : w.ownsRow base 3 1 v3 n3 l3
  d12 : ∀ g, v1.ownBlock = some g → v2.ownBlock ≠ some g
  d13 : ∀ g, v1.ownBlock = some g → v3.ownBlock ≠ some g
  d23 : ∀ g, v2.ownBlock = some g → v3.ownBlock ≠ some g
section
variable {w w' : World} {base : Nat} {v1 v2 v3 v : Value} {n1 n2 n3 n : Nat} {l1 l2 l3 l : List Value}
theorem R3.step (h : R3 w base v1 v2 v3 n1 n2 n3 l1 l2 l3) (hb : Below w.heap.size w w') : R3 w' base v1 v2 v3 n1 n2 n3 l1 l2 l3 :=
  ⟨own_below h.o1 hb, own_below h.o2 hb, own_below h.o3 hb, h.d12, h.d13, h.d23⟩
theorem R3.start (w : World) (base : Nat) : R3 w base (.slice none 0 0) (.slice none 0 0) (.slice none 0 0) 0 0 0 [] [] [] :=
  ⟨World.ownsRow_nil _ _ _ _, World.ownsRow_nil _ _ _ _, World.ownsRow_nil _ _ _ _, fun g h => (by cases h), fun g h => (by cases h), fun g h => (by cases h)⟩
theorem R3.swap12 (h : R3 w base v1 v2 v3 n1 n2 n3 l1 l2 l3) : R3 w base v2 v1 v3 n2 n1 n3 l2 l1 l3 :=
  ⟨h.o2, h.o1, h.o3, fun g h2 h1 => h.d12 g h1 h2, h.d23, h.d13⟩
theorem R3.swap13 (h : R3 w base v1 v2 v3 n1 n2 n3 l1 l2 l3) : R3 w base v3 v2 v1 n3 n2 n1 l3 l2 l1 :=
  ⟨h.o3, h.o2, h.o1, fun g h3 h2 => h.d23 g h2 h3, fun g h3 h1 => h.d13 g h1 h3, fun g h2 h1 => h.d12 g h1 h2⟩
/-- the first row is another one, the others' blocks are as they were. -/
theorem R3.put (h : R3 w base v1 v2 v3 n1 n2 n3 l1 l2 l3) (hk : ∀ b, b < w.heap.size → v1.ownBlock ≠ some b → w'.heap[b]? = w.heap[b]?) (ho : w'.ownsRow base 3 1 v n l) (hf : ∀ g, v.ownBlock = some g → v1.ownBlock = some g ∨ w.heap.size ≤ g) : R3 w' base v v2 v3 n n2 n3 l l2 l3 := by
  have lt : ∀ {x : Value} {k : Nat} {xs : List Value}, w.ownsRow base 3 1 x k xs → ∀ g, x.ownBlock = some g → g < w.heap.size := fun hx g hg => (hx.lt g hg).2
  refine ⟨ho, own_kept h.o2 (fun b hb e => hk b hb (fun e1 => h.d12 b e1 e)), own_kept h.o3 (fun b hb e => hk b hb (fun e1 => h.d13 b e1 e)), fun g hg e => ?_, fun g hg e => ?_, h.d23⟩
  · rcases hf g hg with h1 | h1
    · exact h.d12 g h1 e
    · have := lt h.o2 g e; omega
  · rcases hf g hg with h1 | h1
    · exact h.d13 g h1 e
    · have := lt h.o3 g e; omega
/-- a store to a variable of another type. -/
theorem R3.cells (h : R3 w base v1 v2 v3 n1 n2 n3 l1 l2 l3) {b : Nat} {ys : List Value} {T : TypeId} (hs : w.heap[b]? = some (.cells ys.toArray T)) (hT : 3 ≠ T) (o : Nat) (vs : List Value) : R3 (w.setCells b o vs) base v1 v2 v3 n1 n2 n3 l1 l2 l3 := by
  have k : ∀ {x : Value} {k : Nat} {xs : List Value}, w.ownsRow base 3 1 x k xs → (w.setCells b o vs).ownsRow base 3 1 x k xs := fun hx => own_kept hx (fun c hc e => heap_setCells_ne (fun e1 : c = b => own_ne hx hs hT (by rw [← e1]; exact e)) vs o w)
  exact ⟨k h.o1, k h.o2, k h.o3, h.d12, h.d13, h.d23⟩
end
end Go.Proofs.Ytpkegfochfkkcaa
