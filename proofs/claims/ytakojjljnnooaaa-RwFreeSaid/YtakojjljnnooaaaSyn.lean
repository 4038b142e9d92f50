/- Words on memory for step functions: a variable that is stored whole; three results in memory; over any world. -/
import Derived.Test.YtakojjljnnooaaaFr
import Derived.Deep.MidRow
namespace Go.Proofs.Ytakojjljnnooaaa
set_option linter.unusedVariables false
set_option linter.unusedSimpArgs false
open Go.RowKit
theorem heap_setCells {b : Nat} {T : TypeId} : ∀ (vs : List Value) (w : World) (xs ys : List Value), ys.length = vs.length → w.heap[b]? = some (.cells (xs ++ ys).toArray T) → (w.setCells b xs.length vs).heap[b]? = some (.cells (xs ++ vs).toArray T)
  | [], w, xs, [], _, h => h
  | v :: vs, w, xs, y :: ys, hl, h => by
    have h2 := blk_set (j := xs.length) h v
    rw [show (xs ++ y :: ys).set xs.length v = (xs ++ [v]) ++ ys by simp] at h2
    have h3 := heap_setCells vs (w.setCell ⟨b, xs.length, none⟩ v) (xs ++ [v]) ys (by simpa using hl) h2
    rw [List.length_append, List.length_singleton] at h3
    rw [show (xs ++ v :: vs) = (xs ++ [v]) ++ vs by simp]
    exact h3
theorem heap_setCells_ne {b k : Nat} (hne : k ≠ b) : ∀ (vs : List Value) (j : Nat) (w : World), (w.setCells b j vs).heap[k]? = w.heap[k]?
  | [], _, _ => rfl
  | v :: vs, j, w => (heap_setCells_ne hne vs (j + 1) _).trans (Below.heap_setCell _ _ _ _ (by simp only; exact hne))
theorem below_setCells {B b : Nat} (hb : B ≤ b) {w0 : World} : ∀ (vs : List Value) (j : Nat) (w : World), Below B w0 w → Below B w0 (w.setCells b j vs)
  | [], _, _, h => h
  | v :: vs, j, w, h => below_setCells hb vs (j + 1) _ (h.setCell (by simp only; exact hb) _)
theorem size_setCells {b : Nat} : ∀ (vs : List Value) (j : Nat) (w : World), (w.setCells b j vs).heap.size = w.heap.size
  | [], _, _ => rfl
  | v :: vs, j, w => (size_setCells vs (j + 1) _).trans (by simp [World.setCell])
/-- a variable's cells are there. -/
theorem there_blk {w : World} {b k : Nat} {cs : List Value} {T : TypeId} (h : w.heap[b]? = some (.cells cs.toArray T)) (hk : k = cs.length) : w.there b 0 k := by
  subst hk
  intro j hj
  rw [Nat.zero_add, blk_cell h]
  exact ⟨by simp [hj], blk_frozen h j⟩
theorem row2 {w : World} {b : Nat} {v0 v1 : Value} {T : TypeId} (h : w.heap[b]? = some (.cells #[v0, v1] T)) : w.cell? ⟨b, 0, none⟩ = some v0 ∧ w.cell? ⟨b, 1, none⟩ = some v1 := ⟨(blk_cell h 0).trans rfl, (blk_cell h 1).trans rfl⟩
theorem frz2 {w : World} {b : Nat} {v0 v1 : Value} {T : TypeId} (h : w.heap[b]? = some (.cells #[v0, v1] T)) : w.frozen? ⟨b, 0, none⟩ = false ∧ w.frozen? ⟨b, 1, none⟩ = false := ⟨blk_frozen h 0, blk_frozen h 1⟩
theorem row6 {w : World} {b : Nat} {v0 v1 v2 v3 v4 v5 : Value} {T : TypeId} (h : w.heap[b]? = some (.cells #[v0, v1, v2, v3, v4, v5] T)) : w.cell? ⟨b, 0, none⟩ = some v0 ∧ w.cell? ⟨b, 1, none⟩ = some v1 ∧ w.cell? ⟨b, 2, none⟩ = some v2 ∧ w.cell? ⟨b, 3, none⟩ = some v3 ∧ w.cell? ⟨b, 4, none⟩ = some v4 ∧ w.cell? ⟨b, 5, none⟩ = some v5 := ⟨(blk_cell h 0).trans rfl, (blk_cell h 1).trans rfl, (blk_cell h 2).trans rfl, (blk_cell h 3).trans rfl, (blk_cell h 4).trans rfl, (blk_cell h 5).trans rfl⟩
theorem frz6 {w : World} {b : Nat} {v0 v1 v2 v3 v4 v5 : Value} {T : TypeId} (h : w.heap[b]? = some (.cells #[v0, v1, v2, v3, v4, v5] T)) : w.frozen? ⟨b, 0, none⟩ = false ∧ w.frozen? ⟨b, 1, none⟩ = false ∧ w.frozen? ⟨b, 2, none⟩ = false ∧ w.frozen? ⟨b, 3, none⟩ = false ∧ w.frozen? ⟨b, 4, none⟩ = false ∧ w.frozen? ⟨b, 5, none⟩ = false := ⟨blk_frozen h 0, blk_frozen h 1, blk_frozen h 2, blk_frozen h 3, blk_frozen h 4, blk_frozen h 5⟩
theorem row7 {w : World} {b : Nat} {v0 v1 v2 v3 v4 v5 v6 : Value} {T : TypeId} (h : w.heap[b]? = some (.cells #[v0, v1, v2, v3, v4, v5, v6] T)) : w.cell? ⟨b, 0, none⟩ = some v0 ∧ w.cell? ⟨b, 1, none⟩ = some v1 ∧ w.cell? ⟨b, 2, none⟩ = some v2 ∧ w.cell? ⟨b, 3, none⟩ = some v3 ∧ w.cell? ⟨b, 4, none⟩ = some v4 ∧ w.cell? ⟨b, 5, none⟩ = some v5 ∧ w.cell? ⟨b, 6, none⟩ = some v6 := ⟨(blk_cell h 0).trans rfl, (blk_cell h 1).trans rfl, (blk_cell h 2).trans rfl, (blk_cell h 3).trans rfl, (blk_cell h 4).trans rfl, (blk_cell h 5).trans rfl, (blk_cell h 6).trans rfl⟩
theorem frz7 {w : World} {b : Nat} {v0 v1 v2 v3 v4 v5 v6 : Value} {T : TypeId} (h : w.heap[b]? = some (.cells #[v0, v1, v2, v3, v4, v5, v6] T)) : w.frozen? ⟨b, 0, none⟩ = false ∧ w.frozen? ⟨b, 1, none⟩ = false ∧ w.frozen? ⟨b, 2, none⟩ = false ∧ w.frozen? ⟨b, 3, none⟩ = false ∧ w.frozen? ⟨b, 4, none⟩ = false ∧ w.frozen? ⟨b, 5, none⟩ = false ∧ w.frozen? ⟨b, 6, none⟩ = false := ⟨blk_frozen h 0, blk_frozen h 1, blk_frozen h 2, blk_frozen h 3, blk_frozen h 4, blk_frozen h 5, blk_frozen h 6⟩
theorem row10 {w : World} {b : Nat} {v0 v1 v2 v3 v4 v5 v6 v7 v8 v9 : Value} {T : TypeId} (h : w.heap[b]? = some (.cells #[v0, v1, v2, v3, v4, v5, v6, v7, v8, v9] T)) : w.cell? ⟨b, 0, none⟩ = some v0 ∧ w.cell? ⟨b, 1, none⟩ = some v1 ∧ w.cell? ⟨b, 2, none⟩ = some v2 ∧ w.cell? ⟨b, 3, none⟩ = some v3 ∧ w.cell? ⟨b, 4, none⟩ = some v4 ∧ w.cell? ⟨b, 5, none⟩ = some v5 ∧ w.cell? ⟨b, 6, none⟩ = some v6 ∧ w.cell? ⟨b, 7, none⟩ = some v7 ∧ w.cell? ⟨b, 8, none⟩ = some v8 ∧ w.cell? ⟨b, 9, none⟩ = some v9 := ⟨(blk_cell h 0).trans rfl, (blk_cell h 1).trans rfl, (blk_cell h 2).trans rfl, (blk_cell h 3).trans rfl, (blk_cell h 4).trans rfl, (blk_cell h 5).trans rfl, (blk_cell h 6).trans rfl, (blk_cell h 7).trans rfl, (blk_cell h 8).trans rfl, (blk_cell h 9).trans rfl⟩
theorem frz10 {w : World} {b : Nat} {v0 v1 v2 v3 v4 v5 v6 v7 v8 v9 : Value} {T : TypeId} (h : w.heap[b]? = some (.cells #[v0, v1, v2, v3, v4, v5, v6, v7, v8, v9] T)) : w.frozen? ⟨b, 0, none⟩ = false ∧ w.frozen? ⟨b, 1, none⟩ = false ∧ w.frozen? ⟨b, 2, none⟩ = false ∧ w.frozen? ⟨b, 3, none⟩ = false ∧ w.frozen? ⟨b, 4, none⟩ = false ∧ w.frozen? ⟨b, 5, none⟩ = false ∧ w.frozen? ⟨b, 6, none⟩ = false ∧ w.frozen? ⟨b, 7, none⟩ = false ∧ w.frozen? ⟨b, 8, none⟩ = false ∧ w.frozen? ⟨b, 9, none⟩ = false := ⟨blk_frozen h 0, blk_frozen h 1, blk_frozen h 2, blk_frozen h 3, blk_frozen h 4, blk_frozen h 5, blk_frozen h 6, blk_frozen h 7, blk_frozen h 8, blk_frozen h 9⟩
theorem row11 {w : World} {b : Nat} {v0 v1 v2 v3 v4 v5 v6 v7 v8 v9 v10 : Value} {T : TypeId} (h : w.heap[b]? = some (.cells #[v0, v1, v2, v3, v4, v5, v6, v7, v8, v9, v10] T)) : w.cell? ⟨b, 0, none⟩ = some v0 ∧ w.cell? ⟨b, 1, none⟩ = some v1 ∧ w.cell? ⟨b, 2, none⟩ = some v2 ∧ w.cell? ⟨b, 3, none⟩ = some v3 ∧ w.cell? ⟨b, 4, none⟩ = some v4 ∧ w.cell? ⟨b, 5, none⟩ = some v5 ∧ w.cell? ⟨b, 6, none⟩ = some v6 ∧ w.cell? ⟨b, 7, none⟩ = some v7 ∧ w.cell? ⟨b, 8, none⟩ = some v8 ∧ w.cell? ⟨b, 9, none⟩ = some v9 ∧ w.cell? ⟨b, 10, none⟩ = some v10 := ⟨(blk_cell h 0).trans rfl, (blk_cell h 1).trans rfl, (blk_cell h 2).trans rfl, (blk_cell h 3).trans rfl, (blk_cell h 4).trans rfl, (blk_cell h 5).trans rfl, (blk_cell h 6).trans rfl, (blk_cell h 7).trans rfl, (blk_cell h 8).trans rfl, (blk_cell h 9).trans rfl, (blk_cell h 10).trans rfl⟩
theorem frz11 {w : World} {b : Nat} {v0 v1 v2 v3 v4 v5 v6 v7 v8 v9 v10 : Value} {T : TypeId} (h : w.heap[b]? = some (.cells #[v0, v1, v2, v3, v4, v5, v6, v7, v8, v9, v10] T)) : w.frozen? ⟨b, 0, none⟩ = false ∧ w.frozen? ⟨b, 1, none⟩ = false ∧ w.frozen? ⟨b, 2, none⟩ = false ∧ w.frozen? ⟨b, 3, none⟩ = false ∧ w.frozen? ⟨b, 4, none⟩ = false ∧ w.frozen? ⟨b, 5, none⟩ = false ∧ w.frozen? ⟨b, 6, none⟩ = false ∧ w.frozen? ⟨b, 7, none⟩ = false ∧ w.frozen? ⟨b, 8, none⟩ = false ∧ w.frozen? ⟨b, 9, none⟩ = false ∧ w.frozen? ⟨b, 10, none⟩ = false := ⟨blk_frozen h 0, blk_frozen h 1, blk_frozen h 2, blk_frozen h 3, blk_frozen h 4, blk_frozen h 5, blk_frozen h 6, blk_frozen h 7, blk_frozen h 8, blk_frozen h 9, blk_frozen h 10⟩
theorem Fr.eqw {w0 w w2 : World} {q : Nat} {L : List Obj} (h : Fr w0 w q L) (e : w = w2) : Fr w0 w2 q L := e ▸ h
theorem Fr.at {w0 w : World} {q : Nat} {L : List Obj} (h : Fr w0 w q L) (i : Nat) {b : Nat} {o : Obj} (hi : L[i]? = some o) (hb : b = q + i) : w.heap[b]? = some o := hb ▸ h.blk i o hi
/-- a whole variable is stored, in a region that draws its order. -/
theorem op_storeS {P : Program} {w w2 : World} {o : Oper} {a : Act} {K : Act → World → Prop} {Q : Exit → Act → World → Prop} {c : Prop} [Decidable c] (hc : c) {ty : TypeId} {x y : Operand} (ho : o.op = .store ty x y)
    {b : Nat} {cells : Array Value} (hx : a.eval x = .pointer (some ⟨b, 0, none⟩)) (hy : a.eval y = .agg cells) (ht : w.there b 0 cells.size) (hi : (P.info? ty).map (·.size) = some cells.size) (h1 : cells.all (·.oneCell') = true)
    (he : w.setCells b 0 cells.toList = w2) (h : K (a.put o.dst undef) w2) : if c then Oper.wp P o a w K Q else K (a.put o.dst undef) w := by
  rw [if_pos hc]
  exact wp_store_mid ty x y ho b 0 cells hx hy ht hi h1 (by rw [he]; exact h)
/-- a variable is stored whole. -/
theorem Fr.all {w0 w : World} {q : Nat} {L : List Obj} (h : Fr w0 w q L) (i : Nat) {b : Nat} {cs vs : List Value} {T : TypeId} (hi : L[i]? = some (.cells cs.toArray T)) (hb : b = q + i) (hl : cs.length = vs.length) :
    Fr w0 (w.setCells b 0 vs) q (L.set i (.cells vs.toArray T)) := by
  subst hb
  refine ⟨fun k o hk => ?_, below_setCells (by omega) _ _ _ h.bel, by rw [size_setCells]; simpa using h.sz, h.q0⟩
  by_cases e : k = i
  · subst e
    have hlt : k < L.length := by
      rcases Nat.lt_or_ge k L.length with h1 | h1
      · exact h1
      · rw [List.getElem?_eq_none h1] at hi; cases hi
    rw [List.getElem?_set_self hlt] at hk
    injection hk with hk; subst hk
    exact heap_setCells vs w [] cs hl (h.blk k _ hi)
  · rw [List.getElem?_set_ne (Ne.symm e)] at hk
    rw [heap_setCells_ne (by omega)]
    exact h.blk k o hk
theorem res_ccc {P : Program} {fn : Func} {tmps : Array Value} {a b c : Nat} {t s r : TypeId} {ad bd cd : Addr} {v u x : Value} {w : World} (h : fn.results = #[.cell a t, .cell b s, .cell c r]) (hp : tmps.getD a undef = .pointer (some ad)) (hq : tmps.getD b undef = .pointer (some bd)) (hr : tmps.getD c undef = .pointer (some cd))
    (hl : (loadVar t ad).run P w = .ok v w) (hm : (loadVar s bd).run P w = .ok u w) (hn : (loadVar r cd).run P w = .ok x w) : (results fn tmps).run P w = .ok (.tuple #[v, u, x]) w := by
  unfold results
  rw [h]
  have hp2 : tmps[a]?.getD undef = .pointer (some ad) := by simpa using hp
  have hq2 : tmps[b]?.getD undef = .pointer (some bd) := by simpa using hq
  have hr2 : tmps[c]?.getD undef = .pointer (some cd) := by simpa using hr
  simp only [List.mapM_toArray, List.mapM_cons, List.mapM_nil]
  simp [Sem.run_bind, hp2, hq2, hr2]
  rw [show (Sem.run P (asAddr (Value.pointer (some ad))) w) = Result.ok ad w from rfl]
  simp [hl]
  rw [show (Sem.run P (asAddr (Value.pointer (some bd))) w) = Result.ok bd w from rfl]
  simp [hm]
  rw [show (Sem.run P (asAddr (Value.pointer (some cd))) w) = Result.ok cd w from rfl]
  simp [hn]
end Go.Proofs.Ytakojjljnnooaaa
