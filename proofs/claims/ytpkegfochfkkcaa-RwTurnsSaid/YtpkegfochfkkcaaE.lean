/- Words on memory for slices of any elements (each so many cells): how a slice reads as a list of cells, and what slicing and appending leave; over any world. -/
import Derived.Test.YtpkegfochfkkcaaK
namespace Go.Proofs.Ytpkegfochfkkcaa
set_option linter.unusedVariables false
set_option linter.unusedSimpArgs false
open Go.RowKit

/-- the slice value '.slice A n c', of elements of k cells each, reads, in w, as the cells cs. -/
structure Es (w : World) (A : Option Addr) (n c k : Nat) (cs : List Value) : Prop where
  len : cs.length = n * k
  cap : n ≤ c
  one : ∀ u ∈ cs, u.oneCell' = true
  mem : 0 < n → ∃ b off, A = some ⟨b, off, none⟩ ∧ b < w.heap.size ∧ ∀ j u, cs[j]? = some u → w.cell? ⟨b, off + j, none⟩ = some u

section
variable {w w' : World} {A : Option Addr} {n c k : Nat} {cs : List Value}
theorem Es.nil (w : World) (A : Option Addr) (c k : Nat) : Es w A 0 c k [] := ⟨by simp, Nat.zero_le _, by simp, fun h => absurd h (by omega)⟩
theorem Es.keep (h : Es w A n c k cs) (hs : w.heap.size ≤ w'.heap.size) (hk : ∀ b o, b < w.heap.size → w'.cell? ⟨b, o, none⟩ = w.cell? ⟨b, o, none⟩) : Es w' A n c k cs :=
  ⟨h.len, h.cap, h.one, fun hn => by
    obtain ⟨b, off, e, hb, hc⟩ := h.mem hn
    exact ⟨b, off, e, by omega, fun j u hj => (hk _ _ hb).trans (hc j u hj)⟩⟩
theorem Es.below (h : Es w A n c k cs) (hb : Below w.heap.size w w') : Es w' A n c k cs := h.keep hb.size fun _ _ hp => hb.cell (p := ⟨_, _, none⟩) hp
theorem Es.drew (h : Es w A n c k cs) : Es w.drew A n c k cs := ⟨h.len, h.cap, h.one, h.mem⟩
theorem Es.drewN (h : Es w A n c k cs) (q : Nat) : Es (w.drewN q) A n c k cs := ⟨h.len, h.cap, h.one, h.mem⟩
theorem Es.alloc (h : Es w A n c k cs) (o : Obj) : Es (w.alloc o) A n c k cs :=
  h.keep (by simp) fun b o' hb => World.cell?_alloc_lt w o ⟨b, o', none⟩ hb
theorem Es.of_own {base : Nat} {e : TypeId} {v : Value} (h : w.ownsRow base e k v n cs) (h1 : ∀ u ∈ cs, u.oneCell' = true) :
    ∃ A c, v = .slice A n c ∧ Es w A n c k cs := by
  rcases h.2 with ⟨rfl, h0⟩ | ⟨g, cap, cur, rfl, hg, hh, hnc, hcap, hsz, hcur⟩
  · subst h0
    have hl := h.1
    rw [Nat.zero_mul] at hl
    obtain rfl : cs = [] := List.eq_nil_of_length_eq_zero hl
    exact ⟨_, _, rfl, Es.nil _ _ _ _⟩
  · refine ⟨_, _, rfl, h.1, hnc, h1, fun hn => ⟨g, 0, rfl, (h.lt g (by simp [Value.ownBlock])).2, fun j u hj => ?_⟩⟩
    have hc := h.cells (g := g) (by simp [Value.ownBlock]) j u hj
    rw [add_plain] at hc
    exact hc
theorem Es.news (h : Es w A n c k cs) (hn : 0 < n) : ∃ ad, A = some ad ∧ ∀ j u, cs[j]? = some u → w.cell? (ad.add j) = some u := by
  obtain ⟨b, off, e, hb, hc⟩ := h.mem hn
  refine ⟨_, e, fun j u hj => ?_⟩
  rw [add_plain]
  exact hc j u hj
/-- one cell of one element. -/
theorem Es.look (h : Es w A n c k cs) (i : Nat) (hi : i < n) : ∃ b off, A = some ⟨b, off, none⟩ ∧ b < w.heap.size ∧ ∀ j u, cs[i * k + j]? = some u → w.cell? ⟨b, off + i * k + j, none⟩ = some u := by
  obtain ⟨b, off, e, hb, hc⟩ := h.mem (by omega)
  exact ⟨b, off, e, hb, fun j u hj => by rw [Nat.add_assoc]; exact hc _ u hj⟩
theorem Es.new_ (w : World) (e : TypeId) (cs : List Value) (h1 : ∀ u ∈ cs, u.oneCell' = true) {q : Nat} (hq : cs.length = q * k) : Es (w.alloc (.cells cs.toArray e)) (some ⟨w.heap.size, 0, none⟩) q q k cs :=
  ⟨hq, Nat.le_refl _, h1, fun _ => ⟨_, _, rfl, by simp, fun j u hj => by
    rw [cell_of_row _ w.heap.size (0 + j) _ e (0, 0) (heap_alloc_new w _)]
    simpa using hj⟩⟩
end
theorem drop_at {α : Type} {xs : List α} {i : Nat} (h : i < xs.length) : xs.drop i = xs[i] :: xs.drop (i + 1) := List.drop_eq_getElem_cons h
theorem take_step {α : Type} {xs : List α} {i : Nat} {s : α} (h : xs.drop i = s :: xs.drop (i + 1)) : xs.take (i + 1) = xs.take i ++ [s] := by
  have hl : i < xs.length := by
    rcases Nat.lt_or_ge i xs.length with h1 | h1
    · exact h1
    · rw [List.drop_of_length_le h1] at h; cases h
  have h2 := List.drop_eq_getElem_cons hl
  rw [h2] at h; injection h with h _
  rw [← h, List.take_succ_eq_append_getElem hl]
theorem unlike_at {α : Type} {xs ys : List α} {i : Nat} {s t : α} (hx : xs.drop i = s :: xs.drop (i + 1)) (hy : ys.drop i = t :: ys.drop (i + 1)) (h : s ≠ t) : xs ≠ ys := by
  intro e; subst e
  rw [hx] at hy; injection hy with h1 _; exact h h1
/-- append of a slice, whichever it is, onto a row of the call's own. -/
theorem eapp_own {P : Program} (w : World) (base : Nat) (t ty e : TypeId) (i : TypeInfo) (z : Value) (k bytes : Nat) (ht : P.underlying t = some (.slice e)) (hi : P.info? e = some i) (hz : i.zero = some z)
    (hsize : i.size = k) (hby : i.bytes = bytes) (hzs : z.cells.size = k) (hk : 0 < k)
    (v : Value) (n : Nat) (xs : List Value) (hown : w.ownsRow base e k v n xs) (A : Option Addr) (m c : Nat) (cs : List Value) (hb : Es w A m c k cs)
    (hlim : n + m ≤ maxLen) (hbytes : (n + m) * bytes ≤ 140737488355328) (hbase : base ≤ w.heap.size) :
    ∃ v' w', (Builtin.append_ #[t, t] ty #[v, .slice A m c]).run P w = .ok v' w' ∧ w'.ownsRow base e k v' (n + m) (xs ++ cs) ∧ w.grownBy w' v.ownBlock ∧ (∀ g, v'.ownBlock = some g → base ≤ g) := by
  have hlen := hb.len
  have h1 := hb.one
  cases A with
  | some ad =>
    have hnews : ∀ j u, cs[j]? = some u → w.cell? (ad.add j) = some u := by
      rcases Nat.eq_zero_or_pos m with h0 | h0
      · subst h0
        rw [Nat.zero_mul] at hlen
        obtain rfl : cs = [] := List.eq_nil_of_length_eq_zero hlen
        intro j u hj; simp at hj
      · obtain ⟨ad', e1, h⟩ := hb.news h0
        injection e1 with e1; subst e1; exact h
    obtain ⟨v', w', hr, h2, h3, _, _⟩ := run_append_own_at (P := P) w base t ty e i z k bytes ht hi hz hsize hby hzs hk v n _ hown ad m c _ hlen hnews h1 hlim hbytes hbase
    exact ⟨v', w', hr, h2, h3, fun g hg => (h2.lt g hg).1⟩
  | none =>
    obtain rfl : m = 0 := by
      rcases Nat.eq_zero_or_pos m with h0 | h0
      · exact h0
      · obtain ⟨ad', e1, _⟩ := hb.news h0; cases e1
    rw [Nat.zero_mul] at hlen
    obtain rfl : cs = [] := List.eq_nil_of_length_eq_zero hlen
    refine ⟨v, w, ?_, by simpa using hown, World.grownBy.refl _ _, fun g hg => (hown.lt g hg).1⟩
    rcases hown.2 with ⟨rfl, h0⟩ | ⟨g, cap, cur, rfl, _, _, hnc, _⟩
    · subst h0; simp [Builtin.append_, run_underlying ht, sizeOf, typeInfo, hi, Builtin.lenOf, Builtin.firstCells]
    · simp [Builtin.append_, run_underlying ht, sizeOf, typeInfo, hi, Builtin.lenOf, Builtin.firstCells, hnc, storeCells]
/-- elements that stand in a row of their own (a literal's), appended to a row of the call's own. -/
theorem eapp_lit {P : Program} {w0 W : World} {base : Nat} {t ty e : TypeId} {i : TypeInfo} {z : Value} {k bytes : Nat} (ht : P.underlying t = some (.slice e)) (hi : P.info? e = some i) (hz : i.zero = some z)
    (hsize : i.size = k) (hby : i.bytes = bytes) (hzs : z.cells.size = k) (hk : 0 < k) {v : Value} {n : Nat} {xs : List Value} (hown : W.ownsRow base e k v n xs) (hxs : ∀ u ∈ xs, u.oneCell' = true)
    (cs : List Value) (h1 : ∀ u ∈ cs, u.oneCell' = true) {m : Nat} (hm : cs.length = m * k) (hlim : n + m ≤ maxLen) (hbytes : (n + m) * bytes ≤ 140737488355328) (hbel : Below base w0 W) (hbase : base ≤ W.heap.size) :
    ∃ A' c' w', (Builtin.append_ #[t, t] ty #[v, .slice (some ⟨W.heap.size, 0, none⟩) m m]).run P (W.alloc (.cells cs.toArray e)) = .ok (.slice A' (n + m) c') w' ∧
      w'.ownsRow base e k (.slice A' (n + m) c') (n + m) (xs ++ cs) ∧ Below base w0 w' := by
  obtain ⟨v', w', hr, h2, h3, h4⟩ := eapp_own (P := P) (W.alloc (.cells cs.toArray e)) base t ty e i z k bytes ht hi hz hsize hby hzs hk v n xs (hown.alloc _) _ m m cs
    (Es.new_ W e cs h1 hm) hlim hbytes (by simp; omega)
  have hxb : ∀ u ∈ xs ++ cs, u.oneCell' = true := by
    intro x hx
    rcases List.mem_append.1 hx with h | h
    · exact hxs x h
    · exact h1 x h
  obtain ⟨A', c', rfl, hb'⟩ := Es.of_own h2 hxb
  exact ⟨A', c', w', hr, h2, (hbel.alloc hbase _).grown h3 (by simp; omega) fun g hg => (hown.lt g hg).1⟩
/-- an append whose run is known; also one whose guard says yes. -/
theorem eapp_run {P : Program} {w w' : World} {ops : Array Oper} {rest : List Oper} {o : Oper} {a : Act} {Q : Exit → Act → World → Prop} (hw : Region.wanted o (yielded ops a.tmps)) {s x : Operand} {t : TypeId}
    (ho : o.op = .call { callee := .builtin .append, args := #[s, x], argTypes := #[t, t] }) {v u v' : Value} (hs : a.eval s = v) (hx : a.eval x = u)
    (hr : (Builtin.append_ #[t, t] o.type #[v, u]).run P w = .ok v' w') (h : wpList P ops Q rest (a.put o.dst v') w') : wpList P ops Q (o :: rest) a w := by
  refine wpList_step fun K hK => ?_
  rw [if_pos hw]
  unfold Oper.wp execOp
  simp only [ho, resolve, invoke, builtin, Sem.run_bind, Sem.run_pure, Result.andThen_ok, List.map_toArray, List.map_cons, List.map_nil, hs, hx, hr]
  exact hK _ _ h
end Go.Proofs.Ytpkegfochfkkcaa
