/- Words on memory for a call's first variables, which lie one behind the other; over any world. -/
import Derived.Test.YtpkegfochfkkcaaAreD
namespace Go.Proofs.Ytpkegfochfkkcaa
set_option linter.unusedVariables false
set_option linter.unusedSimpArgs false
open Go.RowKit

/-- a call's own variables, from block q on, and nothing below q is turned. -/
structure Fr (w0 w : World) (q : Nat) (L : List Obj) : Prop where
  blk : ∀ i o, L[i]? = some o → w.heap[q + i]? = some o
  bel : Below q w0 w
  sz : q + L.length ≤ w.heap.size
  q0 : q = w0.heap.size
section
variable {w0 w w' : World} {q : Nat} {L : List Obj}
theorem Fr.first (w : World) (o : Obj) : Fr w (w.alloc o) w.heap.size [o] := by
  refine ⟨fun i x hi => ?_, (Below.refl _ _).alloc (Nat.le_refl _) _, by simp, rfl⟩
  match i, hi with
  | 0, hi => simp only [List.getElem?_cons_zero, Option.some.injEq] at hi; subst hi; exact heap_alloc_new w _
theorem Fr.size1 (w : World) (o : Obj) : (w.alloc o).heap.size = w.heap.size + 1 := by simp
theorem Fr.more (h : Fr w0 w q L) (hs : w.heap.size = q + L.length) (o : Obj) : Fr w0 (w.alloc o) q (L ++ [o]) := by
  refine ⟨fun i x hi => ?_, h.bel.alloc (by omega) _, by simp; omega, h.q0⟩
  rcases Nat.lt_or_ge i L.length with hl | hl
  · rw [List.getElem?_append_left hl] at hi
    rw [heap_alloc_old _ _ (by omega)]
    exact h.blk i x hi
  · rw [List.getElem?_append_right hl] at hi
    have h0 : i - L.length = 0 := by
      rcases Nat.eq_zero_or_pos (i - L.length) with h1 | h1
      · exact h1
      · rw [List.getElem?_eq_none (by simp; omega)] at hi; cases hi
    rw [h0] at hi
    simp only [List.getElem?_cons_zero, Option.some.injEq] at hi
    subst hi
    rw [show q + i = w.heap.size by omega]
    exact heap_alloc_new w _
theorem Fr.step (h : Fr w0 w q L) (hb : Below w.heap.size w w') : Fr w0 w' q L := by
  have hz := h.sz
  refine ⟨fun i o hi => ?_, h.bel.trans (hb.mono (by omega)), Nat.le_trans h.sz hb.size, h.q0⟩
  have h1 := h.blk i o hi
  exact blk_below h1 hb (blk_lt h1)
theorem Fr.cell (h : Fr w0 w q L) (i j : Nat) {b : Nat} {cs : List Value} {T : TypeId} {v : Value} (hi : L[i]? = some (.cells cs.toArray T)) (hb : b = q + i) (hj : cs[j]? = some v) : w.cell? ⟨b, j, none⟩ = some v := by
  subst hb
  rw [blk_cell (h.blk i _ hi) j]
  simpa using hj
theorem Fr.frozen (h : Fr w0 w q L) (i j : Nat) {b : Nat} {cs : List Value} {T : TypeId} (hi : L[i]? = some (.cells cs.toArray T)) (hb : b = q + i) : w.frozen? ⟨b, j, none⟩ = false := by
  subst hb
  exact blk_frozen (h.blk i _ hi) j
theorem blk_set {w : World} {b j : Nat} {cs : List Value} {T : TypeId} (h : w.heap[b]? = some (.cells cs.toArray T)) (v : Value) : (w.setCell ⟨b, j, none⟩ v).heap[b]? = some (.cells (cs.set j v).toArray T) := by
  simp only [World.setCell, Array.getElem?_modify]
  rw [if_pos trivial, h]
  simp
/-- one of them is stored. -/
theorem Fr.set (h : Fr w0 w q L) (i j : Nat) {b : Nat} {cs : List Value} {T : TypeId} (hi : L[i]? = some (.cells cs.toArray T)) (hb : b = q + i) (v : Value) :
    Fr w0 (w.setCell ⟨b, j, none⟩ v) q (L.set i (.cells (cs.set j v).toArray T)) := by
  subst hb
  refine ⟨fun k o hk => ?_, h.bel.setCell (by simp only; omega) _, by simpa [World.setCell] using h.sz, h.q0⟩
  by_cases e : k = i
  · subst e
    have hl : k < L.length := by
      rcases Nat.lt_or_ge k L.length with h1 | h1
      · exact h1
      · rw [List.getElem?_eq_none h1] at hi; cases hi
    rw [List.getElem?_set_self hl] at hk
    injection hk with hk; subst hk
    exact blk_set (h.blk k _ hi) v
  · rw [List.getElem?_set_ne (Ne.symm e)] at hk
    rw [Below.heap_setCell _ _ _ _ (by simp only; omega)]
    exact h.blk k o hk
/-- something else is stored. -/
theorem Fr.other (h : Fr w0 w q L) {b j : Nat} (hb : q + L.length ≤ b) (v : Value) : Fr w0 (w.setCell ⟨b, j, none⟩ v) q L := by
  refine ⟨fun k o hk => ?_, h.bel.setCell (by simp only; omega) _, by simpa [World.setCell] using h.sz, h.q0⟩
  have hl : k < L.length := by
    rcases Nat.lt_or_ge k L.length with h1 | h1
    · exact h1
    · rw [List.getElem?_eq_none h1] at hk; cases hk
  rw [Below.heap_setCell _ _ _ _ (by simp only; omega)]
  exact h.blk k o hk
theorem Fr.drew (h : Fr w0 w q L) : Fr w0 w.drew q L := ⟨h.blk, h.bel.drew, h.sz, h.q0⟩
theorem Fr.rng (h : Fr w0 w q L) (i : Nat) {b : Nat} {cs : List Value} {T : TypeId} (hi : L[i]? = some (.cells cs.toArray T)) (hb : b = q + i) : w.rangeAt b 0 cs := by
  intro j v hv
  rw [Nat.zero_add]
  exact h.cell i j hi hb hv
/-- what was below is as it was. -/
theorem Fr.es (h : Fr w0 w q L) {A : Option Addr} {n c k : Nat} {cs : List Value} (hx : Es w0 A n c k cs) : Es w A n c k cs := hx.below (h.q0 ▸ h.bel)
/-- what comes back of the call turned nothing that was. -/
theorem Fr.out (h : Fr w0 w q L) : Below w0.heap.size w0 w := h.q0 ▸ h.bel
end
theorem blk_rngs {w : World} {b : Nat} {x y : Value} {T : TypeId} (h : w.heap[b]? = some (.cells #[x, y] T)) : w.rangeAt b 0 [x, y] := by
  intro j v hv
  rw [Nat.zero_add, blk_cell h]
  simpa using hv
theorem blk_rngl {w : World} {b : Nat} {cs : List Value} {T : TypeId} (h : w.heap[b]? = some (.cells cs.toArray T)) : w.rangeAt b 0 cs := by
  intro j v hv
  rw [Nat.zero_add, blk_cell h]
  simpa using hv
/-- a pair is stored elsewhere. -/
theorem keep_pair {w : World} {b s : Nat} {o : Obj} (h : w.heap[s]? = some o) (hne : s ≠ b) (x y : Value) : ((w.setCell ⟨b, 0, none⟩ x).setCell ⟨b, 1, none⟩ y).heap[s]? = some o := by
  rw [Below.heap_setCell _ ⟨b, 1, none⟩ _ s hne, Below.heap_setCell _ ⟨b, 0, none⟩ _ s hne]; exact h
theorem cell_pair {w : World} {b s o : Nat} {z : Value} (h : w.cell? ⟨s, o, none⟩ = some z) (hne : s ≠ b) (x y : Value) : ((w.setCell ⟨b, 0, none⟩ x).setCell ⟨b, 1, none⟩ y).cell? ⟨s, o, none⟩ = some z := by
  rw [World.cell?_setCell_other _ _ _ _ (by simp [hne.symm, hne]), World.cell?_setCell_other _ _ _ _ (by simp [hne.symm, hne])]; exact h
theorem bel_pair {m : Nat} {w0 w : World} {b : Nat} (h : Below m w0 w) (hb : m ≤ b) (x y : Value) : Below m w0 ((w.setCell ⟨b, 0, none⟩ x).setCell ⟨b, 1, none⟩ y) := (h.setCell (by simp only; omega) _).setCell (by simp only; omega) _
theorem bel_drewN {m : Nat} {w w' : World} (h : Below m w w') (k : Nat) : Below m w (w'.drewN k) := ⟨h.os, h.tape, h.output, h.size, h.block⟩
/-- a variable that is read whole. -/
theorem Fr.load {w0 w : World} {q : Nat} {L : List Obj} (h : Fr w0 w q L) (i : Nat) {b : Nat} {cs : List Value} {T : TypeId} {fs : Array Field} (hi : L[i]? = some (.cells cs.toArray T)) (hb : b = q + i)
    (hu : Try.prog.underlying T = some (.struct fs)) (hk : (Try.prog.info? T).map (·.size) = some cs.toArray.size) : (loadVar T ⟨b, 0, none⟩).run Try.prog w = .ok (.agg cs.toArray) w := by
  subst hb
  exact run_loadVar_row (P := Try.prog) w (q + i) T T cs.toArray (0, 0) _ (h.blk i _ hi) hu (by rfl) hk
/-- numbers of the call's own grow by some. -/
theorem Fr.grown {w0 w w' : World} {q : Nat} {L : List Obj} {r : Option Nat} (h : Fr w0 w q L) (g : w.grownBy w' r) (hr : ∀ k, r = some k → q + L.length ≤ k) : Fr w0 w' q L := by
  have hz := h.sz
  refine ⟨fun i o hi => ?_, h.bel.grown g (by omega) (fun k hk => by have := hr k hk; omega), Nat.le_trans h.sz g.size, h.q0⟩
  have hl : i < L.length := by
    rcases Nat.lt_or_ge i L.length with h1 | h1
    · exact h1
    · rw [List.getElem?_eq_none h1] at hi; cases hi
  have h1 := h.blk i o hi
  rw [g.block (q + i) (blk_lt h1) (fun e => by have := hr _ e.symm; omega)]
  exact h1
theorem blk_grown {w w' : World} {b : Nat} {o : Obj} {r : Option Nat} (h : w.heap[b]? = some o) (g : w.grownBy w' r) (hne : ∀ k, r = some k → k ≠ b) : w'.heap[b]? = some o := by
  rw [g.block b (blk_lt h) (fun e => hne b e.symm rfl)]; exact h
theorem own_grown {w w' : World} {base : Nat} {e : TypeId} {size n : Nat} {v : Value} {xs : List Value} {r : Option Nat} (h : w.ownsRow base e size v n xs) (g : w.grownBy w' r) (hne : ∀ k, r = some k → k < base) : w'.ownsRow base e size v n xs := by
  refine ⟨h.1, ?_⟩
  rcases h.2 with h2 | ⟨b, cap, cur, h1, h2, h3, h4⟩
  · exact .inl h2
  · exact .inr ⟨b, cap, cur, h1, h2, blk_grown h3 g (fun k hk => by have := hne k hk; omega), h4⟩
theorem app_ints (W : World) (base : Nat) (v : Value) (n : Nat) (T : List Int) (hown : W.ownsRow base 3 1 v n (intC T)) (A : Option Addr) (m c : Nat) (xs : List Int) (h : Is W A m c xs) (hn : n + m ≤ 40000) (hb : base ≤ W.heap.size) :
    ∃ A' c' w', (Builtin.append_ #[36, 36] 36 #[v, .slice A m c]).run Try.prog W = .ok (.slice A' (n + m) c') w' ∧ w'.ownsRow base 3 1 (.slice A' (n + m) c') (n + m) (intC (T ++ xs)) ∧ W.grownBy w' v.ownBlock := by
  obtain ⟨i5, hi5, hz0, hz1, hz2⟩ := info_of infoInt
  obtain ⟨v', w', hr, h2, h3, h4⟩ := eapp_own (P := Try.prog) W base 36 36 3 i5 _ 1 _ Try.underlying36 hi5 hz0 hz1 hz2 rfl (by decide) v n _ hown A m c _ h (by unfold maxLen; omega) (by omega) hb
  rw [← intC_app] at h2
  obtain ⟨A', c', rfl, hb'⟩ := Es.of_own h2 (intC_one _)
  exact ⟨A', c', w', hr, h2, h3⟩
/-- a literal of numbers: a row of one's own. -/
theorem lit_ints (W : World) {base : Nat} (hb : base ≤ W.heap.size) (xs : List Int) (hx : xs.length ≤ 40000) {m : Nat} (hm : m = xs.length) : (W.alloc (.cells (intC xs).toArray 3)).ownsRow base 3 1 (.slice (some ⟨W.heap.size, 0, none⟩) m m) m (intC xs) := by
  subst hm
  have := World.ownsRow_lit (base := base) (e := 3) (size := 1) W (intC xs).toArray xs.length hb (by unfold maxLen; omega) (by simp [intC_len])
  simpa using this
theorem is_lit (W : World) (xs : List Int) {m : Nat} (hm : m = xs.length) : Is (W.alloc (.cells (intC xs).toArray 3)) (some ⟨W.heap.size, 0, none⟩) m m xs := Es.new_ W _ (intC xs) (intC_one _) (by rw [intC_len, hm, Nat.mul_one])
/-- numbers of one's own lie in a block of numbers. -/
def RowInt (w : World) (v : Value) : Prop := ∀ k, v.ownBlock = some k → ∃ cur fr, w.heap[k]? = some (.cells cur 3 fr)
theorem row_int {w : World} {v : Value} {base n : Nat} {xs : List Value} (h : w.ownsRow base 3 1 v n xs) : RowInt w v := fun k hk => by
  rcases h.2 with ⟨rfl, _⟩ | ⟨g, cap, cur, rfl, h2, h3, h4⟩
  · cases hk
  · simp [Value.ownBlock] at hk; subst hk; exact ⟨cur, _, h3⟩
/-- a row of numbers grows: what lies in a block of another type stays. -/
theorem keep_grown {w w' : World} {v : Value} {b : Nat} {cs : Array Value} {T : TypeId} {fr : Nat × Nat} (h : w.heap[b]? = some (.cells cs T fr)) (g : w.grownBy w' v.ownBlock) (hi : RowInt w v) (hT : T ≠ 3) : w'.heap[b]? = some (.cells cs T fr) := by
  rw [g.block b (blk_lt h) ?_]; exact h
  intro e
  obtain ⟨cur, fr2, h2⟩ := hi b e.symm
  rw [h] at h2; injection h2 with h2; injection h2 with _ h2; exact hT h2
/-- a row of one's own does not lie in a block of another type. -/
theorem own_ne {w : World} {v : Value} {base b k n : Nat} {xs : List Value} {T T' : TypeId} {cs : Array Value} {fr : Nat × Nat} (h : w.ownsRow base T k v n xs) (hb : w.heap[b]? = some (.cells cs T' fr)) (hT : T ≠ T') : v.ownBlock ≠ some b := by
  intro e
  rcases h.2 with ⟨rfl, _⟩ | ⟨g, cap, cur, rfl, h2, h3, h4⟩
  · cases e
  · simp [Value.ownBlock] at e; subst e; rw [hb] at h3; injection h3 with h3; injection h3 with _ h3; exact hT h3.symm
theorem blk_ne {w : World} {a b : Nat} {x y : Array Value} {T T' : TypeId} {fr fr' : Nat × Nat} (ha : w.heap[a]? = some (.cells x T fr)) (hb : w.heap[b]? = some (.cells y T' fr')) (hT : T ≠ T') : a ≠ b := by
  intro e; subst e; rw [ha] at hb; injection hb with hb; injection hb with _ hb; exact hT hb
/-- the first numbers, and the last. -/
theorem isl_take {P : Program} {w : World} {A : Option Addr} {n c : Nat} {xs : List Int} (h : Is w A n c xs) (t : TypeId) (ht : P.underlying t = some (.slice (P.elem t)))
    (hsz : ∀ W : World, (sizeOf (P.elem t)).run P W = .ok 1 W) (g : Int) (m : Nat) (hg : g = (m : Nat)) (hm : m ≤ n) :
    ∃ A2 c2, (∀ W : World, (Instr.slice t (.slice A n c) none (some (.int .i64 g)) none).run P W = .ok (.slice A2 m c2) W) ∧ Is w A2 m c2 (xs.take m) := by
  have hcap := Es.cap h
  have hlen := h.len
  refine ⟨if c = 0 then A else A.map (·.add (0 * 1)), c - 0, fun W => ?_, ?_⟩
  · rw [run_slice_h W t A n c ht .i64 g (by omega) (by omega), hsz]
    have e2 : g.toNat - 0 = m := by omega
    simp only [Result.andThen, sliced, e2]
  · refine ⟨?_, by omega, intC_one _, fun hm0 => ?_⟩
    · rw [intC_len, List.length_take]; omega
    · obtain ⟨b, off, rfl, hb, hc⟩ := Es.mem h (by omega)
      rw [if_neg (by omega)]
      refine ⟨b, off, by simp [add_plain], hb, fun j u hj => hc j u ?_⟩
      have hjl : j < m := by
        rcases Nat.lt_or_ge j m with h1 | h1
        · exact h1
        · rw [List.getElem?_eq_none (by rw [intC_len, List.length_take]; omega)] at hj; cases hj
      unfold intC at hj ⊢
      rw [List.getElem?_map, List.getElem?_take, if_pos hjl] at hj
      rw [List.getElem?_map]; exact hj
theorem isl_drop {P : Program} {w : World} {A : Option Addr} {n c : Nat} {xs : List Int} (h : Is w A n c xs) (t : TypeId) (ht : P.underlying t = some (.slice (P.elem t)))
    (hsz : ∀ W : World, (sizeOf (P.elem t)).run P W = .ok 1 W) (l : Int) (k : Nat) (hl : l = (k : Nat)) (hk : k ≤ n) :
    ∃ A2 c2, (∀ W : World, (Instr.slice t (.slice A n c) (some (.int .i64 l)) none none).run P W = .ok (.slice A2 (n - k) c2) W) ∧ Is w A2 (n - k) c2 (xs.drop k) := by
  have hcap := Es.cap h
  have hlen := h.len
  refine ⟨if c = k then A else A.map (·.add (k * 1)), c - k, fun W => ?_, ?_⟩
  · rw [run_slice_l W t A n c ht .i64 l (by omega) (by omega), hsz]
    have e1 : l.toNat = k := by omega
    simp only [Result.andThen, sliced, e1]
  · refine ⟨?_, by omega, intC_one _, fun hm0 => ?_⟩
    · rw [intC_len, List.length_drop]; omega
    · obtain ⟨b, off, rfl, hb, hc⟩ := Es.mem h (by omega)
      rw [if_neg (by omega)]
      refine ⟨b, off + k, by simp [add_plain], hb, fun j u hj => ?_⟩
      rw [Nat.add_assoc]
      refine hc (k + j) u ?_
      unfold intC at hj ⊢
      rw [List.getElem?_map, List.getElem?_drop] at hj
      rw [List.getElem?_map]; exact hj
theorem szInts (W : World) : (sizeOf (Try.prog.elem 36)).run Try.prog W = .ok 1 W := by kernel_rfl
theorem unInts : Try.prog.underlying 36 = some (.slice (Try.prog.elem 36)) := by kernel_rfl
/-- results that lie in memory. -/
theorem res_cc {P : Program} {fn : Func} {tmps : Array Value} {a b : Nat} {t s : TypeId} {ad bd : Addr} {v u : Value} {w : World} (h : fn.results = #[.cell a t, .cell b s]) (hp : tmps.getD a undef = .pointer (some ad)) (hq : tmps.getD b undef = .pointer (some bd))
    (hl : (loadVar t ad).run P w = .ok v w) (hm : (loadVar s bd).run P w = .ok u w) : (results fn tmps).run P w = .ok (.tuple #[v, u]) w := by
  unfold results
  rw [h]
  have hp2 : tmps[a]?.getD undef = .pointer (some ad) := by simpa using hp
  have hq2 : tmps[b]?.getD undef = .pointer (some bd) := by simpa using hq
  simp only [List.mapM_toArray, List.mapM_cons, List.mapM_nil]
  simp [Sem.run_bind, hp2, hq2]
  rw [show (Sem.run P (asAddr (Value.pointer (some ad))) w) = Result.ok ad w from rfl]
  simp [hl]
  rw [show (Sem.run P (asAddr (Value.pointer (some bd))) w) = Result.ok bd w from rfl]
  simp [hm]
theorem res_ccs {P : Program} {fn : Func} {tmps : Array Value} {a b c : Nat} {t s : TypeId} {ad bd : Addr} {v u : Value} {w : World} (h : fn.results = #[.cell a t, .cell b s, .tmp c]) (hp : tmps.getD a undef = .pointer (some ad)) (hq : tmps.getD b undef = .pointer (some bd))
    (hl : (loadVar t ad).run P w = .ok v w) (hm : (loadVar s bd).run P w = .ok u w) : (results fn tmps).run P w = .ok (.tuple #[v, u, tmps.getD c undef]) w := by
  unfold results
  rw [h]
  have hp2 : tmps[a]?.getD undef = .pointer (some ad) := by simpa using hp
  have hq2 : tmps[b]?.getD undef = .pointer (some bd) := by simpa using hq
  simp only [List.mapM_toArray, List.mapM_cons, List.mapM_nil]
  simp [Sem.run_bind, hp2, hq2]
  rw [show (Sem.run P (asAddr (Value.pointer (some ad))) w) = Result.ok ad w from rfl]
  simp [hl]
  rw [show (Sem.run P (asAddr (Value.pointer (some bd))) w) = Result.ok bd w from rfl]
  simp [hm]
theorem res_ccss {P : Program} {fn : Func} {tmps : Array Value} {a b c d : Nat} {t s : TypeId} {ad bd : Addr} {v u : Value} {w : World} (h : fn.results = #[.cell a t, .cell b s, .tmp c, .tmp d]) (hp : tmps.getD a undef = .pointer (some ad)) (hq : tmps.getD b undef = .pointer (some bd))
    (hl : (loadVar t ad).run P w = .ok v w) (hm : (loadVar s bd).run P w = .ok u w) : (results fn tmps).run P w = .ok (.tuple #[v, u, tmps.getD c undef, tmps.getD d undef]) w := by
  unfold results
  rw [h]
  have hp2 : tmps[a]?.getD undef = .pointer (some ad) := by simpa using hp
  have hq2 : tmps[b]?.getD undef = .pointer (some bd) := by simpa using hq
  simp only [List.mapM_toArray, List.mapM_cons, List.mapM_nil]
  simp [Sem.run_bind, hp2, hq2]
  rw [show (Sem.run P (asAddr (Value.pointer (some ad))) w) = Result.ok ad w from rfl]
  simp [hl]
  rw [show (Sem.run P (asAddr (Value.pointer (some bd))) w) = Result.ok bd w from rfl]
  simp [hm]
/-- a variable's cells, all of them. -/
theorem row1 {w : World} {b : Nat} {v0 : Value} {T : TypeId} (h : w.heap[b]? = some (.cells #[v0] T)) : w.cell? ⟨b, 0, none⟩ = some v0 := (blk_cell h 0).trans rfl
theorem frz1 {w : World} {b : Nat} {v0 : Value} {T : TypeId} (h : w.heap[b]? = some (.cells #[v0] T)) : w.frozen? ⟨b, 0, none⟩ = false := blk_frozen h 0
theorem row2 {w : World} {b : Nat} {v0 v1 : Value} {T : TypeId} (h : w.heap[b]? = some (.cells #[v0, v1] T)) : w.cell? ⟨b, 0, none⟩ = some v0 ∧ w.cell? ⟨b, 1, none⟩ = some v1 := ⟨(blk_cell h 0).trans rfl, (blk_cell h 1).trans rfl⟩
theorem frz2 {w : World} {b : Nat} {v0 v1 : Value} {T : TypeId} (h : w.heap[b]? = some (.cells #[v0, v1] T)) : w.frozen? ⟨b, 0, none⟩ = false ∧ w.frozen? ⟨b, 1, none⟩ = false := ⟨blk_frozen h 0, blk_frozen h 1⟩
theorem row3 {w : World} {b : Nat} {v0 v1 v2 : Value} {T : TypeId} (h : w.heap[b]? = some (.cells #[v0, v1, v2] T)) : w.cell? ⟨b, 0, none⟩ = some v0 ∧ w.cell? ⟨b, 1, none⟩ = some v1 ∧ w.cell? ⟨b, 2, none⟩ = some v2 := ⟨(blk_cell h 0).trans rfl, (blk_cell h 1).trans rfl, (blk_cell h 2).trans rfl⟩
theorem frz3 {w : World} {b : Nat} {v0 v1 v2 : Value} {T : TypeId} (h : w.heap[b]? = some (.cells #[v0, v1, v2] T)) : w.frozen? ⟨b, 0, none⟩ = false ∧ w.frozen? ⟨b, 1, none⟩ = false ∧ w.frozen? ⟨b, 2, none⟩ = false := ⟨blk_frozen h 0, blk_frozen h 1, blk_frozen h 2⟩
theorem row4 {w : World} {b : Nat} {v0 v1 v2 v3 : Value} {T : TypeId} (h : w.heap[b]? = some (.cells #[v0, v1, v2, v3] T)) : w.cell? ⟨b, 0, none⟩ = some v0 ∧ w.cell? ⟨b, 1, none⟩ = some v1 ∧ w.cell? ⟨b, 2, none⟩ = some v2 ∧ w.cell? ⟨b, 3, none⟩ = some v3 := ⟨(blk_cell h 0).trans rfl, (blk_cell h 1).trans rfl, (blk_cell h 2).trans rfl, (blk_cell h 3).trans rfl⟩
theorem frz4 {w : World} {b : Nat} {v0 v1 v2 v3 : Value} {T : TypeId} (h : w.heap[b]? = some (.cells #[v0, v1, v2, v3] T)) : w.frozen? ⟨b, 0, none⟩ = false ∧ w.frozen? ⟨b, 1, none⟩ = false ∧ w.frozen? ⟨b, 2, none⟩ = false ∧ w.frozen? ⟨b, 3, none⟩ = false := ⟨blk_frozen h 0, blk_frozen h 1, blk_frozen h 2, blk_frozen h 3⟩
theorem row5 {w : World} {b : Nat} {v0 v1 v2 v3 v4 : Value} {T : TypeId} (h : w.heap[b]? = some (.cells #[v0, v1, v2, v3, v4] T)) : w.cell? ⟨b, 0, none⟩ = some v0 ∧ w.cell? ⟨b, 1, none⟩ = some v1 ∧ w.cell? ⟨b, 2, none⟩ = some v2 ∧ w.cell? ⟨b, 3, none⟩ = some v3 ∧ w.cell? ⟨b, 4, none⟩ = some v4 := ⟨(blk_cell h 0).trans rfl, (blk_cell h 1).trans rfl, (blk_cell h 2).trans rfl, (blk_cell h 3).trans rfl, (blk_cell h 4).trans rfl⟩
theorem frz5 {w : World} {b : Nat} {v0 v1 v2 v3 v4 : Value} {T : TypeId} (h : w.heap[b]? = some (.cells #[v0, v1, v2, v3, v4] T)) : w.frozen? ⟨b, 0, none⟩ = false ∧ w.frozen? ⟨b, 1, none⟩ = false ∧ w.frozen? ⟨b, 2, none⟩ = false ∧ w.frozen? ⟨b, 3, none⟩ = false ∧ w.frozen? ⟨b, 4, none⟩ = false := ⟨blk_frozen h 0, blk_frozen h 1, blk_frozen h 2, blk_frozen h 3, blk_frozen h 4⟩
theorem row6 {w : World} {b : Nat} {v0 v1 v2 v3 v4 v5 : Value} {T : TypeId} (h : w.heap[b]? = some (.cells #[v0, v1, v2, v3, v4, v5] T)) : w.cell? ⟨b, 0, none⟩ = some v0 ∧ w.cell? ⟨b, 1, none⟩ = some v1 ∧ w.cell? ⟨b, 2, none⟩ = some v2 ∧ w.cell? ⟨b, 3, none⟩ = some v3 ∧ w.cell? ⟨b, 4, none⟩ = some v4 ∧ w.cell? ⟨b, 5, none⟩ = some v5 := ⟨(blk_cell h 0).trans rfl, (blk_cell h 1).trans rfl, (blk_cell h 2).trans rfl, (blk_cell h 3).trans rfl, (blk_cell h 4).trans rfl, (blk_cell h 5).trans rfl⟩
theorem frz6 {w : World} {b : Nat} {v0 v1 v2 v3 v4 v5 : Value} {T : TypeId} (h : w.heap[b]? = some (.cells #[v0, v1, v2, v3, v4, v5] T)) : w.frozen? ⟨b, 0, none⟩ = false ∧ w.frozen? ⟨b, 1, none⟩ = false ∧ w.frozen? ⟨b, 2, none⟩ = false ∧ w.frozen? ⟨b, 3, none⟩ = false ∧ w.frozen? ⟨b, 4, none⟩ = false ∧ w.frozen? ⟨b, 5, none⟩ = false := ⟨blk_frozen h 0, blk_frozen h 1, blk_frozen h 2, blk_frozen h 3, blk_frozen h 4, blk_frozen h 5⟩
theorem row7 {w : World} {b : Nat} {v0 v1 v2 v3 v4 v5 v6 : Value} {T : TypeId} (h : w.heap[b]? = some (.cells #[v0, v1, v2, v3, v4, v5, v6] T)) : w.cell? ⟨b, 0, none⟩ = some v0 ∧ w.cell? ⟨b, 1, none⟩ = some v1 ∧ w.cell? ⟨b, 2, none⟩ = some v2 ∧ w.cell? ⟨b, 3, none⟩ = some v3 ∧ w.cell? ⟨b, 4, none⟩ = some v4 ∧ w.cell? ⟨b, 5, none⟩ = some v5 ∧ w.cell? ⟨b, 6, none⟩ = some v6 := ⟨(blk_cell h 0).trans rfl, (blk_cell h 1).trans rfl, (blk_cell h 2).trans rfl, (blk_cell h 3).trans rfl, (blk_cell h 4).trans rfl, (blk_cell h 5).trans rfl, (blk_cell h 6).trans rfl⟩
theorem frz7 {w : World} {b : Nat} {v0 v1 v2 v3 v4 v5 v6 : Value} {T : TypeId} (h : w.heap[b]? = some (.cells #[v0, v1, v2, v3, v4, v5, v6] T)) : w.frozen? ⟨b, 0, none⟩ = false ∧ w.frozen? ⟨b, 1, none⟩ = false ∧ w.frozen? ⟨b, 2, none⟩ = false ∧ w.frozen? ⟨b, 3, none⟩ = false ∧ w.frozen? ⟨b, 4, none⟩ = false ∧ w.frozen? ⟨b, 5, none⟩ = false ∧ w.frozen? ⟨b, 6, none⟩ = false := ⟨blk_frozen h 0, blk_frozen h 1, blk_frozen h 2, blk_frozen h 3, blk_frozen h 4, blk_frozen h 5, blk_frozen h 6⟩
theorem row8 {w : World} {b : Nat} {v0 v1 v2 v3 v4 v5 v6 v7 : Value} {T : TypeId} (h : w.heap[b]? = some (.cells #[v0, v1, v2, v3, v4, v5, v6, v7] T)) : w.cell? ⟨b, 0, none⟩ = some v0 ∧ w.cell? ⟨b, 1, none⟩ = some v1 ∧ w.cell? ⟨b, 2, none⟩ = some v2 ∧ w.cell? ⟨b, 3, none⟩ = some v3 ∧ w.cell? ⟨b, 4, none⟩ = some v4 ∧ w.cell? ⟨b, 5, none⟩ = some v5 ∧ w.cell? ⟨b, 6, none⟩ = some v6 ∧ w.cell? ⟨b, 7, none⟩ = some v7 := ⟨(blk_cell h 0).trans rfl, (blk_cell h 1).trans rfl, (blk_cell h 2).trans rfl, (blk_cell h 3).trans rfl, (blk_cell h 4).trans rfl, (blk_cell h 5).trans rfl, (blk_cell h 6).trans rfl, (blk_cell h 7).trans rfl⟩
theorem frz8 {w : World} {b : Nat} {v0 v1 v2 v3 v4 v5 v6 v7 : Value} {T : TypeId} (h : w.heap[b]? = some (.cells #[v0, v1, v2, v3, v4, v5, v6, v7] T)) : w.frozen? ⟨b, 0, none⟩ = false ∧ w.frozen? ⟨b, 1, none⟩ = false ∧ w.frozen? ⟨b, 2, none⟩ = false ∧ w.frozen? ⟨b, 3, none⟩ = false ∧ w.frozen? ⟨b, 4, none⟩ = false ∧ w.frozen? ⟨b, 5, none⟩ = false ∧ w.frozen? ⟨b, 6, none⟩ = false ∧ w.frozen? ⟨b, 7, none⟩ = false := ⟨blk_frozen h 0, blk_frozen h 1, blk_frozen h 2, blk_frozen h 3, blk_frozen h 4, blk_frozen h 5, blk_frozen h 6, blk_frozen h 7⟩
theorem Fr.at {w0 w : World} {q : Nat} {L : List Obj} (h : Fr w0 w q L) (i : Nat) {b : Nat} {o : Obj} (hi : L[i]? = some o) (hb : b = q + i) : w.heap[b]? = some o := hb ▸ h.blk i o hi
theorem Fr.eqw {w0 w w2 : World} {q : Nat} {L : List Obj} (h : Fr w0 w q L) (e : w = w2) : Fr w0 w2 q L := e ▸ h
/-- a function's first variables. -/
theorem boxes1 (w : World) (a1 : Obj) : ∃ v1, w.alloc a1 = v1 ∧ v1.heap.size = w.heap.size + 1 ∧ Fr w v1 w.heap.size [a1] :=
  ⟨_, rfl, Fr.size1 _ _, Fr.first w a1⟩
theorem boxes2 (w : World) (a1 a2 : Obj) : ∃ v1, w.alloc a1 = v1 ∧ v1.heap.size = w.heap.size + 1 ∧ ∃ v2, v1.alloc a2 = v2 ∧ v2.heap.size = w.heap.size + 2 ∧ Fr w v2 w.heap.size [a1, a2] :=
  have ⟨v1, h1, z1, f⟩ := boxes1 w a1
  ⟨v1, h1, z1, _, rfl, (by rw [Fr.size1, z1]), f.more z1 a2⟩
theorem boxes3 (w : World) (a1 a2 a3 : Obj) : ∃ v1, w.alloc a1 = v1 ∧ v1.heap.size = w.heap.size + 1 ∧ ∃ v2, v1.alloc a2 = v2 ∧ v2.heap.size = w.heap.size + 2 ∧ ∃ v3, v2.alloc a3 = v3 ∧ v3.heap.size = w.heap.size + 3 ∧ Fr w v3 w.heap.size [a1, a2, a3] :=
  have ⟨v1, h1, z1, v2, h2, z2, f⟩ := boxes2 w a1 a2
  ⟨v1, h1, z1, v2, h2, z2, _, rfl, (by rw [Fr.size1, z2]), f.more z2 a3⟩
theorem boxes4 (w : World) (a1 a2 a3 a4 : Obj) : ∃ v1, w.alloc a1 = v1 ∧ v1.heap.size = w.heap.size + 1 ∧ ∃ v2, v1.alloc a2 = v2 ∧ v2.heap.size = w.heap.size + 2 ∧ ∃ v3, v2.alloc a3 = v3 ∧ v3.heap.size = w.heap.size + 3 ∧ ∃ v4, v3.alloc a4 = v4 ∧ v4.heap.size = w.heap.size + 4 ∧ Fr w v4 w.heap.size [a1, a2, a3, a4] :=
  have ⟨v1, h1, z1, v2, h2, z2, v3, h3, z3, f⟩ := boxes3 w a1 a2 a3
  ⟨v1, h1, z1, v2, h2, z2, v3, h3, z3, _, rfl, (by rw [Fr.size1, z3]), f.more z3 a4⟩
theorem boxes5 (w : World) (a1 a2 a3 a4 a5 : Obj) : ∃ v1, w.alloc a1 = v1 ∧ v1.heap.size = w.heap.size + 1 ∧ ∃ v2, v1.alloc a2 = v2 ∧ v2.heap.size = w.heap.size + 2 ∧ ∃ v3, v2.alloc a3 = v3 ∧ v3.heap.size = w.heap.size + 3 ∧ ∃ v4, v3.alloc a4 = v4 ∧ v4.heap.size = w.heap.size + 4 ∧ ∃ v5, v4.alloc a5 = v5 ∧ v5.heap.size = w.heap.size + 5 ∧ Fr w v5 w.heap.size [a1, a2, a3, a4, a5] :=
  have ⟨v1, h1, z1, v2, h2, z2, v3, h3, z3, v4, h4, z4, f⟩ := boxes4 w a1 a2 a3 a4
  ⟨v1, h1, z1, v2, h2, z2, v3, h3, z3, v4, h4, z4, _, rfl, (by rw [Fr.size1, z4]), f.more z4 a5⟩
theorem boxes6 (w : World) (a1 a2 a3 a4 a5 a6 : Obj) : ∃ v1, w.alloc a1 = v1 ∧ v1.heap.size = w.heap.size + 1 ∧ ∃ v2, v1.alloc a2 = v2 ∧ v2.heap.size = w.heap.size + 2 ∧ ∃ v3, v2.alloc a3 = v3 ∧ v3.heap.size = w.heap.size + 3 ∧ ∃ v4, v3.alloc a4 = v4 ∧ v4.heap.size = w.heap.size + 4 ∧ ∃ v5, v4.alloc a5 = v5 ∧ v5.heap.size = w.heap.size + 5 ∧ ∃ v6, v5.alloc a6 = v6 ∧ v6.heap.size = w.heap.size + 6 ∧ Fr w v6 w.heap.size [a1, a2, a3, a4, a5, a6] :=
  have ⟨v1, h1, z1, v2, h2, z2, v3, h3, z3, v4, h4, z4, v5, h5, z5, f⟩ := boxes5 w a1 a2 a3 a4 a5
  ⟨v1, h1, z1, v2, h2, z2, v3, h3, z3, v4, h4, z4, v5, h5, z5, _, rfl, (by rw [Fr.size1, z5]), f.more z5 a6⟩
theorem boxes7 (w : World) (a1 a2 a3 a4 a5 a6 a7 : Obj) : ∃ v1, w.alloc a1 = v1 ∧ v1.heap.size = w.heap.size + 1 ∧ ∃ v2, v1.alloc a2 = v2 ∧ v2.heap.size = w.heap.size + 2 ∧ ∃ v3, v2.alloc a3 = v3 ∧ v3.heap.size = w.heap.size + 3 ∧ ∃ v4, v3.alloc a4 = v4 ∧ v4.heap.size = w.heap.size + 4 ∧ ∃ v5, v4.alloc a5 = v5 ∧ v5.heap.size = w.heap.size + 5 ∧ ∃ v6, v5.alloc a6 = v6 ∧ v6.heap.size = w.heap.size + 6 ∧ ∃ v7, v6.alloc a7 = v7 ∧ v7.heap.size = w.heap.size + 7 ∧ Fr w v7 w.heap.size [a1, a2, a3, a4, a5, a6, a7] :=
  have ⟨v1, h1, z1, v2, h2, z2, v3, h3, z3, v4, h4, z4, v5, h5, z5, v6, h6, z6, f⟩ := boxes6 w a1 a2 a3 a4 a5 a6
  ⟨v1, h1, z1, v2, h2, z2, v3, h3, z3, v4, h4, z4, v5, h5, z5, v6, h6, z6, _, rfl, (by rw [Fr.size1, z6]), f.more z6 a7⟩
end Go.Proofs.Ytpkegfochfkkcaa
