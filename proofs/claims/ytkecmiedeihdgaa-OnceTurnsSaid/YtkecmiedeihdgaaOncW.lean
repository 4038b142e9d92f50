/- Layer 18: the variables of OnceTurns' walk, and what a step comes to there; no condition but those in each theorem. -/
import Derived.Test.YtkecmiedeihdgaaOncM
import Derived.Test.YtkecmiedeihdgaaTrn
import Derived.Test.YtkecmiedeihdgaaMutB
namespace Go.Proofs.Ytkecmiedeihdgaa
set_option linter.unusedVariables false
set_option linter.unusedSimpArgs false
open Go.RowKit
def onC (a b c : Int) : List Value := [.int .i64 4, .int .i64 a, .int .i64 b, .int .i64 c, .int .i64 0, .int .i64 0, .int .i64 0, .int .u32 0, .int .u32 0, .slice none 0 0, .slice none 0 0]
structure TO (w0 w : World) (sF sE sW sO : Nat) (F : Nat → MFr) (E : Nat → Bool) (W : Nat → Bool) (a b c : Int) : Prop where
  bF : w.heap[sF]? = some (.cells (frL5 F).toArray 47)
  bE : w.heap[sE]? = some (.cells (boL5 E).toArray 48)
  bW : w.heap[sW]? = some (.cells (boL5 W).toArray 48)
  bO : w.heap[sO]? = some (.cells (onC a b c).toArray 29)
  gF : w0.heap.size ≤ sF
  gE : w0.heap.size ≤ sE
  gW : w0.heap.size ≤ sW
  gO : w0.heap.size ≤ sO
  nEW : sE ≠ sW
  bel : Below w0.heap.size w0 w
  siz : w0.heap.size ≤ w.heap.size
section
variable {w0 w w' W' : World} {sF sE sW sO : Nat} {F : Nat → MFr} {E : Nat → Bool} {W : Nat → Bool} {a b c : Int} {t : Nat}
theorem TO.step (h : TO w0 w sF sE sW sO F E W a b c) (hb : Below w.heap.size w w') : TO w0 w' sF sE sW sO F E W a b c :=
  ⟨blk_below h.bF hb (blk_lt h.bF), blk_below h.bE hb (blk_lt h.bE), blk_below h.bW hb (blk_lt h.bW), blk_below h.bO hb (blk_lt h.bO), h.gF, h.gE, h.gW, h.gO, h.nEW, h.bel.trans (hb.mono h.siz), Nat.le_trans h.siz hb.size⟩
theorem TO.keptG (h : TO w0 w sF sE sW sO F E W a b c) (g : Grows w w' w0.heap.size) : TO w0 w' sF sE sW sO F E W a b c :=
  ⟨g.keep _ _ _ (by decide) h.bF, g.keep _ _ _ (by decide) h.bE, g.keep _ _ _ (by decide) h.bW, g.keep _ _ _ (by decide) h.bO, h.gF, h.gE, h.gW, h.gO, h.nEW, g.below w0 rfl h.bel, Nat.le_trans h.siz g.size⟩
theorem TO.putF (h : TO w0 w sF sE sW sO F E W a b c) (ht : t < 5) (f0 : MFr) : TO w0 (w.setCells sF (t * 10) (frC f0)) sF sE sW sO (updN F t f0) E W a b c := by
  refine ⟨?_, keepS5 h.bE (blk_ne h.bE h.bF (by decide)) _ _, keepS5 h.bW (blk_ne h.bW h.bF (by decide)) _ _, keepS5 h.bO (blk_ne h.bO h.bF (by decide)) _ _, h.gF, h.gE, h.gW, h.gO, h.nEW, below_setCells h.gF _ _ _ h.bel, by rw [size_setCells]; exact h.siz⟩
  rw [← frL5_put F f0 ht]
  exact blk_set (blk_set (blk_set (blk_set (blk_set (blk_set (blk_set (blk_set (blk_set (blk_set h.bF _) _) _) _) _) _) _) _) _) _
theorem TO.putFE (h : TO w0 w sF sE sW sO F E W a b c) (ht : t < 5) (f0 : MFr) (e' : w.setCells sF (t * 10) (frC f0) = W') : TO w0 W' sF sE sW sO (updN F t f0) E W a b c := e' ▸ h.putF ht f0
theorem TO.putN (h : TO w0 w sF sE sW sO F E W a b c) (ht : t < 5) : TO w0 (w.setCell ⟨sF, t * 10 + 8, none⟩ (.int .i64 0)) sF sE sW sO (updN F t { F t with need := 0 }) E W a b c := by
  refine ⟨?_, keep15 h.bE (blk_ne h.bE h.bF (by decide)) _ _, keep15 h.bW (blk_ne h.bW h.bF (by decide)) _ _, keep15 h.bO (blk_ne h.bO h.bF (by decide)) _ _, h.gF, h.gE, h.gW, h.gO, h.nEW, h.bel.setCell h.gF _, by simpa [World.setCell] using h.siz⟩
  rw [← frL5_need F ht]
  exact blk_set h.bF _
theorem TO.putNE (h : TO w0 w sF sE sW sO F E W a b c) (ht : t < 5) (e' : w.setCell ⟨sF, t * 10 + 8, none⟩ (.int .i64 0) = W') : TO w0 W' sF sE sW sO (updN F t { F t with need := 0 }) E W a b c := e' ▸ h.putN ht
theorem TO.putE (h : TO w0 w sF sE sW sO F E W a b c) (ht : t < 5) (x : Bool) : TO w0 (w.setCell ⟨sE, t, none⟩ (.bool x)) sF sE sW sO F (updN E t x) W a b c := by
  refine ⟨keep15 h.bF (blk_ne h.bF h.bE (by decide)) _ _, ?_, keep15 h.bW h.nEW.symm _ _, keep15 h.bO (blk_ne h.bO h.bE (by decide)) _ _, h.gF, h.gE, h.gW, h.gO, h.nEW, h.bel.setCell h.gE _, by simpa [World.setCell] using h.siz⟩
  rw [← boL5_put E x ht]
  exact blk_set h.bE _
theorem TO.putEE (h : TO w0 w sF sE sW sO F E W a b c) (ht : t < 5) (x : Bool) (e' : w.setCell ⟨sE, t, none⟩ (.bool x) = W') : TO w0 W' sF sE sW sO F (updN E t x) W a b c := e' ▸ h.putE ht x
theorem TO.atE (h : TO w0 w sF sE sW sO F E W a b c) (ht : t < 5) : w.cell? ⟨sE, t, none⟩ = some (.bool (E t)) := by
  have hc := blk_cell h.bE t
  rw [List.getElem?_toArray, boL5_at E ht] at hc; exact hc
theorem TO.putW (h : TO w0 w sF sE sW sO F E W a b c) (ht : t < 5) (x : Bool) : TO w0 (w.setCell ⟨sW, t, none⟩ (.bool x)) sF sE sW sO F E (updN W t x) a b c := by
  refine ⟨keep15 h.bF (blk_ne h.bF h.bW (by decide)) _ _, keep15 h.bE h.nEW _ _, ?_, keep15 h.bO (blk_ne h.bO h.bW (by decide)) _ _, h.gF, h.gE, h.gW, h.gO, h.nEW, h.bel.setCell h.gW _, by simpa [World.setCell] using h.siz⟩
  rw [← boL5_put W x ht]
  exact blk_set h.bW _
theorem TO.putWE (h : TO w0 w sF sE sW sO F E W a b c) (ht : t < 5) (x : Bool) (e' : w.setCell ⟨sW, t, none⟩ (.bool x) = W') : TO w0 W' sF sE sW sO F E (updN W t x) a b c := e' ▸ h.putW ht x
theorem TO.atW (h : TO w0 w sF sE sW sO F E W a b c) (ht : t < 5) : w.cell? ⟨sW, t, none⟩ = some (.bool (W t)) := by
  have hc := blk_cell h.bW t
  rw [List.getElem?_toArray, boL5_at W ht] at hc; exact hc
theorem TO.putO (h : TO w0 w sF sE sW sO F E W a b c) (a' b' c' : Int) : TO w0 (w.setCells sO 0 (onC a' b' c')) sF sE sW sO F E W a' b' c' := by
  refine ⟨keepS5 h.bF (blk_ne h.bF h.bO (by decide)) _ _, keepS5 h.bE (blk_ne h.bE h.bO (by decide)) _ _, keepS5 h.bW (blk_ne h.bW h.bO (by decide)) _ _, ?_, h.gF, h.gE, h.gW, h.gO, h.nEW, below_setCells h.gO _ _ _ h.bel, by rw [size_setCells]; exact h.siz⟩
  exact heap_setCells (onC a' b' c') w [] (onC a b c) rfl h.bO
theorem TO.putOE (h : TO w0 w sF sE sW sO F E W a b c) (a' b' c' : Int) (e' : w.setCells sO 0 (onC a' b' c') = W') : TO w0 W' sF sE sW sO F E W a' b' c' := e' ▸ h.putO a' b' c'
theorem TO.putS0 (h : TO w0 w sF sE sW sO F E W a b c) (x : Int) : TO w0 (w.setCell ⟨sO, 1, none⟩ (.int .i64 x)) sF sE sW sO F E W x b c := by
  refine ⟨keep15 h.bF (blk_ne h.bF h.bO (by decide)) _ _, keep15 h.bE (blk_ne h.bE h.bO (by decide)) _ _, keep15 h.bW (blk_ne h.bW h.bO (by decide)) _ _, ?_, h.gF, h.gE, h.gW, h.gO, h.nEW, h.bel.setCell h.gO _, by simpa [World.setCell] using h.siz⟩
  exact blk_set (j := 1) h.bO _
theorem TO.putS0E (h : TO w0 w sF sE sW sO F E W a b c) (x : Int) (e' : w.setCell ⟨sO, 1, none⟩ (.int .i64 x) = W') : TO w0 W' sF sE sW sO F E W x b c := e' ▸ h.putS0 x
theorem TO.putS1 (h : TO w0 w sF sE sW sO F E W a b c) (x : Int) : TO w0 (w.setCell ⟨sO, 2, none⟩ (.int .i64 x)) sF sE sW sO F E W a x c := by
  refine ⟨keep15 h.bF (blk_ne h.bF h.bO (by decide)) _ _, keep15 h.bE (blk_ne h.bE h.bO (by decide)) _ _, keep15 h.bW (blk_ne h.bW h.bO (by decide)) _ _, ?_, h.gF, h.gE, h.gW, h.gO, h.nEW, h.bel.setCell h.gO _, by simpa [World.setCell] using h.siz⟩
  exact blk_set (j := 2) h.bO _
theorem TO.putS1E (h : TO w0 w sF sE sW sO F E W a b c) (x : Int) (e' : w.setCell ⟨sO, 2, none⟩ (.int .i64 x) = W') : TO w0 W' sF sE sW sO F E W a x c := e' ▸ h.putS1 x
theorem TO.putS2 (h : TO w0 w sF sE sW sO F E W a b c) (x : Int) : TO w0 (w.setCell ⟨sO, 3, none⟩ (.int .i64 x)) sF sE sW sO F E W a b x := by
  refine ⟨keep15 h.bF (blk_ne h.bF h.bO (by decide)) _ _, keep15 h.bE (blk_ne h.bE h.bO (by decide)) _ _, keep15 h.bW (blk_ne h.bW h.bO (by decide)) _ _, ?_, h.gF, h.gE, h.gW, h.gO, h.nEW, h.bel.setCell h.gO _, by simpa [World.setCell] using h.siz⟩
  exact blk_set (j := 3) h.bO _
theorem TO.putS2E (h : TO w0 w sF sE sW sO F E W a b c) (x : Int) (e' : w.setCell ⟨sO, 3, none⟩ (.int .i64 x) = W') : TO w0 W' sF sE sW sO F E W a b x := e' ▸ h.putS2 x
theorem TO.frame (h : TO w0 w sF sE sW sO F E W a b c) (ht : t < 5) : w.cell? ⟨sF, t * 10, none⟩ = some (.int .i64 (F t).op) ∧ w.cell? ⟨sF, t * 10 + 1, none⟩ = some (.int .i64 (F t).stage) ∧ w.cell? ⟨sF, t * 10 + 2, none⟩ = some (.int .i64 (F t).phase) ∧ w.cell? ⟨sF, t * 10 + 3, none⟩ = some (.int .i64 (F t).old) ∧ w.cell? ⟨sF, t * 10 + 4, none⟩ = some (.int .i64 (F t).since) ∧ w.cell? ⟨sF, t * 10 + 5, none⟩ = some (.int .i64 (F t).left) ∧ w.cell? ⟨sF, t * 10 + 6, none⟩ = some (.bool (F t).awoke) ∧ w.cell? ⟨sF, t * 10 + 7, none⟩ = some (.bool (F t).starve) ∧ w.cell? ⟨sF, t * 10 + 8, none⟩ = some (.int .i64 (F t).need) ∧ w.cell? ⟨sF, t * 10 + 9, none⟩ = some (.bool (F t).front) := by
  obtain ⟨e0, e1, e2, e3, e4, e5, e6, e7, e8, e9⟩ := frL5_at F ht
  have hc := fun j => blk_cell h.bF j
  simp only [List.getElem?_toArray] at hc
  exact ⟨(hc _).trans e0, (hc _).trans e1, (hc _).trans e2, (hc _).trans e3, (hc _).trans e4, (hc _).trans e5, (hc _).trans e6, (hc _).trans e7, (hc _).trans e8, (hc _).trans e9⟩
theorem TO.frz (h : TO w0 w sF sE sW sO F E W a b c) (t : Nat) : w.frozen? ⟨sF, t * 10, none⟩ = false ∧ w.frozen? ⟨sF, t * 10 + 1, none⟩ = false ∧ w.frozen? ⟨sF, t * 10 + 2, none⟩ = false ∧ w.frozen? ⟨sF, t * 10 + 3, none⟩ = false ∧ w.frozen? ⟨sF, t * 10 + 4, none⟩ = false ∧ w.frozen? ⟨sF, t * 10 + 5, none⟩ = false ∧ w.frozen? ⟨sF, t * 10 + 6, none⟩ = false ∧ w.frozen? ⟨sF, t * 10 + 7, none⟩ = false ∧ w.frozen? ⟨sF, t * 10 + 8, none⟩ = false ∧ w.frozen? ⟨sF, t * 10 + 9, none⟩ = false :=
  ⟨blk_frozen h.bF _, blk_frozen h.bF _, blk_frozen h.bF _, blk_frozen h.bF _, blk_frozen h.bF _, blk_frozen h.bF _, blk_frozen h.bF _, blk_frozen h.bF _, blk_frozen h.bF _, blk_frozen h.bF _⟩
theorem TO.othS (h : TO w0 w sF sE sW sO F E W a b c) {q : Nat} {cs : Array Value} {T : TypeId} (hv : w.heap[q]? = some (.cells cs T)) (h0 : T ≠ 47) (h1 : T ≠ 48) (h2 : T ≠ 29) (ge : w0.heap.size ≤ q) (j : Nat) (vs : List Value) : TO w0 (w.setCells q j vs) sF sE sW sO F E W a b c :=
  ⟨keepS5 h.bF (blk_ne h.bF hv (Ne.symm h0)) _ _, keepS5 h.bE (blk_ne h.bE hv (Ne.symm h1)) _ _, keepS5 h.bW (blk_ne h.bW hv (Ne.symm h1)) _ _, keepS5 h.bO (blk_ne h.bO hv (Ne.symm h2)) _ _, h.gF, h.gE, h.gW, h.gO, h.nEW, below_setCells ge _ _ _ h.bel, by rw [size_setCells]; exact h.siz⟩
theorem TO.othE (h : TO w0 w sF sE sW sO F E W a b c) {q : Nat} {cs : Array Value} {T : TypeId} (hv : w.heap[q]? = some (.cells cs T)) (h0 : T ≠ 47) (h1 : T ≠ 48) (h2 : T ≠ 29) (ge : w0.heap.size ≤ q) {j : Nat} {vs : List Value} (e' : w.setCells q j vs = W') : TO w0 W' sF sE sW sO F E W a b c := e' ▸ h.othS hv h0 h1 h2 ge j vs
theorem TO.oth1 (h : TO w0 w sF sE sW sO F E W a b c) {q : Nat} {cs : Array Value} {T : TypeId} (hv : w.heap[q]? = some (.cells cs T)) (h0 : T ≠ 47) (h1 : T ≠ 48) (h2 : T ≠ 29) (ge : w0.heap.size ≤ q) {j : Nat} {v : Value} (e' : w.setCell ⟨q, j, none⟩ v = W') : TO w0 W' sF sE sW sO F E W a b c := e' ▸ h.othS hv h0 h1 h2 ge j [v]
end
theorem TO.first {w0 w1 : World} (hb : Below w0.heap.size w0 w1) (hs : w0.heap.size ≤ w1.heap.size) : TO w0 ((((w1.alloc (.cells (List.toArray (.int .i64 0 :: .int .i64 0 :: .int .i64 0 :: .int .i64 0 :: .int .i64 0 :: .int .i64 0 :: .bool false :: .bool false :: .int .i64 0 :: .bool false :: .int .i64 0 :: .int .i64 0 :: .int .i64 0 :: .int .i64 0 :: .int .i64 0 :: .int .i64 0 :: .bool false :: .bool false :: .int .i64 0 :: .bool false :: .int .i64 0 :: .int .i64 0 :: .int .i64 0 :: .int .i64 0 :: .int .i64 0 :: .int .i64 0 :: .bool false :: .bool false :: .int .i64 0 :: .bool false :: .int .i64 0 :: .int .i64 0 :: .int .i64 0 :: .int .i64 0 :: .int .i64 0 :: .int .i64 0 :: .bool false :: .bool false :: .int .i64 0 :: .bool false :: .int .i64 0 :: .int .i64 0 :: .int .i64 0 :: .int .i64 0 :: .int .i64 0 :: .int .i64 0 :: .bool false :: .bool false :: .int .i64 0 :: .bool false :: [])) 47)).alloc (.cells #[.bool false, .bool false, .bool false, .bool false, .bool false] 48)).alloc (.cells #[.bool false, .bool false, .bool false, .bool false, .bool false] 48)).alloc (.cells #[.int .i64 4, .int .i64 0, .int .i64 0, .int .i64 0, .int .i64 0, .int .i64 0, .int .i64 0, .int .u32 0, .int .u32 0, .slice none 0 0, .slice none 0 0] 29)) (w1.heap.size) (w1.heap.size + 1) (w1.heap.size + 1 + 1) (w1.heap.size + 1 + 1 + 1) (fun _ => noF) (fun _ => false) (fun _ => false) 0 0 0 := by
  obtain ⟨v1, e1, z1, v2, e2, z2, v3, e3, z3, v4, e4, z4, f⟩ := boxes4 w1 (.cells (List.toArray (.int .i64 0 :: .int .i64 0 :: .int .i64 0 :: .int .i64 0 :: .int .i64 0 :: .int .i64 0 :: .bool false :: .bool false :: .int .i64 0 :: .bool false :: .int .i64 0 :: .int .i64 0 :: .int .i64 0 :: .int .i64 0 :: .int .i64 0 :: .int .i64 0 :: .bool false :: .bool false :: .int .i64 0 :: .bool false :: .int .i64 0 :: .int .i64 0 :: .int .i64 0 :: .int .i64 0 :: .int .i64 0 :: .int .i64 0 :: .bool false :: .bool false :: .int .i64 0 :: .bool false :: .int .i64 0 :: .int .i64 0 :: .int .i64 0 :: .int .i64 0 :: .int .i64 0 :: .int .i64 0 :: .bool false :: .bool false :: .int .i64 0 :: .bool false :: .int .i64 0 :: .int .i64 0 :: .int .i64 0 :: .int .i64 0 :: .int .i64 0 :: .int .i64 0 :: .bool false :: .bool false :: .int .i64 0 :: .bool false :: [])) 47) (.cells #[.bool false, .bool false, .bool false, .bool false, .bool false] 48) (.cells #[.bool false, .bool false, .bool false, .bool false, .bool false] 48) (.cells #[.int .i64 4, .int .i64 0, .int .i64 0, .int .i64 0, .int .i64 0, .int .i64 0, .int .i64 0, .int .u32 0, .int .u32 0, .slice none 0 0, .slice none 0 0] 29)
  subst e1 e2 e3 e4
  exact ⟨f.blk 0 _ rfl, f.blk 1 _ rfl, f.blk 2 _ rfl, f.blk 3 _ rfl, hs, by omega, by omega, by omega, by omega, hb.trans (f.bel.mono hs), by have := f.sz; omega⟩
section
variable {w0 s w2 told over : Int} {F : Nat → MFr} {E W : Nat → Bool} {row : List Nat} {t : Nat}
theorem OInv.need0 (h : OInv w0 s w2 F E W row told over) (ht : t < 6) : 0 ≤ (F t).need := by
  have o := h.ok t ht
  have m := (h.mu.ok t ht).need
  have z : (0 : Int) ≤ 0 := Int.le_refl 0
  cases he : E t
  · rcases o.on he with e | e | ⟨e1, e2⟩ | e | ⟨e1, e2, e3⟩
    · rw [e]; exact z
    · rw [e]; exact z
    · have a1 : miO (F t) false = false := by unfold miO; rw [e2]; rfl
      have a2 : mfO (F t) false = F t := by unfold mfO; rw [if_neg (by rw [a1]; decide), if_pos e2]
      simp only [he, a2] at m; exact m
    · rw [e]; exact z
    · rw [e3]; exact z
  · rcases o.en he with e | ⟨e1, e2, e3⟩
    · rw [e]; exact z
    · rw [e3]; exact z
theorem OInv.rng (h : OInv w0 s w2 F E W row told over) : IntKind.i64.wrap w0 = w0 := by
  have p6 := one_le p34I p34_le (fun k => mfO (F k) (E k)) (fun k => miO (F k) (E k)); have c0 := h.mu.C0; have c1 := h.mu.C1; have q0 := h.mu.w0; have q1 := h.mu.s0; have q2 := one_le tnI (fun f b => by unfold tnI; split <;> omega) (fun k => mfO (F k) (E k)) (fun k => miO (F k) (E k)); rw [IntKind.wrap_i64]; omega
/-- the semaphore's units are few. -/
theorem OInv.few (h : OInv w0 s w2 F E W row told over) : 0 ≤ s ∧ s ≤ 1 := by
  have := h.mu.s0; have h0 := h.mu.T0; have h1 := h.mu.T1; omega
def Link (E : Nat → Bool) (t : Nat) (vl x2 over : Int) (E' : Nat → Bool) (over' : Int) : Prop := (E t = true ∧ E' = updN E t false ∧ over' = over + 1) ∨ (E t = false ∧ E' = E ∧ over' = over ∧ vl = 0 ∧ x2 = 1)
/-- what is still to be done of a step that may have been the last one. -/
def OPend (dn : Bool) (vl x0 s x2 : Int) (F : Nat → MFr) (E W : Nat → Bool) (row : List Nat) (told over : Int) (t : Nat) : Prop :=
  (dn = false ∧ OInv x0 s x2 F E W row told over) ∨ (dn = true ∧ E t = false ∧ vl = 1 ∧ OInv x0 s x2 (updN F t (beginF 35)) (updN E t true) W row (told + 1) over) ∨
  (dn = true ∧ ∃ E' over', Link E t vl x2 over E' over' ∧ OInv x0 s x2 F E' W row told over')
def OAns (dn hd : Bool) (gv vl x0 s x2 : Int) (F : Nat → MFr) (E W : Nat → Bool) (row : List Nat) (told over : Int) (t : Nat) : Prop :=
  (gv = 0 ∧ OPend dn vl x0 s x2 F E W row told over t) ∨ (gv = 2 ∧ dn = true ∧ ∃ E' over', Link E t vl x2 over E' over' ∧ OInv x0 (s + 1) x2 F E' W row told over')
variable {f g : MFr} {gdn ghd : Bool} {ggv gft gvl z0 z2 : Int}
theorem ans_once (he : E t = false) (h : OnceTo s (updN F t f) E W row told over t ((z0, z2), g, ⟨gdn, ggv, ghd, gft⟩, gvl)) : gft = 0 ∧ OAns gdn ghd ggv gvl z0 s z2 (updN F t g) E W row told over t := by
  obtain ⟨h0, h⟩ := h
  simp only [updN_upd] at h0 h
  refine ⟨h0, ?_⟩
  rcases h with ⟨h1, h2, h3⟩ | ⟨h1, h2, h3⟩ | ⟨h1, h2, h3, ⟨h4, h5, h6⟩ | ⟨h4, h6⟩⟩
  · exact Or.inl ⟨h2, Or.inl ⟨h1, h3⟩⟩
  · injection h1 with a1 a2 a3 a4
    exact Or.inl ⟨a2, Or.inr (Or.inl ⟨a1, he, h2, by rw [updN_upd]; exact h3⟩)⟩
  · exact Or.inl ⟨h4, Or.inr (Or.inr ⟨h1, E, over, Or.inr ⟨he, rfl, rfl, h2, h3⟩, h6⟩)⟩
  · exact Or.inr ⟨h4, h1, E, over, Or.inr ⟨he, rfl, rfl, h2, h3⟩, h6⟩
theorem ans_end (he : E t = true) (h : EndTo s (updN F t f) E W row told over t ((z0, z2), g, ⟨gdn, ggv, ghd, gft⟩, gvl)) : gft = 0 ∧ OAns gdn ghd ggv gvl z0 s z2 (updN F t g) E W row told over t := by
  obtain ⟨h0, h⟩ := h
  simp only [updN_upd] at h0 h
  refine ⟨h0, ?_⟩
  rcases h with ⟨h1, h2, h3⟩ | ⟨h1, ⟨h4, h5, h6⟩ | ⟨h4, h6⟩⟩
  · exact Or.inl ⟨h2, Or.inl ⟨h1, h3⟩⟩
  · exact Or.inl ⟨h4, Or.inr (Or.inr ⟨h1, _, _, Or.inl ⟨he, rfl, rfl⟩, h6⟩)⟩
  · exact Or.inr ⟨h4, h1, _, _, Or.inl ⟨he, rfl, rfl⟩, h6⟩
end
set_option maxRecDepth 100000 in
theorem frame17of203 {a : Act} {e0 e1 e2 e3 e4 e5 e6 e7 e8 e9 e10 e11 e12 e13 e14 e15 e16 : Value} (h : FraN a 203 [e0, e1, e2, e3, e4, e5, e6, e7, e8, e9, e10, e11, e12, e13, e14, e15, e16]) : ∃ t : Nat → Value, a = ⟨((e0 :: e1 :: e2 :: e3 :: e4 :: e5 :: e6 :: e7 :: e8 :: e9 :: e10 :: e11 :: e12 :: e13 :: e14 :: e15 :: e16 :: t 17 :: t 18 :: t 19 :: t 20 :: t 21 :: t 22 :: t 23 :: t 24 :: t 25 :: t 26 :: t 27 :: t 28 :: t 29 :: t 30 :: t 31 :: t 32 :: t 33 :: t 34 :: t 35 :: t 36 :: t 37 :: t 38 :: t 39 :: t 40 :: t 41 :: t 42 :: t 43 :: t 44 :: t 45 :: t 46 :: t 47 :: t 48 :: t 49 :: t 50 :: t 51 :: t 52 :: t 53 :: t 54 :: t 55 :: t 56 :: t 57 :: t 58 :: t 59 :: t 60 :: t 61 :: t 62 :: t 63 :: t 64 :: t 65 :: t 66 :: t 67 :: t 68 :: t 69 :: t 70 :: t 71 :: t 72 :: t 73 :: t 74 :: t 75 :: t 76 :: t 77 :: t 78 :: t 79 :: t 80 :: t 81 :: t 82 :: t 83 :: t 84 :: t 85 :: t 86 :: t 87 :: t 88 :: t 89 :: t 90 :: t 91 :: t 92 :: t 93 :: t 94 :: t 95 :: t 96 :: t 97 :: t 98 :: t 99 :: t 100 :: t 101 :: t 102 :: t 103 :: t 104 :: t 105 :: t 106 :: t 107 :: t 108 :: t 109 :: t 110 :: t 111 :: t 112 :: t 113 :: t 114 :: t 115 :: t 116 :: t 117 :: t 118 :: t 119 :: t 120 :: t 121 :: t 122 :: t 123 :: t 124 :: t 125 :: t 126 :: t 127 :: t 128 :: t 129 :: t 130 :: t 131 :: t 132 :: t 133 :: t 134 :: t 135 :: t 136 :: t 137 :: t 138 :: t 139 :: t 140 :: t 141 :: t 142 :: t 143 :: t 144 :: t 145 :: t 146 :: t 147 :: t 148 :: t 149 :: t 150 :: t 151 :: t 152 :: t 153 :: t 154 :: t 155 :: t 156 :: t 157 :: t 158 :: t 159 :: t 160 :: t 161 :: t 162 :: t 163 :: t 164 :: t 165 :: t 166 :: t 167 :: t 168 :: t 169 :: t 170 :: t 171 :: t 172 :: t 173 :: t 174 :: t 175 :: t 176 :: t 177 :: t 178 :: t 179 :: t 180 :: t 181 :: t 182 :: t 183 :: t 184 :: t 185 :: t 186 :: t 187 :: t 188 :: t 189 :: t 190 :: t 191 :: t 192 :: t 193 :: t 194 :: t 195 :: t 196 :: t 197 :: t 198 :: t 199 :: t 200 :: t 201 :: t 202 :: [] : List Value)).toArray, []⟩ := by
  obtain ⟨⟨l⟩, df⟩ := a
  obtain ⟨hs, hd, hp⟩ := h
  simp only at hd
  replace hp : l.take 17 = [e0, e1, e2, e3, e4, e5, e6, e7, e8, e9, e10, e11, e12, e13, e14, e15, e16] := hp
  subst hd
  have hl : l.length = 203 := hs
  obtain ⟨t, ht⟩ : ∃ t : Nat → Value, ∀ k, l.getD k undef = t k := ⟨_, fun _ => rfl⟩
  refine ⟨t, ?_⟩
  have h3 : l.drop 17 = (List.range' 17 186).map t := by
    apply List.ext_getElem
    · simp [hl]
    · intro i h1 h2
      rw [List.getElem_drop, List.getElem_map, List.getElem_range', ← ht, Nat.one_mul]
      simp only [List.length_drop] at h1
      rw [List.getD_eq_getElem?_getD, List.getElem?_eq_getElem (by omega)]; rfl
  have h2 : l = l.take 17 ++ l.drop 17 := (List.take_append_drop 17 l).symm
  rw [hp, h3] at h2
  have h4 : [e0, e1, e2, e3, e4, e5, e6, e7, e8, e9, e10, e11, e12, e13, e14, e15, e16] ++ (List.range' 17 186).map t = e0 :: e1 :: e2 :: e3 :: e4 :: e5 :: e6 :: e7 :: e8 :: e9 :: e10 :: e11 :: e12 :: e13 :: e14 :: e15 :: e16 :: t 17 :: t 18 :: t 19 :: t 20 :: t 21 :: t 22 :: t 23 :: t 24 :: t 25 :: t 26 :: t 27 :: t 28 :: t 29 :: t 30 :: t 31 :: t 32 :: t 33 :: t 34 :: t 35 :: t 36 :: t 37 :: t 38 :: t 39 :: t 40 :: t 41 :: t 42 :: t 43 :: t 44 :: t 45 :: t 46 :: t 47 :: t 48 :: t 49 :: t 50 :: t 51 :: t 52 :: t 53 :: t 54 :: t 55 :: t 56 :: t 57 :: t 58 :: t 59 :: t 60 :: t 61 :: t 62 :: t 63 :: t 64 :: t 65 :: t 66 :: t 67 :: t 68 :: t 69 :: t 70 :: t 71 :: t 72 :: t 73 :: t 74 :: t 75 :: t 76 :: t 77 :: t 78 :: t 79 :: t 80 :: t 81 :: t 82 :: t 83 :: t 84 :: t 85 :: t 86 :: t 87 :: t 88 :: t 89 :: t 90 :: t 91 :: t 92 :: t 93 :: t 94 :: t 95 :: t 96 :: t 97 :: t 98 :: t 99 :: t 100 :: t 101 :: t 102 :: t 103 :: t 104 :: t 105 :: t 106 :: t 107 :: t 108 :: t 109 :: t 110 :: t 111 :: t 112 :: t 113 :: t 114 :: t 115 :: t 116 :: t 117 :: t 118 :: t 119 :: t 120 :: t 121 :: t 122 :: t 123 :: t 124 :: t 125 :: t 126 :: t 127 :: t 128 :: t 129 :: t 130 :: t 131 :: t 132 :: t 133 :: t 134 :: t 135 :: t 136 :: t 137 :: t 138 :: t 139 :: t 140 :: t 141 :: t 142 :: t 143 :: t 144 :: t 145 :: t 146 :: t 147 :: t 148 :: t 149 :: t 150 :: t 151 :: t 152 :: t 153 :: t 154 :: t 155 :: t 156 :: t 157 :: t 158 :: t 159 :: t 160 :: t 161 :: t 162 :: t 163 :: t 164 :: t 165 :: t 166 :: t 167 :: t 168 :: t 169 :: t 170 :: t 171 :: t 172 :: t 173 :: t 174 :: t 175 :: t 176 :: t 177 :: t 178 :: t 179 :: t 180 :: t 181 :: t 182 :: t 183 :: t 184 :: t 185 :: t 186 :: t 187 :: t 188 :: t 189 :: t 190 :: t 191 :: t 192 :: t 193 :: t 194 :: t 195 :: t 196 :: t 197 :: t 198 :: t 199 :: t 200 :: t 201 :: t 202 :: [] := by kernel_rfl
  rw [h4] at h2
  rw [h2]
set_option maxRecDepth 100000 in
theorem frame21of203 {a : Act} {e0 e1 e2 e3 e4 e5 e6 e7 e8 e9 e10 e11 e12 e13 e14 e15 e16 e17 e18 e19 e20 : Value} (h : FraN a 203 [e0, e1, e2, e3, e4, e5, e6, e7, e8, e9, e10, e11, e12, e13, e14, e15, e16, e17, e18, e19, e20]) : ∃ t : Nat → Value, a = ⟨((e0 :: e1 :: e2 :: e3 :: e4 :: e5 :: e6 :: e7 :: e8 :: e9 :: e10 :: e11 :: e12 :: e13 :: e14 :: e15 :: e16 :: e17 :: e18 :: e19 :: e20 :: t 21 :: t 22 :: t 23 :: t 24 :: t 25 :: t 26 :: t 27 :: t 28 :: t 29 :: t 30 :: t 31 :: t 32 :: t 33 :: t 34 :: t 35 :: t 36 :: t 37 :: t 38 :: t 39 :: t 40 :: t 41 :: t 42 :: t 43 :: t 44 :: t 45 :: t 46 :: t 47 :: t 48 :: t 49 :: t 50 :: t 51 :: t 52 :: t 53 :: t 54 :: t 55 :: t 56 :: t 57 :: t 58 :: t 59 :: t 60 :: t 61 :: t 62 :: t 63 :: t 64 :: t 65 :: t 66 :: t 67 :: t 68 :: t 69 :: t 70 :: t 71 :: t 72 :: t 73 :: t 74 :: t 75 :: t 76 :: t 77 :: t 78 :: t 79 :: t 80 :: t 81 :: t 82 :: t 83 :: t 84 :: t 85 :: t 86 :: t 87 :: t 88 :: t 89 :: t 90 :: t 91 :: t 92 :: t 93 :: t 94 :: t 95 :: t 96 :: t 97 :: t 98 :: t 99 :: t 100 :: t 101 :: t 102 :: t 103 :: t 104 :: t 105 :: t 106 :: t 107 :: t 108 :: t 109 :: t 110 :: t 111 :: t 112 :: t 113 :: t 114 :: t 115 :: t 116 :: t 117 :: t 118 :: t 119 :: t 120 :: t 121 :: t 122 :: t 123 :: t 124 :: t 125 :: t 126 :: t 127 :: t 128 :: t 129 :: t 130 :: t 131 :: t 132 :: t 133 :: t 134 :: t 135 :: t 136 :: t 137 :: t 138 :: t 139 :: t 140 :: t 141 :: t 142 :: t 143 :: t 144 :: t 145 :: t 146 :: t 147 :: t 148 :: t 149 :: t 150 :: t 151 :: t 152 :: t 153 :: t 154 :: t 155 :: t 156 :: t 157 :: t 158 :: t 159 :: t 160 :: t 161 :: t 162 :: t 163 :: t 164 :: t 165 :: t 166 :: t 167 :: t 168 :: t 169 :: t 170 :: t 171 :: t 172 :: t 173 :: t 174 :: t 175 :: t 176 :: t 177 :: t 178 :: t 179 :: t 180 :: t 181 :: t 182 :: t 183 :: t 184 :: t 185 :: t 186 :: t 187 :: t 188 :: t 189 :: t 190 :: t 191 :: t 192 :: t 193 :: t 194 :: t 195 :: t 196 :: t 197 :: t 198 :: t 199 :: t 200 :: t 201 :: t 202 :: [] : List Value)).toArray, []⟩ := by
  obtain ⟨⟨l⟩, df⟩ := a
  obtain ⟨hs, hd, hp⟩ := h
  simp only at hd
  replace hp : l.take 21 = [e0, e1, e2, e3, e4, e5, e6, e7, e8, e9, e10, e11, e12, e13, e14, e15, e16, e17, e18, e19, e20] := hp
  subst hd
  have hl : l.length = 203 := hs
  obtain ⟨t, ht⟩ : ∃ t : Nat → Value, ∀ k, l.getD k undef = t k := ⟨_, fun _ => rfl⟩
  refine ⟨t, ?_⟩
  have h3 : l.drop 21 = (List.range' 21 182).map t := by
    apply List.ext_getElem
    · simp [hl]
    · intro i h1 h2
      rw [List.getElem_drop, List.getElem_map, List.getElem_range', ← ht, Nat.one_mul]
      simp only [List.length_drop] at h1
      rw [List.getD_eq_getElem?_getD, List.getElem?_eq_getElem (by omega)]; rfl
  have h2 : l = l.take 21 ++ l.drop 21 := (List.take_append_drop 21 l).symm
  rw [hp, h3] at h2
  have h4 : [e0, e1, e2, e3, e4, e5, e6, e7, e8, e9, e10, e11, e12, e13, e14, e15, e16, e17, e18, e19, e20] ++ (List.range' 21 182).map t = e0 :: e1 :: e2 :: e3 :: e4 :: e5 :: e6 :: e7 :: e8 :: e9 :: e10 :: e11 :: e12 :: e13 :: e14 :: e15 :: e16 :: e17 :: e18 :: e19 :: e20 :: t 21 :: t 22 :: t 23 :: t 24 :: t 25 :: t 26 :: t 27 :: t 28 :: t 29 :: t 30 :: t 31 :: t 32 :: t 33 :: t 34 :: t 35 :: t 36 :: t 37 :: t 38 :: t 39 :: t 40 :: t 41 :: t 42 :: t 43 :: t 44 :: t 45 :: t 46 :: t 47 :: t 48 :: t 49 :: t 50 :: t 51 :: t 52 :: t 53 :: t 54 :: t 55 :: t 56 :: t 57 :: t 58 :: t 59 :: t 60 :: t 61 :: t 62 :: t 63 :: t 64 :: t 65 :: t 66 :: t 67 :: t 68 :: t 69 :: t 70 :: t 71 :: t 72 :: t 73 :: t 74 :: t 75 :: t 76 :: t 77 :: t 78 :: t 79 :: t 80 :: t 81 :: t 82 :: t 83 :: t 84 :: t 85 :: t 86 :: t 87 :: t 88 :: t 89 :: t 90 :: t 91 :: t 92 :: t 93 :: t 94 :: t 95 :: t 96 :: t 97 :: t 98 :: t 99 :: t 100 :: t 101 :: t 102 :: t 103 :: t 104 :: t 105 :: t 106 :: t 107 :: t 108 :: t 109 :: t 110 :: t 111 :: t 112 :: t 113 :: t 114 :: t 115 :: t 116 :: t 117 :: t 118 :: t 119 :: t 120 :: t 121 :: t 122 :: t 123 :: t 124 :: t 125 :: t 126 :: t 127 :: t 128 :: t 129 :: t 130 :: t 131 :: t 132 :: t 133 :: t 134 :: t 135 :: t 136 :: t 137 :: t 138 :: t 139 :: t 140 :: t 141 :: t 142 :: t 143 :: t 144 :: t 145 :: t 146 :: t 147 :: t 148 :: t 149 :: t 150 :: t 151 :: t 152 :: t 153 :: t 154 :: t 155 :: t 156 :: t 157 :: t 158 :: t 159 :: t 160 :: t 161 :: t 162 :: t 163 :: t 164 :: t 165 :: t 166 :: t 167 :: t 168 :: t 169 :: t 170 :: t 171 :: t 172 :: t 173 :: t 174 :: t 175 :: t 176 :: t 177 :: t 178 :: t 179 :: t 180 :: t 181 :: t 182 :: t 183 :: t 184 :: t 185 :: t 186 :: t 187 :: t 188 :: t 189 :: t 190 :: t 191 :: t 192 :: t 193 :: t 194 :: t 195 :: t 196 :: t 197 :: t 198 :: t 199 :: t 200 :: t 201 :: t 202 :: [] := by kernel_rfl
  rw [h4] at h2
  rw [h2]
/-- what holds between rounds. -/
def Rel18 (w : World) (n sF sE sW sO : Nat) (P : Value → Value → Value → Value → Value → List Value) (a : Act) (wr : World) : Prop :=
  ∃ (v11 v13 v14 v15 v16 : Value) (i rn rk : Nat) (C : Option Addr) (F : Nat → MFr) (E W : Nat → Bool) (clk x0 x1 x2 told over : Int) (row : List Nat), FraN a 203 (P v11 v13 v14 v15 v16) ∧ Hid (v11 = .slice C rn rk ∧ v13 = .int .i64 clk ∧ v14 = .int .i64 told ∧ v15 = .int .i64 over ∧ v16 = .int .i64 (i : Int)) ∧ i ≤ n ∧ rn ≤ i ∧ Hid (W 5 = false) ∧ Hid (TO w wr sF sE sW sO F E W x0 x1 x2) ∧ Hid (wr.ownsRow w.heap.size 3 1 (.slice C rn rk) rn (nats row)) ∧ Hid (OInv x0 x1 x2 F E W row told over)
end Go.Proofs.Ytkecmiedeihdgaa
