/- Layer 16: five frames, what five tasks do, two rows of five, three rows of numbers, a lock of readers and writers, as variables of a walk; no condition but those in each theorem. -/
import Derived.Test.YtpkegfochfkkcaaRwN
import Derived.Test.YtpkegfochfkkcaaRwW
import Derived.Test.YtpkegfochfkkcaaSyA
namespace Go.Proofs.Ytpkegfochfkkcaa
set_option linter.unusedVariables false
set_option linter.unusedSimpArgs false
open Go.RowKit
def frL5 (F : Nat → MFr) : List Value := frC (F 0) ++ (frC (F 1) ++ (frC (F 2) ++ (frC (F 3) ++ frC (F 4))))
def boL5 (I : Nat → Bool) : List Value := [.bool (I 0), .bool (I 1), .bool (I 2), .bool (I 3), .bool (I 4)]
def inL5 (D : Nat → Int) : List Value := [.int .i64 (D 0), .int .i64 (D 1), .int .i64 (D 2), .int .i64 (D 3), .int .i64 (D 4)]
def rwC (a b c d e f : Int) : List Value := [.int .i64 2, .int .i64 a, .int .i64 b, .int .i64 c, .int .i64 d, .int .i64 e, .int .i64 f, .int .u32 0, .int .u32 0, .slice none 0 0, .slice none 0 0]
theorem five {t : Nat} (ht : t < 5) : t = 0 ∨ t = 1 ∨ t = 2 ∨ t = 3 ∨ t = 4 := by omega
theorem boL5_at (I : Nat → Bool) {t : Nat} (ht : t < 5) : (boL5 I)[t]? = some (.bool (I t)) := by
  rcases five ht with rfl | rfl | rfl | rfl | rfl <;> rfl
theorem inL5_at (D : Nat → Int) {t : Nat} (ht : t < 5) : (inL5 D)[t]? = some (.int .i64 (D t)) := by
  rcases five ht with rfl | rfl | rfl | rfl | rfl <;> rfl
theorem boL5_put (I : Nat → Bool) (b : Bool) {t : Nat} (ht : t < 5) : (boL5 I).set t (.bool b) = boL5 (updN I t b) := by
  rcases five ht with rfl | rfl | rfl | rfl | rfl <;> rfl
theorem inL5_put (D : Nat → Int) (x : Int) {t : Nat} (ht : t < 5) : (inL5 D).set t (.int .i64 x) = inL5 (updN D t x) := by
  rcases five ht with rfl | rfl | rfl | rfl | rfl <;> rfl
theorem frL5_at (F : Nat → MFr) {t : Nat} (ht : t < 5) : (frL5 F)[t * 10]? = some (.int .i64 (F t).op) ∧ (frL5 F)[t * 10 + 1]? = some (.int .i64 (F t).stage) ∧ (frL5 F)[t * 10 + 2]? = some (.int .i64 (F t).phase) ∧ (frL5 F)[t * 10 + 3]? = some (.int .i64 (F t).old) ∧ (frL5 F)[t * 10 + 4]? = some (.int .i64 (F t).since) ∧ (frL5 F)[t * 10 + 5]? = some (.int .i64 (F t).left) ∧ (frL5 F)[t * 10 + 6]? = some (.bool (F t).awoke) ∧ (frL5 F)[t * 10 + 7]? = some (.bool (F t).starve) ∧ (frL5 F)[t * 10 + 8]? = some (.int .i64 (F t).need) ∧ (frL5 F)[t * 10 + 9]? = some (.bool (F t).front) := by
  rcases five ht with rfl | rfl | rfl | rfl | rfl <;> exact ⟨rfl, rfl, rfl, rfl, rfl, rfl, rfl, rfl, rfl, rfl⟩
theorem frL5_put (F : Nat → MFr) (f : MFr) {t : Nat} (ht : t < 5) : (((((((((((frL5 F).set (t * 10) (.int .i64 f.op)).set (t * 10 + 1) (.int .i64 f.stage)).set (t * 10 + 2) (.int .i64 f.phase)).set (t * 10 + 3) (.int .i64 f.old)).set (t * 10 + 4) (.int .i64 f.since)).set (t * 10 + 5) (.int .i64 f.left)).set (t * 10 + 6) (.bool f.awoke)).set (t * 10 + 7) (.bool f.starve)).set (t * 10 + 8) (.int .i64 f.need)).set (t * 10 + 9) (.bool f.front)) = frL5 (updN F t f) := by
  rcases five ht with rfl | rfl | rfl | rfl | rfl <;> rfl
theorem frL5_need (F : Nat → MFr) {t : Nat} (ht : t < 5) : (frL5 F).set (t * 10 + 8) (.int .i64 0) = frL5 (updN F t { F t with need := 0 }) := by
  rcases five ht with rfl | rfl | rfl | rfl | rfl <;> rfl
structure TR (w0 w : World) (sF sD sI sW sR sO : Nat) (F : Nat → MFr) (D : Nat → Int) (I W : Nat → Bool) (v1 v2 v3 : Value) (a b c d e f : Int) : Prop where
  bF : w.heap[sF]? = some (.cells (frL5 F).toArray 53)
  bD : w.heap[sD]? = some (.cells (inL5 D).toArray 54)
  bI : w.heap[sI]? = some (.cells (boL5 I).toArray 55)
  bW : w.heap[sW]? = some (.cells (boL5 W).toArray 55)
  bR : w.heap[sR]? = some (.cells [v1, v2, v3].toArray 56)
  bO : w.heap[sO]? = some (.cells (rwC a b c d e f).toArray 29)
  gF : w0.heap.size ≤ sF
  gD : w0.heap.size ≤ sD
  gI : w0.heap.size ≤ sI
  gW : w0.heap.size ≤ sW
  gR : w0.heap.size ≤ sR
  gO : w0.heap.size ≤ sO
  nIW : sI ≠ sW
  bel : Below w0.heap.size w0 w
  siz : w0.heap.size ≤ w.heap.size
section
variable {w0 w w' : World} {sF sD sI sW sR sO : Nat} {F : Nat → MFr} {D : Nat → Int} {I W : Nat → Bool} {v1 v2 v3 : Value} {a b c d e f : Int} {t : Nat}
theorem TR.step (h : TR w0 w sF sD sI sW sR sO F D I W v1 v2 v3 a b c d e f) (hb : Below w.heap.size w w') : TR w0 w' sF sD sI sW sR sO F D I W v1 v2 v3 a b c d e f :=
  ⟨blk_below h.bF hb (blk_lt h.bF), blk_below h.bD hb (blk_lt h.bD), blk_below h.bI hb (blk_lt h.bI), blk_below h.bW hb (blk_lt h.bW), blk_below h.bR hb (blk_lt h.bR), blk_below h.bO hb (blk_lt h.bO), h.gF, h.gD, h.gI, h.gW, h.gR, h.gO, h.nIW, h.bel.trans (hb.mono h.siz), Nat.le_trans h.siz hb.size⟩
theorem keepS5 {b k : Nat} {o : Obj} (h : w.heap[k]? = some o) (hne : k ≠ b) (j : Nat) (vs : List Value) : (w.setCells b j vs).heap[k]? = some o := (heap_setCells_ne hne vs j w).trans h
theorem keep15 {b k : Nat} {o : Obj} (h : w.heap[k]? = some o) (hne : k ≠ b) (j : Nat) (v : Value) : (w.setCell ⟨b, j, none⟩ v).heap[k]? = some o := (Below.heap_setCell _ ⟨b, j, none⟩ v k hne).trans h
theorem TR.putF (h : TR w0 w sF sD sI sW sR sO F D I W v1 v2 v3 a b c d e f) (ht : t < 5) (f0 : MFr) : TR w0 (w.setCells sF (t * 10) (frC f0)) sF sD sI sW sR sO (updN F t f0) D I W v1 v2 v3 a b c d e f := by
  refine ⟨?_, keepS5 h.bD (blk_ne h.bD h.bF (by decide)) _ _, keepS5 h.bI (blk_ne h.bI h.bF (by decide)) _ _, keepS5 h.bW (blk_ne h.bW h.bF (by decide)) _ _, keepS5 h.bR (blk_ne h.bR h.bF (by decide)) _ _, keepS5 h.bO (blk_ne h.bO h.bF (by decide)) _ _, h.gF, h.gD, h.gI, h.gW, h.gR, h.gO, h.nIW, below_setCells h.gF _ _ _ h.bel, by rw [size_setCells]; exact h.siz⟩
  rw [← frL5_put F f0 ht]
  exact blk_set (blk_set (blk_set (blk_set (blk_set (blk_set (blk_set (blk_set (blk_set (blk_set h.bF _) _) _) _) _) _) _) _) _) _
theorem TR.putN (h : TR w0 w sF sD sI sW sR sO F D I W v1 v2 v3 a b c d e f) (ht : t < 5) : TR w0 (w.setCell ⟨sF, t * 10 + 8, none⟩ (.int .i64 0)) sF sD sI sW sR sO (updN F t { F t with need := 0 }) D I W v1 v2 v3 a b c d e f := by
  refine ⟨?_, keep15 h.bD (blk_ne h.bD h.bF (by decide)) _ _, keep15 h.bI (blk_ne h.bI h.bF (by decide)) _ _, keep15 h.bW (blk_ne h.bW h.bF (by decide)) _ _, keep15 h.bR (blk_ne h.bR h.bF (by decide)) _ _, keep15 h.bO (blk_ne h.bO h.bF (by decide)) _ _, h.gF, h.gD, h.gI, h.gW, h.gR, h.gO, h.nIW, h.bel.setCell h.gF _, by simpa [World.setCell] using h.siz⟩
  rw [← frL5_need F ht]
  exact blk_set h.bF _
theorem TR.putD (h : TR w0 w sF sD sI sW sR sO F D I W v1 v2 v3 a b c d e f) (ht : t < 5) (x : Int) : TR w0 (w.setCell ⟨sD, t, none⟩ (.int .i64 x)) sF sD sI sW sR sO F (updN D t x) I W v1 v2 v3 a b c d e f := by
  refine ⟨keep15 h.bF (blk_ne h.bF h.bD (by decide)) _ _, ?_, keep15 h.bI (blk_ne h.bI h.bD (by decide)) _ _, keep15 h.bW (blk_ne h.bW h.bD (by decide)) _ _, keep15 h.bR (blk_ne h.bR h.bD (by decide)) _ _, keep15 h.bO (blk_ne h.bO h.bD (by decide)) _ _, h.gF, h.gD, h.gI, h.gW, h.gR, h.gO, h.nIW, h.bel.setCell h.gD _, by simpa [World.setCell] using h.siz⟩
  rw [← inL5_put D x ht]
  exact blk_set h.bD _
theorem TR.putI (h : TR w0 w sF sD sI sW sR sO F D I W v1 v2 v3 a b c d e f) (ht : t < 5) (x : Bool) : TR w0 (w.setCell ⟨sI, t, none⟩ (.bool x)) sF sD sI sW sR sO F D (updN I t x) W v1 v2 v3 a b c d e f := by
  refine ⟨keep15 h.bF (blk_ne h.bF h.bI (by decide)) _ _, keep15 h.bD (blk_ne h.bD h.bI (by decide)) _ _, ?_, keep15 h.bW h.nIW.symm _ _, keep15 h.bR (blk_ne h.bR h.bI (by decide)) _ _, keep15 h.bO (blk_ne h.bO h.bI (by decide)) _ _, h.gF, h.gD, h.gI, h.gW, h.gR, h.gO, h.nIW, h.bel.setCell h.gI _, by simpa [World.setCell] using h.siz⟩
  rw [← boL5_put I x ht]
  exact blk_set h.bI _
theorem TR.putW (h : TR w0 w sF sD sI sW sR sO F D I W v1 v2 v3 a b c d e f) (ht : t < 5) (x : Bool) : TR w0 (w.setCell ⟨sW, t, none⟩ (.bool x)) sF sD sI sW sR sO F D I (updN W t x) v1 v2 v3 a b c d e f := by
  refine ⟨keep15 h.bF (blk_ne h.bF h.bW (by decide)) _ _, keep15 h.bD (blk_ne h.bD h.bW (by decide)) _ _, keep15 h.bI h.nIW _ _, ?_, keep15 h.bR (blk_ne h.bR h.bW (by decide)) _ _, keep15 h.bO (blk_ne h.bO h.bW (by decide)) _ _, h.gF, h.gD, h.gI, h.gW, h.gR, h.gO, h.nIW, h.bel.setCell h.gW _, by simpa [World.setCell] using h.siz⟩
  rw [← boL5_put W x ht]
  exact blk_set h.bW _
theorem TR.putR1 (h : TR w0 w sF sD sI sW sR sO F D I W v1 v2 v3 a b c d e f) (x : Value) : TR w0 (w.setCell ⟨sR, 0, none⟩ x) sF sD sI sW sR sO F D I W x v2 v3 a b c d e f := by
  refine ⟨keep15 h.bF (blk_ne h.bF h.bR (by decide)) _ _, keep15 h.bD (blk_ne h.bD h.bR (by decide)) _ _, keep15 h.bI (blk_ne h.bI h.bR (by decide)) _ _, keep15 h.bW (blk_ne h.bW h.bR (by decide)) _ _, ?_, keep15 h.bO (blk_ne h.bO h.bR (by decide)) _ _, h.gF, h.gD, h.gI, h.gW, h.gR, h.gO, h.nIW, h.bel.setCell h.gR _, by simpa [World.setCell] using h.siz⟩
  exact blk_set (j := 0) h.bR _
theorem TR.putR2 (h : TR w0 w sF sD sI sW sR sO F D I W v1 v2 v3 a b c d e f) (x : Value) : TR w0 (w.setCell ⟨sR, 1, none⟩ x) sF sD sI sW sR sO F D I W v1 x v3 a b c d e f := by
  refine ⟨keep15 h.bF (blk_ne h.bF h.bR (by decide)) _ _, keep15 h.bD (blk_ne h.bD h.bR (by decide)) _ _, keep15 h.bI (blk_ne h.bI h.bR (by decide)) _ _, keep15 h.bW (blk_ne h.bW h.bR (by decide)) _ _, ?_, keep15 h.bO (blk_ne h.bO h.bR (by decide)) _ _, h.gF, h.gD, h.gI, h.gW, h.gR, h.gO, h.nIW, h.bel.setCell h.gR _, by simpa [World.setCell] using h.siz⟩
  exact blk_set (j := 1) h.bR _
theorem TR.putR3 (h : TR w0 w sF sD sI sW sR sO F D I W v1 v2 v3 a b c d e f) (x : Value) : TR w0 (w.setCell ⟨sR, 2, none⟩ x) sF sD sI sW sR sO F D I W v1 v2 x a b c d e f := by
  refine ⟨keep15 h.bF (blk_ne h.bF h.bR (by decide)) _ _, keep15 h.bD (blk_ne h.bD h.bR (by decide)) _ _, keep15 h.bI (blk_ne h.bI h.bR (by decide)) _ _, keep15 h.bW (blk_ne h.bW h.bR (by decide)) _ _, ?_, keep15 h.bO (blk_ne h.bO h.bR (by decide)) _ _, h.gF, h.gD, h.gI, h.gW, h.gR, h.gO, h.nIW, h.bel.setCell h.gR _, by simpa [World.setCell] using h.siz⟩
  exact blk_set (j := 2) h.bR _
theorem TR.putO (h : TR w0 w sF sD sI sW sR sO F D I W v1 v2 v3 a b c d e f) (a' b' c' d' e' f' : Int) : TR w0 (w.setCells sO 0 (rwC a' b' c' d' e' f')) sF sD sI sW sR sO F D I W v1 v2 v3 a' b' c' d' e' f' := by
  refine ⟨keepS5 h.bF (blk_ne h.bF h.bO (by decide)) _ _, keepS5 h.bD (blk_ne h.bD h.bO (by decide)) _ _, keepS5 h.bI (blk_ne h.bI h.bO (by decide)) _ _, keepS5 h.bW (blk_ne h.bW h.bO (by decide)) _ _, keepS5 h.bR (blk_ne h.bR h.bO (by decide)) _ _, ?_, h.gF, h.gD, h.gI, h.gW, h.gR, h.gO, h.nIW, below_setCells h.gO _ _ _ h.bel, by rw [size_setCells]; exact h.siz⟩
  exact heap_setCells (rwC a' b' c' d' e' f') w [] (rwC a b c d e f) rfl h.bO
theorem TR.putS2 (h : TR w0 w sF sD sI sW sR sO F D I W v1 v2 v3 a b c d e f) (x : Int) : TR w0 (w.setCell ⟨sO, 2, none⟩ (.int .i64 x)) sF sD sI sW sR sO F D I W v1 v2 v3 a x c d e f := by
  refine ⟨keep15 h.bF (blk_ne h.bF h.bO (by decide)) _ _, keep15 h.bD (blk_ne h.bD h.bO (by decide)) _ _, keep15 h.bI (blk_ne h.bI h.bO (by decide)) _ _, keep15 h.bW (blk_ne h.bW h.bO (by decide)) _ _, keep15 h.bR (blk_ne h.bR h.bO (by decide)) _ _, ?_, h.gF, h.gD, h.gI, h.gW, h.gR, h.gO, h.nIW, h.bel.setCell h.gO _, by simpa [World.setCell] using h.siz⟩
  exact blk_set (j := 2) h.bO _
theorem TR.putS3 (h : TR w0 w sF sD sI sW sR sO F D I W v1 v2 v3 a b c d e f) (x : Int) : TR w0 (w.setCell ⟨sO, 3, none⟩ (.int .i64 x)) sF sD sI sW sR sO F D I W v1 v2 v3 a b x d e f := by
  refine ⟨keep15 h.bF (blk_ne h.bF h.bO (by decide)) _ _, keep15 h.bD (blk_ne h.bD h.bO (by decide)) _ _, keep15 h.bI (blk_ne h.bI h.bO (by decide)) _ _, keep15 h.bW (blk_ne h.bW h.bO (by decide)) _ _, keep15 h.bR (blk_ne h.bR h.bO (by decide)) _ _, ?_, h.gF, h.gD, h.gI, h.gW, h.gR, h.gO, h.nIW, h.bel.setCell h.gO _, by simpa [World.setCell] using h.siz⟩
  exact blk_set (j := 3) h.bO _
theorem TR.putS4 (h : TR w0 w sF sD sI sW sR sO F D I W v1 v2 v3 a b c d e f) (x : Int) : TR w0 (w.setCell ⟨sO, 4, none⟩ (.int .i64 x)) sF sD sI sW sR sO F D I W v1 v2 v3 a b c x e f := by
  refine ⟨keep15 h.bF (blk_ne h.bF h.bO (by decide)) _ _, keep15 h.bD (blk_ne h.bD h.bO (by decide)) _ _, keep15 h.bI (blk_ne h.bI h.bO (by decide)) _ _, keep15 h.bW (blk_ne h.bW h.bO (by decide)) _ _, keep15 h.bR (blk_ne h.bR h.bO (by decide)) _ _, ?_, h.gF, h.gD, h.gI, h.gW, h.gR, h.gO, h.nIW, h.bel.setCell h.gO _, by simpa [World.setCell] using h.siz⟩
  exact blk_set (j := 4) h.bO _
theorem TR.frame (h : TR w0 w sF sD sI sW sR sO F D I W v1 v2 v3 a b c d e f) (ht : t < 5) : w.cell? ⟨sF, t * 10, none⟩ = some (.int .i64 (F t).op) ∧ w.cell? ⟨sF, t * 10 + 1, none⟩ = some (.int .i64 (F t).stage) ∧ w.cell? ⟨sF, t * 10 + 2, none⟩ = some (.int .i64 (F t).phase) ∧ w.cell? ⟨sF, t * 10 + 3, none⟩ = some (.int .i64 (F t).old) ∧ w.cell? ⟨sF, t * 10 + 4, none⟩ = some (.int .i64 (F t).since) ∧ w.cell? ⟨sF, t * 10 + 5, none⟩ = some (.int .i64 (F t).left) ∧ w.cell? ⟨sF, t * 10 + 6, none⟩ = some (.bool (F t).awoke) ∧ w.cell? ⟨sF, t * 10 + 7, none⟩ = some (.bool (F t).starve) ∧ w.cell? ⟨sF, t * 10 + 8, none⟩ = some (.int .i64 (F t).need) ∧ w.cell? ⟨sF, t * 10 + 9, none⟩ = some (.bool (F t).front) := by
  obtain ⟨e0, e1, e2, e3, e4, e5, e6, e7, e8, e9⟩ := frL5_at F ht
  have hc := fun j => blk_cell h.bF j
  simp only [List.getElem?_toArray] at hc
  exact ⟨(hc _).trans e0, (hc _).trans e1, (hc _).trans e2, (hc _).trans e3, (hc _).trans e4, (hc _).trans e5, (hc _).trans e6, (hc _).trans e7, (hc _).trans e8, (hc _).trans e9⟩
theorem TR.frz (h : TR w0 w sF sD sI sW sR sO F D I W v1 v2 v3 a b c d e f) (t : Nat) : w.frozen? ⟨sF, t * 10, none⟩ = false ∧ w.frozen? ⟨sF, t * 10 + 1, none⟩ = false ∧ w.frozen? ⟨sF, t * 10 + 2, none⟩ = false ∧ w.frozen? ⟨sF, t * 10 + 3, none⟩ = false ∧ w.frozen? ⟨sF, t * 10 + 4, none⟩ = false ∧ w.frozen? ⟨sF, t * 10 + 5, none⟩ = false ∧ w.frozen? ⟨sF, t * 10 + 6, none⟩ = false ∧ w.frozen? ⟨sF, t * 10 + 7, none⟩ = false ∧ w.frozen? ⟨sF, t * 10 + 8, none⟩ = false ∧ w.frozen? ⟨sF, t * 10 + 9, none⟩ = false :=
  ⟨blk_frozen h.bF _, blk_frozen h.bF _, blk_frozen h.bF _, blk_frozen h.bF _, blk_frozen h.bF _, blk_frozen h.bF _, blk_frozen h.bF _, blk_frozen h.bF _, blk_frozen h.bF _, blk_frozen h.bF _⟩
theorem TR.doe (h : TR w0 w sF sD sI sW sR sO F D I W v1 v2 v3 a b c d e f) (ht : t < 5) : w.cell? ⟨sD, t, none⟩ = some (.int .i64 (D t)) := by
  have hc := blk_cell h.bD t
  rw [List.getElem?_toArray, inL5_at D ht] at hc; exact hc
theorem TR.ins (h : TR w0 w sF sD sI sW sR sO F D I W v1 v2 v3 a b c d e f) (ht : t < 5) : w.cell? ⟨sI, t, none⟩ = some (.bool (I t)) := by
  have hc := blk_cell h.bI t
  rw [List.getElem?_toArray, boL5_at I ht] at hc; exact hc
theorem TR.wai (h : TR w0 w sF sD sI sW sR sO F D I W v1 v2 v3 a b c d e f) (ht : t < 5) : w.cell? ⟨sW, t, none⟩ = some (.bool (W t)) := by
  have hc := blk_cell h.bW t
  rw [List.getElem?_toArray, boL5_at W ht] at hc; exact hc
theorem TR.othS (h : TR w0 w sF sD sI sW sR sO F D I W v1 v2 v3 a b c d e f) {q : Nat} {cs : Array Value} {T : TypeId} (hv : w.heap[q]? = some (.cells cs T)) (h0 : T ≠ 53) (h1 : T ≠ 54) (h2 : T ≠ 55) (h3 : T ≠ 56) (h4 : T ≠ 29) (ge : w0.heap.size ≤ q) (j : Nat) (vs : List Value) : TR w0 (w.setCells q j vs) sF sD sI sW sR sO F D I W v1 v2 v3 a b c d e f :=
  ⟨keepS5 h.bF (blk_ne h.bF hv (Ne.symm h0)) _ _, keepS5 h.bD (blk_ne h.bD hv (Ne.symm h1)) _ _, keepS5 h.bI (blk_ne h.bI hv (Ne.symm h2)) _ _, keepS5 h.bW (blk_ne h.bW hv (Ne.symm h2)) _ _, keepS5 h.bR (blk_ne h.bR hv (Ne.symm h3)) _ _, keepS5 h.bO (blk_ne h.bO hv (Ne.symm h4)) _ _, h.gF, h.gD, h.gI, h.gW, h.gR, h.gO, h.nIW, below_setCells ge _ _ _ h.bel, by rw [size_setCells]; exact h.siz⟩
/-- a row of another type grows. -/
theorem TR.grown (h : TR w0 w sF sD sI sW sR sO F D I W v1 v2 v3 a b c d e f) {w1 : World} {v : Value} (hb : Below w.heap.size w w1) (hg : w1.grownBy w' v.ownBlock) (hne : ∀ (q : Nat) (cs : Array Value) (T : TypeId), 3 ≠ T → w1.heap[q]? = some (.cells cs T) → v.ownBlock ≠ some q) (hge : ∀ k, v.ownBlock = some k → w0.heap.size ≤ k) : TR w0 w' sF sD sI sW sR sO F D I W v1 v2 v3 a b c d e f := by
  have h1 := h.step hb
  refine ⟨blk_grown h1.bF hg (fun k hk e => hne _ _ _ (by decide) h1.bF (by rw [hk, e])), blk_grown h1.bD hg (fun k hk e => hne _ _ _ (by decide) h1.bD (by rw [hk, e])), blk_grown h1.bI hg (fun k hk e => hne _ _ _ (by decide) h1.bI (by rw [hk, e])), blk_grown h1.bW hg (fun k hk e => hne _ _ _ (by decide) h1.bW (by rw [hk, e])), blk_grown h1.bR hg (fun k hk e => hne _ _ _ (by decide) h1.bR (by rw [hk, e])), blk_grown h1.bO hg (fun k hk e => hne _ _ _ (by decide) h1.bO (by rw [hk, e])), h.gF, h.gD, h.gI, h.gW, h.gR, h.gO, h.nIW, h1.bel.grown hg h1.siz hge, Nat.le_trans h1.siz hg.size⟩
end
end Go.Proofs.Ytpkegfochfkkcaa
