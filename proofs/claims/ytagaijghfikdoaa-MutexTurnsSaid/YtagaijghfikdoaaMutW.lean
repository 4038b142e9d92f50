/- Layer 15: six frames, two rows of six, a mutex and its semaphore, as variables of a walk; no condition but those in each theorem. -/
import Derived.Test.YtagaijghfikdoaaMutM
import Derived.Test.YtagaijghfikdoaaSyA
import Derived.Test.YtagaijghfikdoaaMutG
namespace Go.Proofs.Ytagaijghfikdoaa
set_option linter.unusedVariables false
set_option linter.unusedSimpArgs false
open Go.RowKit
def frL (F : Nat → MFr) : List Value := frC (F 0) ++ (frC (F 1) ++ (frC (F 2) ++ (frC (F 3) ++ (frC (F 4) ++ frC (F 5)))))
def boL (I : Nat → Bool) : List Value := [.bool (I 0), .bool (I 1), .bool (I 2), .bool (I 3), .bool (I 4), .bool (I 5)]
def muC (a s : Int) : List Value := [.int .i64 1, .int .i64 a, .int .i64 s, .int .i64 0, .int .i64 0, .int .i64 0, .int .i64 0, .int .u32 0, .int .u32 0, .slice none 0 0, .slice none 0 0]
theorem six {t : Nat} (ht : t < 6) : t = 0 ∨ t = 1 ∨ t = 2 ∨ t = 3 ∨ t = 4 ∨ t = 5 := by omega
theorem frL_at (F : Nat → MFr) {t : Nat} (ht : t < 6) : (frL F)[t * 10]? = some (.int .i64 (F t).op) ∧ (frL F)[t * 10 + 1]? = some (.int .i64 (F t).stage) ∧ (frL F)[t * 10 + 2]? = some (.int .i64 (F t).phase) ∧ (frL F)[t * 10 + 3]? = some (.int .i64 (F t).old) ∧ (frL F)[t * 10 + 4]? = some (.int .i64 (F t).since) ∧ (frL F)[t * 10 + 5]? = some (.int .i64 (F t).left) ∧ (frL F)[t * 10 + 6]? = some (.bool (F t).awoke) ∧ (frL F)[t * 10 + 7]? = some (.bool (F t).starve) ∧ (frL F)[t * 10 + 8]? = some (.int .i64 (F t).need) ∧ (frL F)[t * 10 + 9]? = some (.bool (F t).front) := by
  rcases six ht with rfl | rfl | rfl | rfl | rfl | rfl <;> exact ⟨rfl, rfl, rfl, rfl, rfl, rfl, rfl, rfl, rfl, rfl⟩
theorem boL_at (I : Nat → Bool) {t : Nat} (ht : t < 6) : (boL I)[t]? = some (.bool (I t)) := by
  rcases six ht with rfl | rfl | rfl | rfl | rfl | rfl <;> rfl
theorem frL_put (F : Nat → MFr) (f : MFr) {t : Nat} (ht : t < 6) : ((((((((((frL F).set (t * 10) (.int .i64 f.op)).set (t * 10 + 1) (.int .i64 f.stage)).set (t * 10 + 2) (.int .i64 f.phase)).set (t * 10 + 3) (.int .i64 f.old)).set (t * 10 + 4) (.int .i64 f.since)).set (t * 10 + 5) (.int .i64 f.left)).set (t * 10 + 6) (.bool f.awoke)).set (t * 10 + 7) (.bool f.starve)).set (t * 10 + 8) (.int .i64 f.need)).set (t * 10 + 9) (.bool f.front) = frL (updN F t f) := by
  rcases six ht with rfl | rfl | rfl | rfl | rfl | rfl <;> rfl
theorem frL_need (F : Nat → MFr) {t : Nat} (ht : t < 6) : (frL F).set (t * 10 + 8) (.int .i64 0) = frL (updN F t { F t with need := 0 }) := by
  rcases six ht with rfl | rfl | rfl | rfl | rfl | rfl <;> rfl
theorem boL_put (I : Nat → Bool) (b : Bool) {t : Nat} (ht : t < 6) : (boL I).set t (.bool b) = boL (updN I t b) := by
  rcases six ht with rfl | rfl | rfl | rfl | rfl | rfl <;> rfl
structure TS (w0 w : World) (sF sI sW sO : Nat) (F : Nat → MFr) (I W : Nat → Bool) (a s : Int) : Prop where
  bF : w.heap[sF]? = some (.cells (frL F).toArray 51)
  bI : w.heap[sI]? = some (.cells (boL I).toArray 52)
  bW : w.heap[sW]? = some (.cells (boL W).toArray 52)
  bO : w.heap[sO]? = some (.cells (muC a s).toArray 29)
  gF : w0.heap.size ≤ sF
  gI : w0.heap.size ≤ sI
  gW : w0.heap.size ≤ sW
  gO : w0.heap.size ≤ sO
  nIW : sI ≠ sW
  bel : Below w0.heap.size w0 w
  siz : w0.heap.size ≤ w.heap.size
section
variable {w0 w w' : World} {sF sI sW sO : Nat} {F : Nat → MFr} {I W : Nat → Bool} {a s : Int} {t : Nat}
theorem TS.step (h : TS w0 w sF sI sW sO F I W a s) (hb : Below w.heap.size w w') : TS w0 w' sF sI sW sO F I W a s :=
  ⟨blk_below h.bF hb (blk_lt h.bF), blk_below h.bI hb (blk_lt h.bI), blk_below h.bW hb (blk_lt h.bW), blk_below h.bO hb (blk_lt h.bO), h.gF, h.gI, h.gW, h.gO, h.nIW, h.bel.trans (hb.mono h.siz), Nat.le_trans h.siz hb.size⟩
theorem TS.frame (h : TS w0 w sF sI sW sO F I W a s) (ht : t < 6) : w.cell? ⟨sF, t * 10, none⟩ = some (.int .i64 (F t).op) ∧ w.cell? ⟨sF, t * 10 + 1, none⟩ = some (.int .i64 (F t).stage) ∧ w.cell? ⟨sF, t * 10 + 2, none⟩ = some (.int .i64 (F t).phase) ∧ w.cell? ⟨sF, t * 10 + 3, none⟩ = some (.int .i64 (F t).old) ∧ w.cell? ⟨sF, t * 10 + 4, none⟩ = some (.int .i64 (F t).since) ∧ w.cell? ⟨sF, t * 10 + 5, none⟩ = some (.int .i64 (F t).left) ∧ w.cell? ⟨sF, t * 10 + 6, none⟩ = some (.bool (F t).awoke) ∧ w.cell? ⟨sF, t * 10 + 7, none⟩ = some (.bool (F t).starve) ∧ w.cell? ⟨sF, t * 10 + 8, none⟩ = some (.int .i64 (F t).need) ∧ w.cell? ⟨sF, t * 10 + 9, none⟩ = some (.bool (F t).front) := by
  obtain ⟨e0, e1, e2, e3, e4, e5, e6, e7, e8, e9⟩ := frL_at F ht
  have hc := fun j => blk_cell h.bF j
  simp only [List.getElem?_toArray] at hc
  exact ⟨(hc _).trans e0, (hc _).trans e1, (hc _).trans e2, (hc _).trans e3, (hc _).trans e4, (hc _).trans e5, (hc _).trans e6, (hc _).trans e7, (hc _).trans e8, (hc _).trans e9⟩
theorem TS.frz (h : TS w0 w sF sI sW sO F I W a s) (t : Nat) : w.frozen? ⟨sF, t * 10, none⟩ = false ∧ w.frozen? ⟨sF, t * 10 + 1, none⟩ = false ∧ w.frozen? ⟨sF, t * 10 + 2, none⟩ = false ∧ w.frozen? ⟨sF, t * 10 + 3, none⟩ = false ∧ w.frozen? ⟨sF, t * 10 + 4, none⟩ = false ∧ w.frozen? ⟨sF, t * 10 + 5, none⟩ = false ∧ w.frozen? ⟨sF, t * 10 + 6, none⟩ = false ∧ w.frozen? ⟨sF, t * 10 + 7, none⟩ = false ∧ w.frozen? ⟨sF, t * 10 + 8, none⟩ = false ∧ w.frozen? ⟨sF, t * 10 + 9, none⟩ = false :=
  ⟨blk_frozen h.bF _, blk_frozen h.bF _, blk_frozen h.bF _, blk_frozen h.bF _, blk_frozen h.bF _, blk_frozen h.bF _, blk_frozen h.bF _, blk_frozen h.bF _, blk_frozen h.bF _, blk_frozen h.bF _⟩
theorem TS.ins (h : TS w0 w sF sI sW sO F I W a s) (ht : t < 6) : w.cell? ⟨sI, t, none⟩ = some (.bool (I t)) := by
  have hc := blk_cell h.bI t
  rw [List.getElem?_toArray, boL_at I ht] at hc; exact hc
theorem TS.wai (h : TS w0 w sF sI sW sO F I W a s) (ht : t < 6) : w.cell? ⟨sW, t, none⟩ = some (.bool (W t)) := by
  have hc := blk_cell h.bW t
  rw [List.getElem?_toArray, boL_at W ht] at hc; exact hc
theorem TS.nFO (h : TS w0 w sF sI sW sO F I W a s) : sF ≠ sO := blk_ne h.bF h.bO (by decide)
theorem TS.nFI (h : TS w0 w sF sI sW sO F I W a s) : sF ≠ sI := blk_ne h.bF h.bI (by decide)
theorem TS.nFW (h : TS w0 w sF sI sW sO F I W a s) : sF ≠ sW := blk_ne h.bF h.bW (by decide)
theorem TS.nOI (h : TS w0 w sF sI sW sO F I W a s) : sO ≠ sI := blk_ne h.bO h.bI (by decide)
theorem TS.nOW (h : TS w0 w sF sI sW sO F I W a s) : sO ≠ sW := blk_ne h.bO h.bW (by decide)
theorem keepS {b k : Nat} {o : Obj} (h : w.heap[k]? = some o) (hne : k ≠ b) (j : Nat) (vs : List Value) : (w.setCells b j vs).heap[k]? = some o := (heap_setCells_ne hne vs j w).trans h
theorem keep1 {b k : Nat} {o : Obj} (h : w.heap[k]? = some o) (hne : k ≠ b) (j : Nat) (v : Value) : (w.setCell ⟨b, j, none⟩ v).heap[k]? = some o := (Below.heap_setCell _ ⟨b, j, none⟩ v k hne).trans h
theorem TS.putF (h : TS w0 w sF sI sW sO F I W a s) (ht : t < 6) (f : MFr) : TS w0 (w.setCells sF (t * 10) (frC f)) sF sI sW sO (updN F t f) I W a s := by
  refine ⟨?_, keepS h.bI h.nFI.symm _ _, keepS h.bW h.nFW.symm _ _, keepS h.bO h.nFO.symm _ _, h.gF, h.gI, h.gW, h.gO, h.nIW, below_setCells h.gF _ _ _ h.bel, by rw [size_setCells]; exact h.siz⟩
  rw [← frL_put F f ht]
  exact blk_set (blk_set (blk_set (blk_set (blk_set (blk_set (blk_set (blk_set (blk_set (blk_set h.bF _) _) _) _) _) _) _) _) _) _
theorem TS.putN (h : TS w0 w sF sI sW sO F I W a s) (ht : t < 6) : TS w0 (w.setCell ⟨sF, t * 10 + 8, none⟩ (.int .i64 0)) sF sI sW sO (updN F t { F t with need := 0 }) I W a s := by
  refine ⟨?_, keep1 h.bI h.nFI.symm _ _, keep1 h.bW h.nFW.symm _ _, keep1 h.bO h.nFO.symm _ _, h.gF, h.gI, h.gW, h.gO, h.nIW, h.bel.setCell h.gF _, by simpa [World.setCell] using h.siz⟩
  rw [← frL_need F ht]
  exact blk_set h.bF _
theorem TS.putI (h : TS w0 w sF sI sW sO F I W a s) (ht : t < 6) (b : Bool) : TS w0 (w.setCell ⟨sI, t, none⟩ (.bool b)) sF sI sW sO F (updN I t b) W a s := by
  refine ⟨keep1 h.bF h.nFI _ _, ?_, keep1 h.bW h.nIW.symm _ _, keep1 h.bO h.nOI _ _, h.gF, h.gI, h.gW, h.gO, h.nIW, h.bel.setCell h.gI _, by simpa [World.setCell] using h.siz⟩
  rw [← boL_put I b ht]
  exact blk_set h.bI _
theorem TS.putW (h : TS w0 w sF sI sW sO F I W a s) (ht : t < 6) (b : Bool) : TS w0 (w.setCell ⟨sW, t, none⟩ (.bool b)) sF sI sW sO F I (updN W t b) a s := by
  refine ⟨keep1 h.bF h.nFW _ _, keep1 h.bI h.nIW _ _, ?_, keep1 h.bO h.nOW _ _, h.gF, h.gI, h.gW, h.gO, h.nIW, h.bel.setCell h.gW _, by simpa [World.setCell] using h.siz⟩
  rw [← boL_put W b ht]
  exact blk_set h.bW _
theorem TS.putO (h : TS w0 w sF sI sW sO F I W a s) (a' s' : Int) : TS w0 (w.setCells sO 0 (muC a' s')) sF sI sW sO F I W a' s' := by
  refine ⟨keepS h.bF h.nFO _ _, keepS h.bI h.nOI.symm _ _, keepS h.bW h.nOW.symm _ _, ?_, h.gF, h.gI, h.gW, h.gO, h.nIW, below_setCells h.gO _ _ _ h.bel, by rw [size_setCells]; exact h.siz⟩
  exact heap_setCells (muC a' s') w [] (muC a s) rfl h.bO
theorem TS.putS (h : TS w0 w sF sI sW sO F I W a s) (s' : Int) : TS w0 (w.setCell ⟨sO, 2, none⟩ (.int .i64 s')) sF sI sW sO F I W a s' := by
  refine ⟨keep1 h.bF h.nFO _ _, keep1 h.bI h.nOI.symm _ _, keep1 h.bW h.nOW.symm _ _, ?_, h.gF, h.gI, h.gW, h.gO, h.nIW, h.bel.setCell h.gO _, by simpa [World.setCell] using h.siz⟩
  exact blk_set (j := 2) h.bO _
theorem TS.first {w1 : World} (hb : Below w0.heap.size w0 w1) (hs : w0.heap.size ≤ w1.heap.size) : TS w0 ((((w1.alloc (.cells (List.toArray (.int .i64 0 :: .int .i64 0 :: .int .i64 0 :: .int .i64 0 :: .int .i64 0 :: .int .i64 0 :: .bool false :: .bool false :: .int .i64 0 :: .bool false :: .int .i64 0 :: .int .i64 0 :: .int .i64 0 :: .int .i64 0 :: .int .i64 0 :: .int .i64 0 :: .bool false :: .bool false :: .int .i64 0 :: .bool false :: .int .i64 0 :: .int .i64 0 :: .int .i64 0 :: .int .i64 0 :: .int .i64 0 :: .int .i64 0 :: .bool false :: .bool false :: .int .i64 0 :: .bool false :: .int .i64 0 :: .int .i64 0 :: .int .i64 0 :: .int .i64 0 :: .int .i64 0 :: .int .i64 0 :: .bool false :: .bool false :: .int .i64 0 :: .bool false :: .int .i64 0 :: .int .i64 0 :: .int .i64 0 :: .int .i64 0 :: .int .i64 0 :: .int .i64 0 :: .bool false :: .bool false :: .int .i64 0 :: .bool false :: .int .i64 0 :: .int .i64 0 :: .int .i64 0 :: .int .i64 0 :: .int .i64 0 :: .int .i64 0 :: .bool false :: .bool false :: .int .i64 0 :: .bool false :: [])) 51)).alloc (.cells #[.bool false, .bool false, .bool false, .bool false, .bool false, .bool false] 52)).alloc (.cells #[.bool false, .bool false, .bool false, .bool false, .bool false, .bool false] 52)).alloc (.cells #[.int .i64 1, .int .i64 0, .int .i64 0, .int .i64 0, .int .i64 0, .int .i64 0, .int .i64 0, .int .u32 0, .int .u32 0, .slice none 0 0, .slice none 0 0] 29)) w1.heap.size (w1.heap.size + 1) (w1.heap.size + 1 + 1) (w1.heap.size + 1 + 1 + 1) (fun _ => noF) (fun _ => false) (fun _ => false) 0 0 := by
  refine ⟨?_, ?_, ?_, ?_, hs, by omega, by omega, by omega, by omega, (((hb.alloc hs _).alloc (by simp; omega) _).alloc (by simp; omega) _).alloc (by simp; omega) _, by simp; omega⟩
  · rw [heap_alloc_old _ _ (by simp <;> omega), heap_alloc_old _ _ (by simp <;> omega), heap_alloc_old _ _ (by simp)]; exact heap_alloc_new w1 _
  · rw [heap_alloc_old _ _ (by simp <;> omega), heap_alloc_old _ _ (by simp)]
    have h := heap_alloc_new (w1.alloc (.cells (List.toArray (.int .i64 0 :: .int .i64 0 :: .int .i64 0 :: .int .i64 0 :: .int .i64 0 :: .int .i64 0 :: .bool false :: .bool false :: .int .i64 0 :: .bool false :: .int .i64 0 :: .int .i64 0 :: .int .i64 0 :: .int .i64 0 :: .int .i64 0 :: .int .i64 0 :: .bool false :: .bool false :: .int .i64 0 :: .bool false :: .int .i64 0 :: .int .i64 0 :: .int .i64 0 :: .int .i64 0 :: .int .i64 0 :: .int .i64 0 :: .bool false :: .bool false :: .int .i64 0 :: .bool false :: .int .i64 0 :: .int .i64 0 :: .int .i64 0 :: .int .i64 0 :: .int .i64 0 :: .int .i64 0 :: .bool false :: .bool false :: .int .i64 0 :: .bool false :: .int .i64 0 :: .int .i64 0 :: .int .i64 0 :: .int .i64 0 :: .int .i64 0 :: .int .i64 0 :: .bool false :: .bool false :: .int .i64 0 :: .bool false :: .int .i64 0 :: .int .i64 0 :: .int .i64 0 :: .int .i64 0 :: .int .i64 0 :: .int .i64 0 :: .bool false :: .bool false :: .int .i64 0 :: .bool false :: [])) 51)) (.cells #[.bool false, .bool false, .bool false, .bool false, .bool false, .bool false] 52)
    rw [Fr.size1] at h; exact h
  · rw [heap_alloc_old _ _ (by simp)]
    have h := heap_alloc_new ((w1.alloc (.cells (List.toArray (.int .i64 0 :: .int .i64 0 :: .int .i64 0 :: .int .i64 0 :: .int .i64 0 :: .int .i64 0 :: .bool false :: .bool false :: .int .i64 0 :: .bool false :: .int .i64 0 :: .int .i64 0 :: .int .i64 0 :: .int .i64 0 :: .int .i64 0 :: .int .i64 0 :: .bool false :: .bool false :: .int .i64 0 :: .bool false :: .int .i64 0 :: .int .i64 0 :: .int .i64 0 :: .int .i64 0 :: .int .i64 0 :: .int .i64 0 :: .bool false :: .bool false :: .int .i64 0 :: .bool false :: .int .i64 0 :: .int .i64 0 :: .int .i64 0 :: .int .i64 0 :: .int .i64 0 :: .int .i64 0 :: .bool false :: .bool false :: .int .i64 0 :: .bool false :: .int .i64 0 :: .int .i64 0 :: .int .i64 0 :: .int .i64 0 :: .int .i64 0 :: .int .i64 0 :: .bool false :: .bool false :: .int .i64 0 :: .bool false :: .int .i64 0 :: .int .i64 0 :: .int .i64 0 :: .int .i64 0 :: .int .i64 0 :: .int .i64 0 :: .bool false :: .bool false :: .int .i64 0 :: .bool false :: [])) 51)).alloc (.cells #[.bool false, .bool false, .bool false, .bool false, .bool false, .bool false] 52)) (.cells #[.bool false, .bool false, .bool false, .bool false, .bool false, .bool false] 52)
    rw [Fr.size1, Fr.size1] at h; exact h
  · have h := heap_alloc_new (((w1.alloc (.cells (List.toArray (.int .i64 0 :: .int .i64 0 :: .int .i64 0 :: .int .i64 0 :: .int .i64 0 :: .int .i64 0 :: .bool false :: .bool false :: .int .i64 0 :: .bool false :: .int .i64 0 :: .int .i64 0 :: .int .i64 0 :: .int .i64 0 :: .int .i64 0 :: .int .i64 0 :: .bool false :: .bool false :: .int .i64 0 :: .bool false :: .int .i64 0 :: .int .i64 0 :: .int .i64 0 :: .int .i64 0 :: .int .i64 0 :: .int .i64 0 :: .bool false :: .bool false :: .int .i64 0 :: .bool false :: .int .i64 0 :: .int .i64 0 :: .int .i64 0 :: .int .i64 0 :: .int .i64 0 :: .int .i64 0 :: .bool false :: .bool false :: .int .i64 0 :: .bool false :: .int .i64 0 :: .int .i64 0 :: .int .i64 0 :: .int .i64 0 :: .int .i64 0 :: .int .i64 0 :: .bool false :: .bool false :: .int .i64 0 :: .bool false :: .int .i64 0 :: .int .i64 0 :: .int .i64 0 :: .int .i64 0 :: .int .i64 0 :: .int .i64 0 :: .bool false :: .bool false :: .int .i64 0 :: .bool false :: [])) 51)).alloc (.cells #[.bool false, .bool false, .bool false, .bool false, .bool false, .bool false] 52)).alloc (.cells #[.bool false, .bool false, .bool false, .bool false, .bool false, .bool false] 52)) (.cells #[.int .i64 1, .int .i64 0, .int .i64 0, .int .i64 0, .int .i64 0, .int .i64 0, .int .i64 0, .int .u32 0, .int .u32 0, .slice none 0 0, .slice none 0 0] 29)
    rw [Fr.size1, Fr.size1, Fr.size1] at h; exact h
theorem TS.othS (h : TS w0 w sF sI sW sO F I W a s) {b : Nat} {cs : Array Value} {T : TypeId} (hv : w.heap[b]? = some (.cells cs T)) (h1 : T ≠ 51) (h2 : T ≠ 52) (h3 : T ≠ 29) (ge : w0.heap.size ≤ b) (j : Nat) (vs : List Value) : TS w0 (w.setCells b j vs) sF sI sW sO F I W a s :=
  ⟨keepS h.bF (blk_ne h.bF hv (Ne.symm h1)) _ _, keepS h.bI (blk_ne h.bI hv (Ne.symm h2)) _ _, keepS h.bW (blk_ne h.bW hv (Ne.symm h2)) _ _, keepS h.bO (blk_ne h.bO hv (Ne.symm h3)) _ _, h.gF, h.gI, h.gW, h.gO, h.nIW, below_setCells ge _ _ _ h.bel, by rw [size_setCells]; exact h.siz⟩
theorem updN_id {α : Type} {G : Nat → α} {t : Nat} {x : α} (h : G t = x) : updN G t x = G := by
  funext k; unfold updN; split
  · rename_i e; rw [e, h]
  · rfl
theorem updN_upd {α : Type} {G : Nat → α} {t : Nat} {x y : α} : updN (updN G t x) t y = updN G t y := by
  funext k; unfold updN; split <;> rfl
theorem fr_is0 (op stage phase old since left : Int) (awoke starve : Bool) (need : Int) (front : Bool) : ∃ b : Bool, (b = true ↔ (⟨op, stage, phase, old, since, left, awoke, starve, need, front⟩ : MFr) = noF) ∧ ∀ V : World, (binOp .eql 31 (.agg #[.int .i64 op, .int .i64 stage, .int .i64 phase, .int .i64 old, .int .i64 since, .int .i64 left, .bool awoke, .bool starve, .int .i64 need, .bool front]) (.agg #[.int .i64 0, .int .i64 0, .int .i64 0, .int .i64 0, .int .i64 0, .int .i64 0, .bool false, .bool false, .int .i64 0, .bool false])).run Try.prog V = .ok (.bool b) V := by
  by_cases h : (⟨op, stage, phase, old, since, left, awoke, starve, need, front⟩ : MFr) = noF
  · refine ⟨true, ⟨fun _ => h, fun _ => rfl⟩, fun V => ?_⟩
    unfold noF at h
    injection h with a1 a2 a3 a4 a5 a6 a7 a8 a9 a10
    subst a1 a2 a3 a4 a5 a6 a7 a8 a9 a10
    go_simp
  · refine ⟨false, ⟨fun e => (by cases e), fun e => absurd e h⟩, fun V => ?_⟩
    go_simp
    intro a1 a2 a3 a4 a5 a6 a7 a8 a9
    by_cases a10 : front = true
    · exact a10
    · exact absurd (by rw [a1, a2, a3, a4, a5, a6, a7, a8, a9, show front = false by simpa using a10]; rfl) h
theorem is_own15 {base n c : Nat} {A : Option Addr} {l : List Int} (h : w.ownsRow base 3 1 (.slice A n c) n (intC l)) : Is w A n c l := by
  obtain ⟨A', c', he, hrs⟩ := Es.of_own h (intC_one _)
  injection he with he1 he2 he3; subst he1; subst he3; exact hrs
/-- a row of another type grows. -/
theorem TS.grown (h : TS w0 w sF sI sW sO F I W a s) {w1 : World} {v : Value} (hb : Below w.heap.size w w1) (hg : w1.grownBy w' v.ownBlock) (hne : ∀ (b : Nat) (cs : Array Value) (T : TypeId), 3 ≠ T → w1.heap[b]? = some (.cells cs T) → v.ownBlock ≠ some b) (hge : ∀ k, v.ownBlock = some k → w0.heap.size ≤ k) : TS w0 w' sF sI sW sO F I W a s := by
  have h1 := h.step hb
  refine ⟨blk_grown h1.bF hg (fun k hk e => hne _ _ _ (by decide) h1.bF (by rw [hk, e])), blk_grown h1.bI hg (fun k hk e => hne _ _ _ (by decide) h1.bI (by rw [hk, e])), blk_grown h1.bW hg (fun k hk e => hne _ _ _ (by decide) h1.bW (by rw [hk, e])), blk_grown h1.bO hg (fun k hk e => hne _ _ _ (by decide) h1.bO (by rw [hk, e])), h.gF, h.gI, h.gW, h.gO, h.nIW, h1.bel.grown hg h1.siz hge, Nat.le_trans h1.siz hg.size⟩
end
end Go.Proofs.Ytagaijghfikdoaa
