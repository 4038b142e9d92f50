/- Five tasks in turn: five frames, rows of five, a row of numbers that is pushed and dropped, as variables of a walk; over any world; no condition but those in each theorem. -/
import Derived.Test.YtkecmiedeihdgaaRwW
import Derived.Test.YtkecmiedeihdgaaSyA
import Derived.Test.YtkecmiedeihdgaaMutM
import Derived.Deep.Cut
namespace Go.Proofs.Ytkecmiedeihdgaa
set_option linter.unusedVariables false
set_option linter.unusedSimpArgs false
open Go.RowKit
def frL5 (F : Nat → MFr) : List Value := frC (F 0) ++ (frC (F 1) ++ (frC (F 2) ++ (frC (F 3) ++ frC (F 4))))
def boL5 (I : Nat → Bool) : List Value := [.bool (I 0), .bool (I 1), .bool (I 2), .bool (I 3), .bool (I 4)]
def inL5 (D : Nat → Int) : List Value := [.int .i64 (D 0), .int .i64 (D 1), .int .i64 (D 2), .int .i64 (D 3), .int .i64 (D 4)]
theorem five {t : Nat} (ht : t < 5) : t = 0 ∨ t = 1 ∨ t = 2 ∨ t = 3 ∨ t = 4 := by omega
theorem boL5_at (I : Nat → Bool) {t : Nat} (ht : t < 5) : (boL5 I)[t]? = some (.bool (I t)) := by
  rcases five ht with rfl | rfl | rfl | rfl | rfl <;> rfl
theorem inL5_at (D : Nat → Int) {t : Nat} (ht : t < 5) : (inL5 D)[t]? = some (.int .i64 (D t)) := by
  rcases five ht with rfl | rfl | rfl | rfl | rfl <;> rfl
theorem boL5_put (I : Nat → Bool) (b : Bool) {t : Nat} (ht : t < 5) : (boL5 I).set t (.bool b) = boL5 (updN I t b) := by
  rcases five ht with rfl | rfl | rfl | rfl | rfl <;> rfl
theorem inL5_put (D : Nat → Int) (x : Int) {t : Nat} (ht : t < 5) : (inL5 D).set t (.int .i64 x) = inL5 (updN D t x) := by
  rcases five ht with rfl | rfl | rfl | rfl | rfl <;> rfl
theorem frL5_at (F : Nat → MFr) {t : Nat} (ht : t < 5) : (frL5 F)[t * 10]? = some (.int .i64 (F t).op) ∧ (frL5 F)[t * 10 + 1]? = some (.int .i64 (F t).stage) ∧ (frL5 F)[t * 10 + 2]? = some (.int .i64 (F t).phase) ∧ (frL5 F)[t * 10 + 3]? = some (.int .i64 (F t).old) ∧ (frL5 F)[t * 10 + 4]? = some (.int .i64 (F t).since) ∧ (frL5 F)[t * 10 + 5]? = some (.int .i64 (F t).left) ∧ (frL5 F)[t * 10 + 6]? = some (.bool (F t).awoke) ∧ (frL5 F)[t * 10 + 7]? = some (.bool (F t).starve) ∧ (frL5 F)[t * 10 + 8]? = some (.int .i64 (F t).need) ∧ (frL5 F)[t * 10 + 9]? = some (.bool (F t).front) := by
  rcases five ht with rfl | rfl | rfl | rfl | rfl <;> exact ⟨rfl, rfl, rfl, rfl, rfl, rfl, rfl, rfl, rfl, rfl⟩
theorem frL5_put (F : Nat → MFr) (f : MFr) {t : Nat} (ht : t < 5) : (((((((((((frL5 F).set (t * 10) (.int .i64 f.op)).set (t * 10 + 1) (.int .i64 f.stage)).set (t * 10 + 2) (.int .i64 f.phase)).set (t * 10 + 3) (.int .i64 f.old)).set (t * 10 + 4) (.int .i64 f.since)).set (t * 10 + 5) (.int .i64 f.left)).set (t * 10 + 6) (.bool f.awoke)).set (t * 10 + 7) (.bool f.starve)).set (t * 10 + 8) (.int .i64 f.need)).set (t * 10 + 9) (.bool f.front)) = frL5 (updN F t f) := by
  rcases five ht with rfl | rfl | rfl | rfl | rfl <;> rfl
theorem frL5_need (F : Nat → MFr) {t : Nat} (ht : t < 5) : (frL5 F).set (t * 10 + 8) (.int .i64 0) = frL5 (updN F t { F t with need := 0 }) := by
  rcases five ht with rfl | rfl | rfl | rfl | rfl <;> rfl
theorem keepS5 {w : World} {b k : Nat} {o : Obj} (h : w.heap[k]? = some o) (hne : k ≠ b) (j : Nat) (vs : List Value) : (w.setCells b j vs).heap[k]? = some o := (heap_setCells_ne hne vs j w).trans h
theorem keep15 {w : World} {b k : Nat} {o : Obj} (h : w.heap[k]? = some o) (hne : k ≠ b) (j : Nat) (v : Value) : (w.setCell ⟨b, j, none⟩ v).heap[k]? = some o := (Below.heap_setCell _ ⟨b, j, none⟩ v k hne).trans h
theorem updN_id {α : Type} {G : Nat → α} {t : Nat} {x : α} (h : G t = x) : updN G t x = G := by
  funext k; unfold updN; split
  · rename_i e; rw [e, h]
  · rfl
theorem updN_upd {α : Type} {G : Nat → α} {t : Nat} {x y : α} : updN (updN G t x) t y = updN G t y := by
  funext k; unfold updN; split <;> rfl
theorem fr_is0 (op stage phase old since left : Int) (awoke starve : Bool) (need : Int) (front : Bool) : ∃ b : Bool, (b = true ↔ (⟨op, stage, phase, old, since, left, awoke, starve, need, front⟩ : MFr) = noF) ∧ ∀ V : World, (binOp .eql 31 (.agg #[.int .i64 op, .int .i64 stage, .int .i64 phase, .int .i64 old, .int .i64 since, .int .i64 left, .bool awoke, .bool starve, .int .i64 need, .bool front]) (.agg #[.int .i64 0, .int .i64 0, .int .i64 0, .int .i64 0, .int .i64 0, .int .i64 0, .bool false, .bool false, .int .i64 0, .bool false])).run Try.prog V = .ok (.bool b) V := by
  by_cases h : (⟨op, stage, phase, old, since, left, awoke, starve, need, front⟩ : MFr) = noF
  · refine ⟨true, ⟨fun _ => h, fun _ => rfl⟩, fun V => ?_⟩
    unfold noF at h
    injection h with a1 a2 a3 a4 a5 a6 a7 a8 a9 a10
    subst a1 a2 a3 a4 a5 a6 a7 a8 a9 a10
    go_simp
  · refine ⟨false, ⟨fun e => (by cases e), fun e => absurd e h⟩, fun V => ?_⟩
    go_simp
    intro a1 a2 a3 a4 a5 a6 a7 a8 a9
    by_cases a10 : front = true
    · exact a10
    · exact absurd (by rw [a1, a2, a3, a4, a5, a6, a7, a8, a9, show front = false by simpa using a10]; rfl) h
theorem is_own16 {w : World} {base n c : Nat} {A : Option Addr} {l : List Int} (h : w.ownsRow base 3 1 (.slice A n c) n (intC l)) : Is w A n c l := by
  obtain ⟨A', c', he, hrs⟩ := Es.of_own h (intC_one _)
  injection he with he1 he2 he3; subst he1; subst he3; exact hrs
def nats (l : List Nat) : List Value := intC (l.map (fun x : Nat => (x : Int)))
theorem nats_app (r : List Nat) (t : Nat) : nats (r ++ [t]) = nats r ++ intC [(t : Int)] := by unfold nats; rw [List.map_append, intC_app]; rfl
/-- rows of numbers grow, nothing else turns. -/
structure Grows (w w' : World) (base : Nat) : Prop where
  keep : ∀ (b : Nat) (cs : Array Value) (T : TypeId), 3 ≠ T → w.heap[b]? = some (.cells cs T) → w'.heap[b]? = some (.cells cs T)
  below : ∀ w0 : World, w0.heap.size = base → Below base w0 w → Below base w0 w'
  size : w.heap.size ≤ w'.heap.size
theorem own_setCells5 {base b k n : Nat} {T T' : TypeId} {v : Value} {xs : List Value} (hT : T ≠ T') : ∀ (vs : List Value) (o : Nat) {w : World} {ys : List Value}, w.ownsRow base T k v n xs → w.heap[b]? = some (.cells ys.toArray T') → (w.setCells b o vs).ownsRow base T k v n xs
  | [], _, _, _, h, _ => h
  | u :: vs, o, w, ys, h, hs => own_setCells5 hT vs (o + 1) (own_set h hs hT) (blk_set (j := o) hs u)
theorem row_push {w : World} {base n k : Nat} {C : Option Addr} {r : List Nat} (h : w.ownsRow base 3 1 (.slice C n k) n (nats r)) (t : Nat) (hb : base ≤ w.heap.size) (hn : n ≤ 10000) :
    ∃ C' k' w', (Builtin.append_ #[37, 37] 37 #[.slice C n k, .slice (some ⟨w.heap.size, 0, none⟩) 1 1]).run Try.prog (w.alloc (.cells #[.int .i64 (t : Int)] 3)) = .ok (.slice C' (n + 1) k') w' ∧ w'.ownsRow base 3 1 (.slice C' (n + 1) k') (n + 1) (nats (r ++ [t])) ∧ Grows w w' base := by
  have hbl : Below w.heap.size w (w.alloc (.cells #[.int .i64 (t : Int)] 3)) := (Below.refl _ _).alloc (Nat.le_refl _) _
  have HL : (w.alloc (.cells #[.int .i64 (t : Int)] 3)).ownsRow base 3 1 (.slice (some ⟨w.heap.size, 0, none⟩) 1 1) 1 (intC [(t : Int)]) := lit_ints w hb [(t : Int)] (by simp) rfl
  have h1 := own_below h hbl
  obtain ⟨i5, hi5, hz0, hz1, hz2⟩ := info_of infoInt
  obtain ⟨v', w', hr, ho, hg, hpos⟩ := eapp_at (P := Try.prog) _ base 37 37 3 i5 _ 1 _ Try.underlying37 hi5 hz0 hz1 hz2 rfl (by decide) _ n _ h1 _ 1 1 _ (is_own16 HL) (by unfold maxLen; omega) (by omega) (by simp; omega)
  rw [← nats_app] at ho
  obtain ⟨C', k', rfl, _⟩ := Es.of_own ho (intC_one _)
  refine ⟨C', k', w', hr, ho, fun b cs T hT hv => ?_, fun w0 e hb0 => ?_, Nat.le_trans hbl.size hg.size⟩
  · have hv1 := blk_below hv hbl (blk_lt hv)
    exact blk_grown hv1 hg (fun k hk e => own_ne h1 hv1 hT (by rw [hk, e]))
  · exact (hb0.trans (hbl.mono hb)).grown hg (by simp; omega) (fun k hk => (h1.lt k hk).1)
theorem row_front {w : World} {base n k : Nat} {C : Option Addr} {r : List Nat} (h : w.ownsRow base 3 1 (.slice C n k) n (nats r)) (t : Nat) (hb : base ≤ w.heap.size) (hn : n ≤ 10000) :
    ∃ C' k' w', (Builtin.append_ #[37, 37] 37 #[.slice (some ⟨w.heap.size, 0, none⟩) 1 1, .slice C n k]).run Try.prog (w.alloc (.cells #[.int .i64 (t : Int)] 3)) = .ok (.slice C' (1 + n) k') w' ∧ w'.ownsRow base 3 1 (.slice C' (1 + n) k') (1 + n) (nats (t :: r)) ∧ Grows w w' base := by
  have hbl : Below w.heap.size w (w.alloc (.cells #[.int .i64 (t : Int)] 3)) := (Below.refl _ _).alloc (Nat.le_refl _) _
  have HL : (w.alloc (.cells #[.int .i64 (t : Int)] 3)).ownsRow base 3 1 (.slice (some ⟨w.heap.size, 0, none⟩) 1 1) 1 (intC [(t : Int)]) := lit_ints w hb [(t : Int)] (by simp) rfl
  have h1 := own_below h hbl
  obtain ⟨i5, hi5, hz0, hz1, hz2⟩ := info_of infoInt
  obtain ⟨v', w', hr, ho, hg, hpos⟩ := eapp_at (P := Try.prog) _ base 37 37 3 i5 _ 1 _ Try.underlying37 hi5 hz0 hz1 hz2 rfl (by decide) _ 1 _ HL C n k _ (is_own16 h1) (by unfold maxLen; omega) (by omega) (by simp; omega)
  have ho2 : w'.ownsRow base 3 1 v' (1 + n) (nats (t :: r)) := ho
  obtain ⟨C', k', rfl, _⟩ := Es.of_own ho2 (intC_one _)
  have hkeep : ∀ b, b < w.heap.size → w'.heap[b]? = w.heap[b]? := fun b hb => (hg.block b (by simp; omega) (fun e => by simp [Value.ownBlock] at e; omega)).trans (heap_alloc_old _ _ hb)
  refine ⟨C', k', w', hr, ho2, fun b cs T hT hv => (hkeep b (blk_lt hv)).trans hv, fun w0 e hb0 => ?_, Nat.le_trans hbl.size hg.size⟩
  exact (hb0.trans (hbl.mono hb)).grown hg (by simp; omega) (fun k hk => (HL.lt k hk).1)
theorem row_drop {w : World} {base n k : Nat} {C : Option Addr} {x : Nat} {r : List Nat} (h : w.ownsRow base 3 1 (.slice C n k) n (nats (x :: r))) (hb : base ≤ w.heap.size) (hn : n ≤ 10000) :
    (∃ b off, C = some ⟨b, off, none⟩ ∧ w.cell? ⟨b, off, none⟩ = some (.int .i64 (x : Int))) ∧ n = r.length + 1 ∧ ∃ C2 k2, (∀ V : World, (Instr.slice 37 (.slice C n k) (some (.int .i64 1)) none none).run Try.prog V = .ok (.slice C2 (n - 1) k2) V) ∧
    ∃ C' k' w', (Builtin.append_ #[37, 37] 37 #[.slice (some ⟨w.heap.size, 0, none⟩) 0 0, .slice C2 (n - 1) k2]).run Try.prog (w.alloc (.cells #[] 3)) = .ok (.slice C' (n - 1) k') w' ∧ w'.ownsRow base 3 1 (.slice C' (n - 1) k') (n - 1) (nats r) ∧ Grows w w' base := by
  have hl : n = r.length + 1 := by have h1 := h.1; unfold nats intC at h1; simp at h1; omega
  have hi := is_own16 h
  refine ⟨?_, hl, ?_⟩
  · obtain ⟨rb, roff, xx, re, rhb, rhc, rhd⟩ := hi.look 0 (by omega)
    injection rhd with rhd1 rhd2; subst rhd1
    rw [Nat.add_zero] at rhc
    exact ⟨rb, roff, re, rhc⟩
  · have hbl : Below w.heap.size w (w.alloc (.cells #[] 3)) := (Below.refl _ _).alloc (Nat.le_refl _) _
    have HL : (w.alloc (.cells #[] 3)).ownsRow base 3 1 (.slice (some ⟨w.heap.size, 0, none⟩) 0 0) 0 (intC []) := lit_ints w hb [] (by simp) rfl
    obtain ⟨C2, k2, hsl, hil⟩ := isl_drop (P := Try.prog) hi 37 unInts szInts 1 1 rfl (by omega)
    obtain ⟨i5, hi5, hz0, hz1, hz2⟩ := info_of infoInt
    obtain ⟨v', w', hr, ho, hg, hpos⟩ := eapp_at (P := Try.prog) _ base 37 37 3 i5 _ 1 _ Try.underlying37 hi5 hz0 hz1 hz2 rfl (by decide) _ 0 _ HL C2 (n - 1) k2 _ (Es.below hil hbl) (by unfold maxLen; omega) (by omega) (by simp; omega)
    rw [Nat.zero_add] at ho
    have ho2 : w'.ownsRow base 3 1 v' (n - 1) (nats r) := ho
    obtain ⟨C', k', rfl, _⟩ := Es.of_own ho2 (intC_one _)
    have hkeep : ∀ b, b < w.heap.size → w'.heap[b]? = w.heap[b]? := fun b hb => (hg.block b (by simp; omega) (fun e => by simp [Value.ownBlock] at e; omega)).trans (heap_alloc_old _ _ hb)
    refine ⟨C2, k2, hsl, C', k', w', hr, ho2, fun b cs T hT hv => (hkeep b (blk_lt hv)).trans hv, fun w0 e hb0 => ?_, Nat.le_trans hbl.size hg.size⟩
    exact (hb0.trans (hbl.mono hb)).grown hg (by simp; omega) (fun k hk => (HL.lt k hk).1)
theorem own_cellsE {w W' : World} {base n : Nat} {v : Value} {l : List Value} (h : w.ownsRow base 3 1 v n l) {b : Nat} {ys : List Value} {T : TypeId} (hs : w.heap[b]? = some (.cells ys.toArray T)) (hT : 3 ≠ T) {o : Nat} {vs : List Value} (e : w.setCells b o vs = W') : W'.ownsRow base 3 1 v n l := e ▸ own_setCells5 hT vs o h hs
theorem own_oneE {w W' : World} {base n : Nat} {v : Value} {l : List Value} (h : w.ownsRow base 3 1 v n l) {b : Nat} {ys : List Value} {T : TypeId} (hs : w.heap[b]? = some (.cells ys.toArray T)) (hT : 3 ≠ T) {o : Nat} {x : Value} (e : w.setCell ⟨b, o, none⟩ x = W') : W'.ownsRow base 3 1 v n l := e ▸ own_setCells5 hT [x] o h hs
theorem stayO {w W' : World} {b k o : Nat} {vs : List Value} {x : Option Obj} (e : w.setCells b o vs = W') (ne : k ≠ b) (V : w.heap[k]? = x) : W'.heap[k]? = x := e ▸ (heap_setCells_ne ne vs o w).trans V
theorem stay1 {w W' : World} {b k o : Nat} {v : Value} {x : Option Obj} (e : w.setCell ⟨b, o, none⟩ v = W') (ne : k ≠ b) (V : w.heap[k]? = x) : W'.heap[k]? = x := e ▸ (Below.heap_setCell _ ⟨b, o, none⟩ v k ne).trans V
theorem setFr (w : World) (b o : Nat) (v0 v1 v2 v3 v4 v5 v6 v7 v8 v9 : Value) : ∃ W, ((((((((((w.setCell ⟨b, o, none⟩ v0).setCell ⟨b, o + 1, none⟩ v1).setCell ⟨b, o + 2, none⟩ v2).setCell ⟨b, o + 3, none⟩ v3).setCell ⟨b, o + 4, none⟩ v4).setCell ⟨b, o + 5, none⟩ v5).setCell ⟨b, o + 6, none⟩ v6).setCell ⟨b, o + 7, none⟩ v7).setCell ⟨b, o + 8, none⟩ v8).setCell ⟨b, o + 9, none⟩ v9) = W ∧ w.setCells b o [v0, v1, v2, v3, v4, v5, v6, v7, v8, v9] = W := ⟨_, rfl, rfl⟩
/-- wp_cut, within a block. -/
theorem wp_cutB {P : Program} {s : Code} {id : Nat} {K : Act → World → Prop} {Q' : Exit → Act → World → Prop} {a : Act} {w : World} (R : Act → World → Prop) (rest : ∀ a' w', R a' w' → K a' w')
    (first : ∀ (J K' : Act → World → Prop), (∀ a' w', R a' w' → J a' w') → (∀ a' w', Met J a' w' → K' a' w') → s.wp P (Exit.inBlock id (Exit.then K' Q')) a w) : s.wp P (Exit.inBlock id (Exit.then K Q')) a w := by
  refine wp_mono (first R R (fun _ _ q => q) (fun _ _ q => q)) ?_
  intro e a' w' hq
  cases e with
  | normal => exact rest _ _ hq
  | exit id' =>
    by_cases h : id' = id
    · simp only [Exit.inBlock, if_pos h] at hq ⊢; exact rest _ _ hq
    · simp only [Exit.inBlock, if_neg h] at hq ⊢; exact hq
  | goto l => exact hq
  | ret => exact hq
  | panic ch => exact hq
  | outgrown => exact hq
/-- a frame of so many slots, the first ones told. -/
def FraN (a : Act) (N : Nat) (l : List Value) : Prop := a.tmps.size = N ∧ a.defers = [] ∧ a.tmps.toList.take l.length = l
end Go.Proofs.Ytkecmiedeihdgaa
