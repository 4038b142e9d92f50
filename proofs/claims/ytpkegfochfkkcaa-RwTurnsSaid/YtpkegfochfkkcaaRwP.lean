/- Layer 16: rows of tasks that wait, pushed and dropped; what a step of readers and writers comes to; no condition but those in each theorem. -/
import Derived.Test.YtpkegfochfkkcaaRwY
import Derived.Test.YtpkegfochfkkcaaMutB
import Derived.Deep.Cut
namespace Go.Proofs.Ytpkegfochfkkcaa
set_option linter.unusedVariables false
set_option linter.unusedSimpArgs false
open Go.RowKit
theorem updN_id {α : Type} {G : Nat → α} {t : Nat} {x : α} (h : G t = x) : updN G t x = G := by
  funext k; unfold updN; split
  · rename_i e; rw [e, h]
  · rfl
theorem updN_upd {α : Type} {G : Nat → α} {t : Nat} {x y : α} : updN (updN G t x) t y = updN G t y := by
  funext k; unfold updN; split <;> rfl
theorem fr_is0 (op stage phase old since left : Int) (awoke starve : Bool) (need : Int) (front : Bool) : ∃ b : Bool, (b = true ↔ (⟨op, stage, phase, old, since, left, awoke, starve, need, front⟩ : MFr) = noF) ∧ ∀ V : World, (binOp .eql 31 (.agg #[.int .i64 op, .int .i64 stage, .int .i64 phase, .int .i64 old, .int .i64 since, .int .i64 left, .bool awoke, .bool starve, .int .i64 need, .bool front]) (.agg #[.int .i64 0, .int .i64 0, .int .i64 0, .int .i64 0, .int .i64 0, .int .i64 0, .bool false, .bool false, .int .i64 0, .bool false])).run Try.prog V = .ok (.bool b) V := by
  by_cases h : (⟨op, stage, phase, old, since, left, awoke, starve, need, front⟩ : MFr) = noF
  · refine ⟨true, ⟨fun _ => h, fun _ => rfl⟩, fun V => ?_⟩
    unfold noF at h
    injection h with a1 a2 a3 a4 a5 a6 a7 a8 a9 a10
    subst a1 a2 a3 a4 a5 a6 a7 a8 a9 a10
    go_simp
  · refine ⟨false, ⟨fun e => (by cases e), fun e => absurd e h⟩, fun V => ?_⟩
    go_simp
    intro a1 a2 a3 a4 a5 a6 a7 a8 a9
    by_cases a10 : front = true
    · exact a10
    · exact absurd (by rw [a1, a2, a3, a4, a5, a6, a7, a8, a9, show front = false by simpa using a10]; rfl) h
theorem is_own16 {w : World} {base n c : Nat} {A : Option Addr} {l : List Int} (h : w.ownsRow base 3 1 (.slice A n c) n (intC l)) : Is w A n c l := by
  obtain ⟨A', c', he, hrs⟩ := Es.of_own h (intC_one _)
  injection he with he1 he2 he3; subst he1; subst he3; exact hrs
def nats (l : List Nat) : List Value := intC (l.map (fun x : Nat => (x : Int)))
theorem nats_app (r : List Nat) (t : Nat) : nats (r ++ [t]) = nats r ++ intC [(t : Int)] := by unfold nats; rw [List.map_append, intC_app]; rfl
/-- rows of numbers grow, nothing else turns. -/
structure Grows (w w' : World) (base : Nat) : Prop where
  keep : ∀ (b : Nat) (cs : Array Value) (T : TypeId), 3 ≠ T → w.heap[b]? = some (.cells cs T) → w'.heap[b]? = some (.cells cs T)
  below : ∀ w0 : World, w0.heap.size = base → Below base w0 w → Below base w0 w'
  size : w.heap.size ≤ w'.heap.size
theorem TR.keptG {w0 w w' : World} {sF sD sI sW sR sO : Nat} {F : Nat → MFr} {D : Nat → Int} {I W : Nat → Bool} {v1 v2 v3 : Value} {a b c d e f : Int} (h : TR w0 w sF sD sI sW sR sO F D I W v1 v2 v3 a b c d e f) (g : Grows w w' w0.heap.size) : TR w0 w' sF sD sI sW sR sO F D I W v1 v2 v3 a b c d e f :=
  ⟨g.keep _ _ _ (by decide) h.bF, g.keep _ _ _ (by decide) h.bD, g.keep _ _ _ (by decide) h.bI, g.keep _ _ _ (by decide) h.bW, g.keep _ _ _ (by decide) h.bR, g.keep _ _ _ (by decide) h.bO, h.gF, h.gD, h.gI, h.gW, h.gR, h.gO, h.nIW, g.below w0 rfl h.bel, Nat.le_trans h.siz g.size⟩
theorem R3.push {w : World} {base n1 n2 n3 k1 : Nat} {C : Option Addr} {v2 v3 : Value} {r : List Nat} {l2 l3 : List Value} (h : R3 w base (.slice C n1 k1) v2 v3 n1 n2 n3 (nats r) l2 l3) (t : Nat) (hb : base ≤ w.heap.size) (hn : n1 ≤ 10000) :
    ∃ C' k' w', (Builtin.append_ #[36, 36] 36 #[.slice C n1 k1, .slice (some ⟨w.heap.size, 0, none⟩) 1 1]).run Try.prog (w.alloc (.cells #[.int .i64 (t : Int)] 3)) = .ok (.slice C' (n1 + 1) k') w' ∧ R3 w' base (.slice C' (n1 + 1) k') v2 v3 (n1 + 1) n2 n3 (nats (r ++ [t])) l2 l3 ∧ Grows w w' base := by
  have hbl : Below w.heap.size w (w.alloc (.cells #[.int .i64 (t : Int)] 3)) := (Below.refl _ _).alloc (Nat.le_refl _) _
  have HL : (w.alloc (.cells #[.int .i64 (t : Int)] 3)).ownsRow base 3 1 (.slice (some ⟨w.heap.size, 0, none⟩) 1 1) 1 (intC [(t : Int)]) := lit_ints w hb [(t : Int)] (by simp) rfl
  have h1 := h.step hbl
  obtain ⟨i5, hi5, hz0, hz1, hz2⟩ := info_of infoInt
  obtain ⟨v', w', hr, ho, hg, hpos⟩ := eapp_at (P := Try.prog) _ base 36 36 3 i5 _ 1 _ Try.underlying36 hi5 hz0 hz1 hz2 rfl (by decide) _ n1 _ h1.o1 _ 1 1 _ (is_own16 HL) (by unfold maxLen; omega) (by omega) (by simp; omega)
  rw [← nats_app] at ho
  obtain ⟨C', k', rfl, _⟩ := Es.of_own ho (intC_one _)
  refine ⟨C', k', w', hr, h1.put (fun b hb e => hg.block b hb (fun e2 => e e2.symm)) ho hpos, fun b cs T hT hv => ?_, fun w0 e hb0 => ?_, Nat.le_trans hbl.size hg.size⟩
  · have hv1 := blk_below hv hbl (blk_lt hv)
    exact blk_grown hv1 hg (fun k hk e => own_ne h1.o1 hv1 hT (by rw [hk, e]))
  · exact (hb0.trans (hbl.mono hb)).grown hg (by simp; omega) (fun k hk => (h1.o1.lt k hk).1)
theorem R3.drop {w : World} {base n1 n2 n3 k1 : Nat} {C : Option Addr} {v2 v3 : Value} {x : Nat} {r : List Nat} {l2 l3 : List Value} (h : R3 w base (.slice C n1 k1) v2 v3 n1 n2 n3 (nats (x :: r)) l2 l3) (hb : base ≤ w.heap.size) (hn : n1 ≤ 10000) :
    (∃ b off, C = some ⟨b, off, none⟩ ∧ w.cell? ⟨b, off, none⟩ = some (.int .i64 (x : Int))) ∧ n1 = r.length + 1 ∧ ∃ C2 k2, (∀ V : World, (Instr.slice 36 (.slice C n1 k1) (some (.int .i64 1)) none none).run Try.prog V = .ok (.slice C2 (n1 - 1) k2) V) ∧
    ∃ C' k' w', (Builtin.append_ #[36, 36] 36 #[.slice (some ⟨w.heap.size, 0, none⟩) 0 0, .slice C2 (n1 - 1) k2]).run Try.prog (w.alloc (.cells #[] 3)) = .ok (.slice C' (n1 - 1) k') w' ∧ R3 w' base (.slice C' (n1 - 1) k') v2 v3 (n1 - 1) n2 n3 (nats r) l2 l3 ∧ Grows w w' base := by
  have hl : n1 = r.length + 1 := by have h1 := h.o1.1; unfold nats intC at h1; simp at h1; omega
  have hi := is_own16 h.o1
  refine ⟨?_, hl, ?_⟩
  · obtain ⟨rb, roff, xx, re, rhb, rhc, rhd⟩ := hi.look 0 (by omega)
    injection rhd with rhd1 rhd2; subst rhd1
    rw [Nat.add_zero] at rhc
    exact ⟨rb, roff, re, rhc⟩
  · have hbl : Below w.heap.size w (w.alloc (.cells #[] 3)) := (Below.refl _ _).alloc (Nat.le_refl _) _
    have HL : (w.alloc (.cells #[] 3)).ownsRow base 3 1 (.slice (some ⟨w.heap.size, 0, none⟩) 0 0) 0 (intC []) := lit_ints w hb [] (by simp) rfl
    obtain ⟨C2, k2, hsl, hil⟩ := isl_drop (P := Try.prog) hi 36 unInts szInts 1 1 rfl (by omega)
    obtain ⟨i5, hi5, hz0, hz1, hz2⟩ := info_of infoInt
    obtain ⟨v', w', hr, ho, hg, hpos⟩ := eapp_at (P := Try.prog) _ base 36 36 3 i5 _ 1 _ Try.underlying36 hi5 hz0 hz1 hz2 rfl (by decide) _ 0 _ HL C2 (n1 - 1) k2 _ (Es.below hil hbl) (by unfold maxLen; omega) (by omega) (by simp; omega)
    rw [Nat.zero_add] at ho
    have ho2 : w'.ownsRow base 3 1 v' (n1 - 1) (nats r) := ho
    obtain ⟨C', k', rfl, _⟩ := Es.of_own ho2 (intC_one _)
    have hkeep : ∀ b, b < w.heap.size → w'.heap[b]? = w.heap[b]? := fun b hb => (hg.block b (by simp; omega) (fun e => by simp [Value.ownBlock] at e; omega)).trans (heap_alloc_old _ _ hb)
    refine ⟨C2, k2, hsl, C', k', w', hr, h.put (fun b hb _ => hkeep b hb) ho2 (fun g hg2 => Or.inr ?_), fun b cs T hT hv => (hkeep b (blk_lt hv)).trans hv, fun w0 e hb0 => ?_, Nat.le_trans hbl.size hg.size⟩
    · rcases hpos g hg2 with h1 | h1
      · simp [Value.ownBlock] at h1; omega
      · simp at h1; omega
    · exact (hb0.trans (hbl.mono hb)).grown hg (by simp; omega) (fun k hk => (HL.lt k hk).1)
theorem bo_look {w : World} {B : Option Addr} {m d : Nat} {ws : List Bool} (h : Es w B m d 1 (ws.map Value.bool)) (i : Nat) (hi : i < m) : ∃ b off v, B = some ⟨b, off, none⟩ ∧ w.cell? ⟨b, off + i, none⟩ = some (.bool v) := by
  obtain ⟨b, off, e, hb, hc⟩ := h.look i hi
  have hl := h.len
  rw [List.length_map] at hl
  refine ⟨b, off, ws[i]'(by omega), e, ?_⟩
  have := hc 0 (.bool (ws[i]'(by omega))) (by simp)
  simpa using this
section
variable {w0 w1 w2 w3 w4 w5 : Int} {F : Nat → MFr} {D : Nat → Int} {I W : Nat → Bool} {r1 r2 r3 : List Nat} {t : Nat}
theorem RInv.need0 (h : RInv w0 w1 w2 w3 w4 w5 F D I W r1 r2 r3) (ht : t < 6) : 0 ≤ (F t).need := by
  have o := h.ok t ht
  cases hI : I t
  · by_cases h8 : D t = 28
    · have := (o.rd hI h8).2; omega
    · by_cases h3 : D t = 30
      · have := (o.wr hI h3).2; omega
      · rw [o.no hI h8 h3]; decide
  · have := (o.inn hI).2.2.1; omega
theorem RInv.does (h : RInv w0 w1 w2 w3 w4 w5 F D I W r1 r2 r3) (ht : t < 6) (hf : F t ≠ noF) : (I t = false ∧ D t = 28) ∨ (I t = true ∧ D t = 29) ∨ (I t = false ∧ D t = 30) ∨ (I t = true ∧ D t = 31) := by
  have o := h.ok t ht
  cases hI : I t
  · by_cases h8 : D t = 28
    · exact Or.inl ⟨rfl, h8⟩
    · by_cases h3 : D t = 30
      · exact Or.inr (Or.inr (Or.inl ⟨rfl, h3⟩))
      · exact absurd (o.no hI h8 h3) hf
  · rcases (o.inn hI).1 with h9 | h9
    · exact Or.inr (Or.inl ⟨rfl, h9⟩)
    · exact Or.inr (Or.inr (Or.inr ⟨rfl, h9⟩))
theorem RInv.rng (h : RInv w0 w1 w2 w3 w4 w5 F D I W r1 r2 r3) : IntKind.i64.wrap w0 = w0 ∧ IntKind.i64.wrap w4 = w4 ∧ IntKind.i64.wrap w5 = w5 := by
  refine ⟨?_, ?_, ?_⟩
  · have p6 := one_le p34I p34_le (fun k => mfR (F k) (D k) (I k)) (fun k => miR (F k) (D k) (I k)); have c0 := h.mu.C0; have c1 := h.mu.C1; have q0 := h.mu.w0; have q1 := h.mu.s0; have q2 := one_le tnI (fun f b => by unfold tnI; split <;> omega) (fun k => mfR (F k) (D k) (I k)) (fun k => miR (F k) (D k) (I k)); rw [IntKind.wrap_i64]; omega
  · have := h.small; rw [IntKind.wrap_i64]; omega
  · obtain ⟨p2, p3, one, e4, e0, e8, e9, e10, q11, z11, z8, b8⟩ := h.num
    have all := all_le F D I
    generalize cntR F D I = n at *
    rw [IntKind.wrap_i64]; omega
/-- the semaphores' units are few. -/
theorem RInv.few (h : RInv w0 w1 w2 w3 w4 w5 F D I W r1 r2 r3) : 0 ≤ w1 ∧ w1 ≤ 1 ∧ 0 ≤ w2 ∧ w2 ≤ 1 ∧ 0 ≤ w3 ∧ w3 ≤ 6 := by
  have := h.small; have := h.num.p2; have := h.num.p3; have := h.mu.s0; have h0 := h.mu.T0; have h1 := h.mu.T1; omega
/-- what is still to be done of a step that may have been the last one. -/
def Pend (dn : Bool) (w0 w1 w2 w3 w4 w5 : Int) (F : Nat → MFr) (D : Nat → Int) (I W : Nat → Bool) (r1 r2 r3 : List Nat) (t : Nat) : Prop :=
  (dn = false ∧ RInv w0 w1 w2 w3 w4 w5 F D I W r1 r2 r3) ∨ (dn = true ∧ D t = 28 ∧ RInv w0 w1 w2 w3 w4 w5 (updN F t (beginF 29)) (updN D t 29) (updN I t true) W r1 r2 r3) ∨
  (dn = true ∧ D t = 30 ∧ RInv w0 w1 w2 w3 w4 w5 (updN F t (beginF 31)) (updN D t 31) (updN I t true) W r1 r2 r3) ∨ (dn = true ∧ (D t ≠ 28 ∧ D t ≠ 30) ∧ RInv w0 w1 w2 w3 w4 w5 F D (updN I t false) W r1 r2 r3)
def RAns (dn hd : Bool) (gv w0 w1 w2 w3 w4 w5 : Int) (F : Nat → MFr) (D : Nat → Int) (I W : Nat → Bool) (r1 r2 r3 : List Nat) (t : Nat) : Prop :=
  (gv = 0 ∧ Pend dn w0 w1 w2 w3 w4 w5 F D I W r1 r2 r3 t) ∨ (gv = 2 ∧ dn = true ∧ (D t ≠ 28 ∧ D t ≠ 30) ∧ RInv w0 (w1 + 1) w2 w3 w4 w5 F D (updN I t false) W r1 r2 r3) ∨
  (gv = 3 ∧ hd = false ∧ dn = true ∧ (D t ≠ 28 ∧ D t ≠ 30) ∧ RInv w0 w1 (w2 + 1) w3 w4 w5 F D (updN I t false) W r1 r2 r3) ∨ (gv = 4 ∧ hd = false ∧ dn = false ∧ RInv w0 w1 w2 (w3 + 1) w4 w5 F D I W r1 r2 r3)
variable {f g : MFr} {gdn ghd : Bool} {ggv gft z0 z4 z5 : Int}
theorem ans_lock {d0 d1 : Int} (hd : (d0 = 28 ∧ d1 = 29) ∨ (d0 = 30 ∧ d1 = 31)) (hD : D t = d0) (hI : I t = false) (h : RStep d0 d1 w1 w2 w3 (updN F t f) D I W r1 r2 r3 t ((z0, z4, z5), g, ⟨gdn, ggv, ghd, gft⟩)) : gft = 0 ∧ RAns gdn ghd ggv z0 w1 w2 w3 z4 z5 (updN F t g) D I W r1 r2 r3 t := by
  rcases h with ⟨he, hr⟩ | ⟨he, hr⟩
  · injection he with a1 a2 a3 a4; subst a1 a2 a3 a4
    rw [updN_upd] at hr
    refine ⟨rfl, Or.inl ⟨rfl, ?_⟩⟩
    rcases hd with ⟨rfl, rfl⟩ | ⟨rfl, rfl⟩
    · exact Or.inr (Or.inl ⟨rfl, hD, by rw [updN_upd]; exact hr⟩)
    · exact Or.inr (Or.inr (Or.inl ⟨rfl, hD, by rw [updN_upd]; exact hr⟩))
  · injection he with a1 a2 a3 a4; subst a1 a2 a3 a4
    rw [updN_upd, updN_id hD, updN_id hI] at hr
    exact ⟨rfl, Or.inl ⟨rfl, Or.inl ⟨rfl, hr⟩⟩⟩
theorem ans_runlock (hD : D t = 29) (hI : I t = true) (h : RStep2 29 w1 w2 w3 (updN F t f) D I W r1 r2 r3 t ((z0, z4, z5), g, ⟨gdn, ggv, ghd, gft⟩)) : gft = 0 ∧ RAns gdn ghd ggv z0 w1 w2 w3 z4 z5 (updN F t g) D I W r1 r2 r3 t := by
  have hn : D t ≠ 28 ∧ D t ≠ 30 := by omega
  rcases h with ⟨he, hr⟩ | ⟨he, hr⟩ | ⟨he, hr⟩ <;> injection he with a1 a2 a3 a4 <;> subst a1 a2 a3 a4 <;> rw [updN_upd, updN_id hD] at hr
  · exact ⟨rfl, Or.inl ⟨rfl, Or.inr (Or.inr (Or.inr ⟨rfl, hn, hr⟩))⟩⟩
  · rw [updN_id hI] at hr; exact ⟨rfl, Or.inl ⟨rfl, Or.inl ⟨rfl, hr⟩⟩⟩
  · exact ⟨rfl, Or.inr (Or.inr (Or.inl ⟨rfl, rfl, rfl, hn, hr⟩))⟩
theorem ans_wunlock (hD : D t = 31) (hI : I t = true) (h : RStep3 w1 w2 w3 (updN F t f) D I W r1 r2 r3 t ((z0, z4, z5), g, ⟨gdn, ggv, ghd, gft⟩)) : gft = 0 ∧ RAns gdn ghd ggv z0 w1 w2 w3 z4 z5 (updN F t g) D I W r1 r2 r3 t := by
  have hn : D t ≠ 28 ∧ D t ≠ 30 := by omega
  rcases h with ⟨he, hr⟩ | ⟨he, hr⟩ | ⟨h1, h2, h3, hr⟩ | ⟨h1, h2, h3, hr⟩
  · injection he with a1 a2 a3 a4; subst a1 a2 a3 a4; rw [updN_upd, updN_id hD, updN_id hI] at hr; exact ⟨rfl, Or.inl ⟨rfl, Or.inl ⟨rfl, hr⟩⟩⟩
  · injection he with a1 a2 a3 a4; subst a1 a2 a3 a4; rw [updN_upd, updN_id hD, updN_id hI] at hr; exact ⟨rfl, Or.inr (Or.inr (Or.inr ⟨rfl, rfl, rfl, hr⟩))⟩
  · simp only at h1 h2 h3 hr; subst h1 h2 h3
    rw [updN_upd, updN_id hD] at hr
    cases gdn
    · rw [Bool.not_false, updN_id hI] at hr; exact ⟨rfl, Or.inl ⟨rfl, Or.inl ⟨rfl, hr⟩⟩⟩
    · exact ⟨rfl, Or.inl ⟨rfl, Or.inr (Or.inr (Or.inr ⟨rfl, hn, hr⟩))⟩⟩
  · simp only at h1 h2 h3 hr; subst h1 h2 h3
    rw [updN_upd, updN_id hD] at hr
    exact ⟨rfl, Or.inr (Or.inl ⟨rfl, rfl, hn, hr⟩)⟩
theorem ctR_k (F : Nat → MFr) (D : Nat → Int) (I : Nat → Bool) (j : Nat) : ∀ k, ctR F D I j k ≤ k
  | 0 => Nat.le_refl 0
  | k + 1 => by have := ctR_k F D I j k; simp only [ctR]; split <;> omega
theorem cl3 (f : MFr) (d : Int) (b : Bool) : clR f d b = 3 ↔ b = true ∧ f.stage = 0 ∧ d = 29 := by
  unfold clR; cases b <;> simp only [Bool.false_eq_true, if_false, if_true, false_and, true_and] <;> (repeat' split) <;> simp_all
theorem cl10 (f : MFr) (d : Int) (b : Bool) : clR f d b = 10 ↔ b = true ∧ f.stage = 0 ∧ d ≠ 29 := by
  unfold clR; cases b <;> simp only [Bool.false_eq_true, if_false, if_true, false_and, true_and] <;> (repeat' split) <;> simp_all
end
theorem TR.first {w0 w1 : World} (hb : Below w0.heap.size w0 w1) (hs : w0.heap.size ≤ w1.heap.size) : TR w0 ((((((w1.alloc (.cells (List.toArray (.int .i64 0 :: .int .i64 0 :: .int .i64 0 :: .int .i64 0 :: .int .i64 0 :: .int .i64 0 :: .bool false :: .bool false :: .int .i64 0 :: .bool false :: .int .i64 0 :: .int .i64 0 :: .int .i64 0 :: .int .i64 0 :: .int .i64 0 :: .int .i64 0 :: .bool false :: .bool false :: .int .i64 0 :: .bool false :: .int .i64 0 :: .int .i64 0 :: .int .i64 0 :: .int .i64 0 :: .int .i64 0 :: .int .i64 0 :: .bool false :: .bool false :: .int .i64 0 :: .bool false :: .int .i64 0 :: .int .i64 0 :: .int .i64 0 :: .int .i64 0 :: .int .i64 0 :: .int .i64 0 :: .bool false :: .bool false :: .int .i64 0 :: .bool false :: .int .i64 0 :: .int .i64 0 :: .int .i64 0 :: .int .i64 0 :: .int .i64 0 :: .int .i64 0 :: .bool false :: .bool false :: .int .i64 0 :: .bool false :: [])) 53)).alloc (.cells #[.int .i64 0, .int .i64 0, .int .i64 0, .int .i64 0, .int .i64 0] 54)).alloc (.cells #[.bool false, .bool false, .bool false, .bool false, .bool false] 55)).alloc (.cells #[.bool false, .bool false, .bool false, .bool false, .bool false] 55)).alloc (.cells #[.slice none 0 0, .slice none 0 0, .slice none 0 0] 56)).alloc (.cells #[.int .i64 2, .int .i64 0, .int .i64 0, .int .i64 0, .int .i64 0, .int .i64 0, .int .i64 0, .int .u32 0, .int .u32 0, .slice none 0 0, .slice none 0 0] 29)) (w1.heap.size) (w1.heap.size + 1) (w1.heap.size + 1 + 1) (w1.heap.size + 1 + 1 + 1) (w1.heap.size + 1 + 1 + 1 + 1) (w1.heap.size + 1 + 1 + 1 + 1 + 1) (fun _ => noF) (fun _ => 0) (fun _ => false) (fun _ => false) (.slice none 0 0) (.slice none 0 0) (.slice none 0 0) 0 0 0 0 0 0 := by
  obtain ⟨v1, e1, z1, v2, e2, z2, v3, e3, z3, v4, e4, z4, v5, e5, z5, v6, e6, z6, f⟩ := boxes6 w1 (.cells (List.toArray (.int .i64 0 :: .int .i64 0 :: .int .i64 0 :: .int .i64 0 :: .int .i64 0 :: .int .i64 0 :: .bool false :: .bool false :: .int .i64 0 :: .bool false :: .int .i64 0 :: .int .i64 0 :: .int .i64 0 :: .int .i64 0 :: .int .i64 0 :: .int .i64 0 :: .bool false :: .bool false :: .int .i64 0 :: .bool false :: .int .i64 0 :: .int .i64 0 :: .int .i64 0 :: .int .i64 0 :: .int .i64 0 :: .int .i64 0 :: .bool false :: .bool false :: .int .i64 0 :: .bool false :: .int .i64 0 :: .int .i64 0 :: .int .i64 0 :: .int .i64 0 :: .int .i64 0 :: .int .i64 0 :: .bool false :: .bool false :: .int .i64 0 :: .bool false :: .int .i64 0 :: .int .i64 0 :: .int .i64 0 :: .int .i64 0 :: .int .i64 0 :: .int .i64 0 :: .bool false :: .bool false :: .int .i64 0 :: .bool false :: [])) 53) (.cells #[.int .i64 0, .int .i64 0, .int .i64 0, .int .i64 0, .int .i64 0] 54) (.cells #[.bool false, .bool false, .bool false, .bool false, .bool false] 55) (.cells #[.bool false, .bool false, .bool false, .bool false, .bool false] 55) (.cells #[.slice none 0 0, .slice none 0 0, .slice none 0 0] 56) (.cells #[.int .i64 2, .int .i64 0, .int .i64 0, .int .i64 0, .int .i64 0, .int .i64 0, .int .i64 0, .int .u32 0, .int .u32 0, .slice none 0 0, .slice none 0 0] 29)
  subst e1 e2 e3 e4 e5 e6
  exact ⟨f.blk 0 _ rfl, f.blk 1 _ rfl, f.blk 2 _ rfl, f.blk 3 _ rfl, f.blk 4 _ rfl, f.blk 5 _ rfl, hs, by omega, by omega, by omega, by omega, by omega, by omega, hb.trans (f.bel.mono hs), by have := f.sz; omega⟩
section
variable {w0 w W' : World} {sF sD sI sW sR sO : Nat} {F : Nat → MFr} {D : Nat → Int} {I W : Nat → Bool} {v1 v2 v3 : Value} {a b c d e f : Int} {t : Nat}
theorem TR.putFE (h : TR w0 w sF sD sI sW sR sO F D I W v1 v2 v3 a b c d e f) (ht : t < 5) (f0 : MFr) (e' : w.setCells sF (t * 10) (frC f0) = W') : TR w0 W' sF sD sI sW sR sO (updN F t f0) D I W v1 v2 v3 a b c d e f := e' ▸ h.putF ht f0
theorem TR.putNE (h : TR w0 w sF sD sI sW sR sO F D I W v1 v2 v3 a b c d e f) (ht : t < 5) (e' : w.setCell ⟨sF, t * 10 + 8, none⟩ (.int .i64 0) = W') : TR w0 W' sF sD sI sW sR sO (updN F t { F t with need := 0 }) D I W v1 v2 v3 a b c d e f := e' ▸ h.putN ht
theorem TR.putDE (h : TR w0 w sF sD sI sW sR sO F D I W v1 v2 v3 a b c d e f) (ht : t < 5) (x : Int) (e' : w.setCell ⟨sD, t, none⟩ (.int .i64 x) = W') : TR w0 W' sF sD sI sW sR sO F (updN D t x) I W v1 v2 v3 a b c d e f := e' ▸ h.putD ht x
theorem TR.putIE (h : TR w0 w sF sD sI sW sR sO F D I W v1 v2 v3 a b c d e f) (ht : t < 5) (x : Bool) (e' : w.setCell ⟨sI, t, none⟩ (.bool x) = W') : TR w0 W' sF sD sI sW sR sO F D (updN I t x) W v1 v2 v3 a b c d e f := e' ▸ h.putI ht x
theorem TR.putWE (h : TR w0 w sF sD sI sW sR sO F D I W v1 v2 v3 a b c d e f) (ht : t < 5) (x : Bool) (e' : w.setCell ⟨sW, t, none⟩ (.bool x) = W') : TR w0 W' sF sD sI sW sR sO F D I (updN W t x) v1 v2 v3 a b c d e f := e' ▸ h.putW ht x
theorem TR.putR1E (h : TR w0 w sF sD sI sW sR sO F D I W v1 v2 v3 a b c d e f) (x : Value) (e' : w.setCell ⟨sR, 0, none⟩ x = W') : TR w0 W' sF sD sI sW sR sO F D I W x v2 v3 a b c d e f := e' ▸ h.putR1 x
theorem TR.putR2E (h : TR w0 w sF sD sI sW sR sO F D I W v1 v2 v3 a b c d e f) (x : Value) (e' : w.setCell ⟨sR, 1, none⟩ x = W') : TR w0 W' sF sD sI sW sR sO F D I W v1 x v3 a b c d e f := e' ▸ h.putR2 x
theorem TR.putR3E (h : TR w0 w sF sD sI sW sR sO F D I W v1 v2 v3 a b c d e f) (x : Value) (e' : w.setCell ⟨sR, 2, none⟩ x = W') : TR w0 W' sF sD sI sW sR sO F D I W v1 v2 x a b c d e f := e' ▸ h.putR3 x
theorem TR.putOE (h : TR w0 w sF sD sI sW sR sO F D I W v1 v2 v3 a b c d e f) (a' b' c' d' e2' f' : Int) (e' : w.setCells sO 0 (rwC a' b' c' d' e2' f') = W') : TR w0 W' sF sD sI sW sR sO F D I W v1 v2 v3 a' b' c' d' e2' f' := e' ▸ h.putO a' b' c' d' e2' f'
theorem TR.putS2E (h : TR w0 w sF sD sI sW sR sO F D I W v1 v2 v3 a b c d e f) (x : Int) (e' : w.setCell ⟨sO, 2, none⟩ (.int .i64 x) = W') : TR w0 W' sF sD sI sW sR sO F D I W v1 v2 v3 a x c d e f := e' ▸ h.putS2 x
theorem TR.putS3E (h : TR w0 w sF sD sI sW sR sO F D I W v1 v2 v3 a b c d e f) (x : Int) (e' : w.setCell ⟨sO, 3, none⟩ (.int .i64 x) = W') : TR w0 W' sF sD sI sW sR sO F D I W v1 v2 v3 a b x d e f := e' ▸ h.putS3 x
theorem TR.putS4E (h : TR w0 w sF sD sI sW sR sO F D I W v1 v2 v3 a b c d e f) (x : Int) (e' : w.setCell ⟨sO, 4, none⟩ (.int .i64 x) = W') : TR w0 W' sF sD sI sW sR sO F D I W v1 v2 v3 a b c x e f := e' ▸ h.putS4 x
theorem TR.othE (h : TR w0 w sF sD sI sW sR sO F D I W v1 v2 v3 a b c d e f) {q : Nat} {cs : Array Value} {T : TypeId} (hv : w.heap[q]? = some (.cells cs T)) (h0 : T ≠ 53) (h1 : T ≠ 54) (h2 : T ≠ 55) (h3 : T ≠ 56) (h4 : T ≠ 29) (ge : w0.heap.size ≤ q) {j : Nat} {vs : List Value} (e' : w.setCells q j vs = W') : TR w0 W' sF sD sI sW sR sO F D I W v1 v2 v3 a b c d e f := e' ▸ h.othS hv h0 h1 h2 h3 h4 ge j vs
theorem TR.oth1 (h : TR w0 w sF sD sI sW sR sO F D I W v1 v2 v3 a b c d e f) {q : Nat} {cs : Array Value} {T : TypeId} (hv : w.heap[q]? = some (.cells cs T)) (h0 : T ≠ 53) (h1 : T ≠ 54) (h2 : T ≠ 55) (h3 : T ≠ 56) (h4 : T ≠ 29) (ge : w0.heap.size ≤ q) {j : Nat} {v : Value} (e' : w.setCell ⟨q, j, none⟩ v = W') : TR w0 W' sF sD sI sW sR sO F D I W v1 v2 v3 a b c d e f := e' ▸ h.othS hv h0 h1 h2 h3 h4 ge j [v]
end
theorem R3.cellsE {w W' : World} {base : Nat} {v1 v2 v3 : Value} {n1 n2 n3 : Nat} {l1 l2 l3 : List Value} (h : R3 w base v1 v2 v3 n1 n2 n3 l1 l2 l3) {b : Nat} {ys : List Value} {T : TypeId} (hs : w.heap[b]? = some (.cells ys.toArray T)) (hT : 3 ≠ T) {o : Nat} {vs : List Value} (e : w.setCells b o vs = W') : R3 W' base v1 v2 v3 n1 n2 n3 l1 l2 l3 := e ▸ h.cells hs hT o vs
theorem R3.oneE {w W' : World} {base : Nat} {v1 v2 v3 : Value} {n1 n2 n3 : Nat} {l1 l2 l3 : List Value} (h : R3 w base v1 v2 v3 n1 n2 n3 l1 l2 l3) {b : Nat} {ys : List Value} {T : TypeId} (hs : w.heap[b]? = some (.cells ys.toArray T)) (hT : 3 ≠ T) {o : Nat} {v : Value} (e : w.setCell ⟨b, o, none⟩ v = W') : R3 W' base v1 v2 v3 n1 n2 n3 l1 l2 l3 := e ▸ h.cells hs hT o [v]
theorem stayO {w W' : World} {b k o : Nat} {vs : List Value} {x : Option Obj} (e : w.setCells b o vs = W') (ne : k ≠ b) (V : w.heap[k]? = x) : W'.heap[k]? = x := e ▸ (heap_setCells_ne ne vs o w).trans V
theorem stay1 {w W' : World} {b k o : Nat} {v : Value} {x : Option Obj} (e : w.setCell ⟨b, o, none⟩ v = W') (ne : k ≠ b) (V : w.heap[k]? = x) : W'.heap[k]? = x := e ▸ (Below.heap_setCell _ ⟨b, o, none⟩ v k ne).trans V
theorem setFr (w : World) (b o : Nat) (v0 v1 v2 v3 v4 v5 v6 v7 v8 v9 : Value) : ∃ W, ((((((((((w.setCell ⟨b, o, none⟩ v0).setCell ⟨b, o + 1, none⟩ v1).setCell ⟨b, o + 2, none⟩ v2).setCell ⟨b, o + 3, none⟩ v3).setCell ⟨b, o + 4, none⟩ v4).setCell ⟨b, o + 5, none⟩ v5).setCell ⟨b, o + 6, none⟩ v6).setCell ⟨b, o + 7, none⟩ v7).setCell ⟨b, o + 8, none⟩ v8).setCell ⟨b, o + 9, none⟩ v9) = W ∧ w.setCells b o [v0, v1, v2, v3, v4, v5, v6, v7, v8, v9] = W := ⟨_, rfl, rfl⟩
/-- wp_cut, within a block. -/
theorem wp_cutB {P : Program} {s : Code} {id : Nat} {K : Act → World → Prop} {Q' : Exit → Act → World → Prop} {a : Act} {w : World} (R : Act → World → Prop) (rest : ∀ a' w', R a' w' → K a' w')
    (first : ∀ (J K' : Act → World → Prop), (∀ a' w', R a' w' → J a' w') → (∀ a' w', Met J a' w' → K' a' w') → s.wp P (Exit.inBlock id (Exit.then K' Q')) a w) : s.wp P (Exit.inBlock id (Exit.then K Q')) a w := by
  refine wp_mono (first R R (fun _ _ q => q) (fun _ _ q => q)) ?_
  intro e a' w' hq
  cases e with
  | normal => exact rest _ _ hq
  | exit id' =>
    by_cases h : id' = id
    · simp only [Exit.inBlock, if_pos h] at hq ⊢; exact rest _ _ hq
    · simp only [Exit.inBlock, if_neg h] at hq ⊢; exact hq
  | goto l => exact hq
  | ret => exact hq
  | panic ch => exact hq
  | outgrown => exact hq
/-- a frame of so many slots, the first ones told. -/
def Fra (a : Act) (k : Nat) (l : List Value) : Prop := a.tmps.size = 302 ∧ a.defers = [] ∧ a.tmps.toList.take k = l
set_option maxRecDepth 100000 in
theorem frame16 {a : Act} {e0 e1 e2 e3 e4 e5 e6 e7 e8 e9 e10 e11 e12 e13 e14 e15 : Value} (h : Fra a 16 [e0, e1, e2, e3, e4, e5, e6, e7, e8, e9, e10, e11, e12, e13, e14, e15]) : ∃ t : Nat → Value, a = ⟨((e0 :: e1 :: e2 :: e3 :: e4 :: e5 :: e6 :: e7 :: e8 :: e9 :: e10 :: e11 :: e12 :: e13 :: e14 :: e15 :: t 16 :: t 17 :: t 18 :: t 19 :: t 20 :: t 21 :: t 22 :: t 23 :: t 24 :: t 25 :: t 26 :: t 27 :: t 28 :: t 29 :: t 30 :: t 31 :: t 32 :: t 33 :: t 34 :: t 35 :: t 36 :: t 37 :: t 38 :: t 39 :: t 40 :: t 41 :: t 42 :: t 43 :: t 44 :: t 45 :: t 46 :: t 47 :: t 48 :: t 49 :: t 50 :: t 51 :: t 52 :: t 53 :: t 54 :: t 55 :: t 56 :: t 57 :: t 58 :: t 59 :: t 60 :: t 61 :: t 62 :: t 63 :: t 64 :: t 65 :: t 66 :: t 67 :: t 68 :: t 69 :: t 70 :: t 71 :: t 72 :: t 73 :: t 74 :: t 75 :: t 76 :: t 77 :: t 78 :: t 79 :: t 80 :: t 81 :: t 82 :: t 83 :: t 84 :: t 85 :: t 86 :: t 87 :: t 88 :: t 89 :: t 90 :: t 91 :: t 92 :: t 93 :: t 94 :: t 95 :: t 96 :: t 97 :: t 98 :: t 99 :: t 100 :: t 101 :: t 102 :: t 103 :: t 104 :: t 105 :: t 106 :: t 107 :: t 108 :: t 109 :: t 110 :: t 111 :: t 112 :: t 113 :: t 114 :: t 115 :: t 116 :: t 117 :: t 118 :: t 119 :: t 120 :: t 121 :: t 122 :: t 123 :: t 124 :: t 125 :: t 126 :: t 127 :: t 128 :: t 129 :: t 130 :: t 131 :: t 132 :: t 133 :: t 134 :: t 135 :: t 136 :: t 137 :: t 138 :: t 139 :: t 140 :: t 141 :: t 142 :: t 143 :: t 144 :: t 145 :: t 146 :: t 147 :: t 148 :: t 149 :: t 150 :: t 151 :: t 152 :: t 153 :: t 154 :: t 155 :: t 156 :: t 157 :: t 158 :: t 159 :: t 160 :: t 161 :: t 162 :: t 163 :: t 164 :: t 165 :: t 166 :: t 167 :: t 168 :: t 169 :: t 170 :: t 171 :: t 172 :: t 173 :: t 174 :: t 175 :: t 176 :: t 177 :: t 178 :: t 179 :: t 180 :: t 181 :: t 182 :: t 183 :: t 184 :: t 185 :: t 186 :: t 187 :: t 188 :: t 189 :: t 190 :: t 191 :: t 192 :: t 193 :: t 194 :: t 195 :: t 196 :: t 197 :: t 198 :: t 199 :: t 200 :: t 201 :: t 202 :: t 203 :: t 204 :: t 205 :: t 206 :: t 207 :: t 208 :: t 209 :: t 210 :: t 211 :: t 212 :: t 213 :: t 214 :: t 215 :: t 216 :: t 217 :: t 218 :: t 219 :: t 220 :: t 221 :: t 222 :: t 223 :: t 224 :: t 225 :: t 226 :: t 227 :: t 228 :: t 229 :: t 230 :: t 231 :: t 232 :: t 233 :: t 234 :: t 235 :: t 236 :: t 237 :: t 238 :: t 239 :: t 240 :: t 241 :: t 242 :: t 243 :: t 244 :: t 245 :: t 246 :: t 247 :: t 248 :: t 249 :: t 250 :: t 251 :: t 252 :: t 253 :: t 254 :: t 255 :: t 256 :: t 257 :: t 258 :: t 259 :: t 260 :: t 261 :: t 262 :: t 263 :: t 264 :: t 265 :: t 266 :: t 267 :: t 268 :: t 269 :: t 270 :: t 271 :: t 272 :: t 273 :: t 274 :: t 275 :: t 276 :: t 277 :: t 278 :: t 279 :: t 280 :: t 281 :: t 282 :: t 283 :: t 284 :: t 285 :: t 286 :: t 287 :: t 288 :: t 289 :: t 290 :: t 291 :: t 292 :: t 293 :: t 294 :: t 295 :: t 296 :: t 297 :: t 298 :: t 299 :: t 300 :: t 301 :: [] : List Value)).toArray, []⟩ := by
  obtain ⟨⟨l⟩, df⟩ := a
  obtain ⟨hs, hd, hp⟩ := h
  simp only at hd hp
  subst hd
  have hl : l.length = 302 := hs
  obtain ⟨t, ht⟩ : ∃ t : Nat → Value, ∀ k, l.getD k undef = t k := ⟨_, fun _ => rfl⟩
  refine ⟨t, ?_⟩
  have h3 : l.drop 16 = (List.range' 16 286).map t := by
    apply List.ext_getElem
    · simp [hl]
    · intro i h1 h2
      rw [List.getElem_drop, List.getElem_map, List.getElem_range', ← ht, Nat.one_mul]
      simp only [List.length_drop] at h1
      rw [List.getD_eq_getElem?_getD, List.getElem?_eq_getElem (by omega)]; rfl
  have h2 : l = l.take 16 ++ l.drop 16 := (List.take_append_drop 16 l).symm
  rw [hp, h3] at h2
  have h4 : [e0, e1, e2, e3, e4, e5, e6, e7, e8, e9, e10, e11, e12, e13, e14, e15] ++ (List.range' 16 286).map t = e0 :: e1 :: e2 :: e3 :: e4 :: e5 :: e6 :: e7 :: e8 :: e9 :: e10 :: e11 :: e12 :: e13 :: e14 :: e15 :: t 16 :: t 17 :: t 18 :: t 19 :: t 20 :: t 21 :: t 22 :: t 23 :: t 24 :: t 25 :: t 26 :: t 27 :: t 28 :: t 29 :: t 30 :: t 31 :: t 32 :: t 33 :: t 34 :: t 35 :: t 36 :: t 37 :: t 38 :: t 39 :: t 40 :: t 41 :: t 42 :: t 43 :: t 44 :: t 45 :: t 46 :: t 47 :: t 48 :: t 49 :: t 50 :: t 51 :: t 52 :: t 53 :: t 54 :: t 55 :: t 56 :: t 57 :: t 58 :: t 59 :: t 60 :: t 61 :: t 62 :: t 63 :: t 64 :: t 65 :: t 66 :: t 67 :: t 68 :: t 69 :: t 70 :: t 71 :: t 72 :: t 73 :: t 74 :: t 75 :: t 76 :: t 77 :: t 78 :: t 79 :: t 80 :: t 81 :: t 82 :: t 83 :: t 84 :: t 85 :: t 86 :: t 87 :: t 88 :: t 89 :: t 90 :: t 91 :: t 92 :: t 93 :: t 94 :: t 95 :: t 96 :: t 97 :: t 98 :: t 99 :: t 100 :: t 101 :: t 102 :: t 103 :: t 104 :: t 105 :: t 106 :: t 107 :: t 108 :: t 109 :: t 110 :: t 111 :: t 112 :: t 113 :: t 114 :: t 115 :: t 116 :: t 117 :: t 118 :: t 119 :: t 120 :: t 121 :: t 122 :: t 123 :: t 124 :: t 125 :: t 126 :: t 127 :: t 128 :: t 129 :: t 130 :: t 131 :: t 132 :: t 133 :: t 134 :: t 135 :: t 136 :: t 137 :: t 138 :: t 139 :: t 140 :: t 141 :: t 142 :: t 143 :: t 144 :: t 145 :: t 146 :: t 147 :: t 148 :: t 149 :: t 150 :: t 151 :: t 152 :: t 153 :: t 154 :: t 155 :: t 156 :: t 157 :: t 158 :: t 159 :: t 160 :: t 161 :: t 162 :: t 163 :: t 164 :: t 165 :: t 166 :: t 167 :: t 168 :: t 169 :: t 170 :: t 171 :: t 172 :: t 173 :: t 174 :: t 175 :: t 176 :: t 177 :: t 178 :: t 179 :: t 180 :: t 181 :: t 182 :: t 183 :: t 184 :: t 185 :: t 186 :: t 187 :: t 188 :: t 189 :: t 190 :: t 191 :: t 192 :: t 193 :: t 194 :: t 195 :: t 196 :: t 197 :: t 198 :: t 199 :: t 200 :: t 201 :: t 202 :: t 203 :: t 204 :: t 205 :: t 206 :: t 207 :: t 208 :: t 209 :: t 210 :: t 211 :: t 212 :: t 213 :: t 214 :: t 215 :: t 216 :: t 217 :: t 218 :: t 219 :: t 220 :: t 221 :: t 222 :: t 223 :: t 224 :: t 225 :: t 226 :: t 227 :: t 228 :: t 229 :: t 230 :: t 231 :: t 232 :: t 233 :: t 234 :: t 235 :: t 236 :: t 237 :: t 238 :: t 239 :: t 240 :: t 241 :: t 242 :: t 243 :: t 244 :: t 245 :: t 246 :: t 247 :: t 248 :: t 249 :: t 250 :: t 251 :: t 252 :: t 253 :: t 254 :: t 255 :: t 256 :: t 257 :: t 258 :: t 259 :: t 260 :: t 261 :: t 262 :: t 263 :: t 264 :: t 265 :: t 266 :: t 267 :: t 268 :: t 269 :: t 270 :: t 271 :: t 272 :: t 273 :: t 274 :: t 275 :: t 276 :: t 277 :: t 278 :: t 279 :: t 280 :: t 281 :: t 282 :: t 283 :: t 284 :: t 285 :: t 286 :: t 287 :: t 288 :: t 289 :: t 290 :: t 291 :: t 292 :: t 293 :: t 294 :: t 295 :: t 296 :: t 297 :: t 298 :: t 299 :: t 300 :: t 301 :: [] := by kernel_rfl
  rw [h4] at h2
  rw [h2]
set_option maxRecDepth 100000 in
theorem frame25 {a : Act} {e0 e1 e2 e3 e4 e5 e6 e7 e8 e9 e10 e11 e12 e13 e14 e15 e16 e17 e18 e19 e20 e21 e22 e23 e24 : Value} (h : Fra a 25 [e0, e1, e2, e3, e4, e5, e6, e7, e8, e9, e10, e11, e12, e13, e14, e15, e16, e17, e18, e19, e20, e21, e22, e23, e24]) : ∃ t : Nat → Value, a = ⟨((e0 :: e1 :: e2 :: e3 :: e4 :: e5 :: e6 :: e7 :: e8 :: e9 :: e10 :: e11 :: e12 :: e13 :: e14 :: e15 :: e16 :: e17 :: e18 :: e19 :: e20 :: e21 :: e22 :: e23 :: e24 :: t 25 :: t 26 :: t 27 :: t 28 :: t 29 :: t 30 :: t 31 :: t 32 :: t 33 :: t 34 :: t 35 :: t 36 :: t 37 :: t 38 :: t 39 :: t 40 :: t 41 :: t 42 :: t 43 :: t 44 :: t 45 :: t 46 :: t 47 :: t 48 :: t 49 :: t 50 :: t 51 :: t 52 :: t 53 :: t 54 :: t 55 :: t 56 :: t 57 :: t 58 :: t 59 :: t 60 :: t 61 :: t 62 :: t 63 :: t 64 :: t 65 :: t 66 :: t 67 :: t 68 :: t 69 :: t 70 :: t 71 :: t 72 :: t 73 :: t 74 :: t 75 :: t 76 :: t 77 :: t 78 :: t 79 :: t 80 :: t 81 :: t 82 :: t 83 :: t 84 :: t 85 :: t 86 :: t 87 :: t 88 :: t 89 :: t 90 :: t 91 :: t 92 :: t 93 :: t 94 :: t 95 :: t 96 :: t 97 :: t 98 :: t 99 :: t 100 :: t 101 :: t 102 :: t 103 :: t 104 :: t 105 :: t 106 :: t 107 :: t 108 :: t 109 :: t 110 :: t 111 :: t 112 :: t 113 :: t 114 :: t 115 :: t 116 :: t 117 :: t 118 :: t 119 :: t 120 :: t 121 :: t 122 :: t 123 :: t 124 :: t 125 :: t 126 :: t 127 :: t 128 :: t 129 :: t 130 :: t 131 :: t 132 :: t 133 :: t 134 :: t 135 :: t 136 :: t 137 :: t 138 :: t 139 :: t 140 :: t 141 :: t 142 :: t 143 :: t 144 :: t 145 :: t 146 :: t 147 :: t 148 :: t 149 :: t 150 :: t 151 :: t 152 :: t 153 :: t 154 :: t 155 :: t 156 :: t 157 :: t 158 :: t 159 :: t 160 :: t 161 :: t 162 :: t 163 :: t 164 :: t 165 :: t 166 :: t 167 :: t 168 :: t 169 :: t 170 :: t 171 :: t 172 :: t 173 :: t 174 :: t 175 :: t 176 :: t 177 :: t 178 :: t 179 :: t 180 :: t 181 :: t 182 :: t 183 :: t 184 :: t 185 :: t 186 :: t 187 :: t 188 :: t 189 :: t 190 :: t 191 :: t 192 :: t 193 :: t 194 :: t 195 :: t 196 :: t 197 :: t 198 :: t 199 :: t 200 :: t 201 :: t 202 :: t 203 :: t 204 :: t 205 :: t 206 :: t 207 :: t 208 :: t 209 :: t 210 :: t 211 :: t 212 :: t 213 :: t 214 :: t 215 :: t 216 :: t 217 :: t 218 :: t 219 :: t 220 :: t 221 :: t 222 :: t 223 :: t 224 :: t 225 :: t 226 :: t 227 :: t 228 :: t 229 :: t 230 :: t 231 :: t 232 :: t 233 :: t 234 :: t 235 :: t 236 :: t 237 :: t 238 :: t 239 :: t 240 :: t 241 :: t 242 :: t 243 :: t 244 :: t 245 :: t 246 :: t 247 :: t 248 :: t 249 :: t 250 :: t 251 :: t 252 :: t 253 :: t 254 :: t 255 :: t 256 :: t 257 :: t 258 :: t 259 :: t 260 :: t 261 :: t 262 :: t 263 :: t 264 :: t 265 :: t 266 :: t 267 :: t 268 :: t 269 :: t 270 :: t 271 :: t 272 :: t 273 :: t 274 :: t 275 :: t 276 :: t 277 :: t 278 :: t 279 :: t 280 :: t 281 :: t 282 :: t 283 :: t 284 :: t 285 :: t 286 :: t 287 :: t 288 :: t 289 :: t 290 :: t 291 :: t 292 :: t 293 :: t 294 :: t 295 :: t 296 :: t 297 :: t 298 :: t 299 :: t 300 :: t 301 :: [] : List Value)).toArray, []⟩ := by
  obtain ⟨⟨l⟩, df⟩ := a
  obtain ⟨hs, hd, hp⟩ := h
  simp only at hd hp
  subst hd
  have hl : l.length = 302 := hs
  obtain ⟨t, ht⟩ : ∃ t : Nat → Value, ∀ k, l.getD k undef = t k := ⟨_, fun _ => rfl⟩
  refine ⟨t, ?_⟩
  have h3 : l.drop 25 = (List.range' 25 277).map t := by
    apply List.ext_getElem
    · simp [hl]
    · intro i h1 h2
      rw [List.getElem_drop, List.getElem_map, List.getElem_range', ← ht, Nat.one_mul]
      simp only [List.length_drop] at h1
      rw [List.getD_eq_getElem?_getD, List.getElem?_eq_getElem (by omega)]; rfl
  have h2 : l = l.take 25 ++ l.drop 25 := (List.take_append_drop 25 l).symm
  rw [hp, h3] at h2
  have h4 : [e0, e1, e2, e3, e4, e5, e6, e7, e8, e9, e10, e11, e12, e13, e14, e15, e16, e17, e18, e19, e20, e21, e22, e23, e24] ++ (List.range' 25 277).map t = e0 :: e1 :: e2 :: e3 :: e4 :: e5 :: e6 :: e7 :: e8 :: e9 :: e10 :: e11 :: e12 :: e13 :: e14 :: e15 :: e16 :: e17 :: e18 :: e19 :: e20 :: e21 :: e22 :: e23 :: e24 :: t 25 :: t 26 :: t 27 :: t 28 :: t 29 :: t 30 :: t 31 :: t 32 :: t 33 :: t 34 :: t 35 :: t 36 :: t 37 :: t 38 :: t 39 :: t 40 :: t 41 :: t 42 :: t 43 :: t 44 :: t 45 :: t 46 :: t 47 :: t 48 :: t 49 :: t 50 :: t 51 :: t 52 :: t 53 :: t 54 :: t 55 :: t 56 :: t 57 :: t 58 :: t 59 :: t 60 :: t 61 :: t 62 :: t 63 :: t 64 :: t 65 :: t 66 :: t 67 :: t 68 :: t 69 :: t 70 :: t 71 :: t 72 :: t 73 :: t 74 :: t 75 :: t 76 :: t 77 :: t 78 :: t 79 :: t 80 :: t 81 :: t 82 :: t 83 :: t 84 :: t 85 :: t 86 :: t 87 :: t 88 :: t 89 :: t 90 :: t 91 :: t 92 :: t 93 :: t 94 :: t 95 :: t 96 :: t 97 :: t 98 :: t 99 :: t 100 :: t 101 :: t 102 :: t 103 :: t 104 :: t 105 :: t 106 :: t 107 :: t 108 :: t 109 :: t 110 :: t 111 :: t 112 :: t 113 :: t 114 :: t 115 :: t 116 :: t 117 :: t 118 :: t 119 :: t 120 :: t 121 :: t 122 :: t 123 :: t 124 :: t 125 :: t 126 :: t 127 :: t 128 :: t 129 :: t 130 :: t 131 :: t 132 :: t 133 :: t 134 :: t 135 :: t 136 :: t 137 :: t 138 :: t 139 :: t 140 :: t 141 :: t 142 :: t 143 :: t 144 :: t 145 :: t 146 :: t 147 :: t 148 :: t 149 :: t 150 :: t 151 :: t 152 :: t 153 :: t 154 :: t 155 :: t 156 :: t 157 :: t 158 :: t 159 :: t 160 :: t 161 :: t 162 :: t 163 :: t 164 :: t 165 :: t 166 :: t 167 :: t 168 :: t 169 :: t 170 :: t 171 :: t 172 :: t 173 :: t 174 :: t 175 :: t 176 :: t 177 :: t 178 :: t 179 :: t 180 :: t 181 :: t 182 :: t 183 :: t 184 :: t 185 :: t 186 :: t 187 :: t 188 :: t 189 :: t 190 :: t 191 :: t 192 :: t 193 :: t 194 :: t 195 :: t 196 :: t 197 :: t 198 :: t 199 :: t 200 :: t 201 :: t 202 :: t 203 :: t 204 :: t 205 :: t 206 :: t 207 :: t 208 :: t 209 :: t 210 :: t 211 :: t 212 :: t 213 :: t 214 :: t 215 :: t 216 :: t 217 :: t 218 :: t 219 :: t 220 :: t 221 :: t 222 :: t 223 :: t 224 :: t 225 :: t 226 :: t 227 :: t 228 :: t 229 :: t 230 :: t 231 :: t 232 :: t 233 :: t 234 :: t 235 :: t 236 :: t 237 :: t 238 :: t 239 :: t 240 :: t 241 :: t 242 :: t 243 :: t 244 :: t 245 :: t 246 :: t 247 :: t 248 :: t 249 :: t 250 :: t 251 :: t 252 :: t 253 :: t 254 :: t 255 :: t 256 :: t 257 :: t 258 :: t 259 :: t 260 :: t 261 :: t 262 :: t 263 :: t 264 :: t 265 :: t 266 :: t 267 :: t 268 :: t 269 :: t 270 :: t 271 :: t 272 :: t 273 :: t 274 :: t 275 :: t 276 :: t 277 :: t 278 :: t 279 :: t 280 :: t 281 :: t 282 :: t 283 :: t 284 :: t 285 :: t 286 :: t 287 :: t 288 :: t 289 :: t 290 :: t 291 :: t 292 :: t 293 :: t 294 :: t 295 :: t 296 :: t 297 :: t 298 :: t 299 :: t 300 :: t 301 :: [] := by kernel_rfl
  rw [h4] at h2
  rw [h2]
/-- what holds between rounds. -/
def Rel16 (w : World) (n sF sD sI sW sR sO : Nat) (P : Value → Value → List Value) (a : Act) (wr : World) : Prop :=
  ∃ (v14 v15 : Value) (i bg n1 k1 n2 k2 n3 k3 : Nat) (C1 C2 C3 : Option Addr) (F : Nat → MFr) (D : Nat → Int) (I W : Nat → Bool) (x0 x1 x2 x3 x4 x5 : Int) (r1 r2 r3 : List Nat), Fra a 16 (P v14 v15) ∧ Hid (v14 = .int .i64 (bg : Int) ∧ v15 = .int .i64 (i : Int)) ∧ i ≤ n ∧ bg ≤ i ∧ n1 ≤ i ∧ n2 ≤ i ∧ n3 ≤ i ∧ Hid (W 5 = false) ∧ Hid (TR w wr sF sD sI sW sR sO F D I W (.slice C1 n1 k1) (.slice C2 n2 k2) (.slice C3 n3 k3) x0 x1 x2 x3 x4 x5) ∧ Hid (R3 wr w.heap.size (.slice C1 n1 k1) (.slice C2 n2 k2) (.slice C3 n3 k3) n1 n2 n3 (nats r1) (nats r2) (nats r3)) ∧ Hid (RInv x0 x1 x2 x3 x4 x5 F D I W r1 r2 r3)
end Go.Proofs.Ytpkegfochfkkcaa
