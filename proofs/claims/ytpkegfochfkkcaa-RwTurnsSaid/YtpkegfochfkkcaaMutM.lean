/- Layer 15: of tasks that lock and unlock for ever at most one is inside, till it begins to unlock; no condition but those in each theorem. -/
import Derived.Test.YtpkegfochfkkcaaMutA
namespace Go.Proofs.Ytpkegfochfkkcaa
set_option linter.unusedVariables false
set_option linter.unusedSimpArgs false

theorem bit0 {w : Int} : hasBit w 0 ↔ w % 2 = 1 := by unfold hasBit; show w / 1 % 2 = 1 ↔ _; omega
theorem bit1 {w : Int} : hasBit w 1 ↔ w / 2 % 2 = 1 := Iff.rfl
theorem bit2 {w : Int} : hasBit w 2 ↔ w / 4 % 2 = 1 := Iff.rfl
/-- what a task of a frame, that is inside or not, counts as. -/
def holdI (f : MFr) (b : Bool) : Nat := if b = true ∧ f.phase = 0 then 1 else 0
def tokI (f : MFr) (b : Bool) : Nat := if (b = true ∧ (f.phase = 2 ∨ f.phase = 3)) ∨ (b = false ∧ ((f.phase = 3 ∧ f.need = 0) ∨ f.phase = 4 ∨ (f.awoke = true ∧ (f.phase = 1 ∨ f.phase = 2)))) then 1 else 0
def p34I (f : MFr) (b : Bool) : Nat := if b = false ∧ (f.phase = 3 ∨ f.phase = 4) then 1 else 0
def tnI (f : MFr) (b : Bool) : Nat := if (b = true ∧ f.phase = 3) ∨ (b = false ∧ f.phase = 3 ∧ f.need = 0) then 1 else 0
def sumI (g : MFr → Bool → Nat) (F : Nat → MFr) (I : Nat → Bool) : Nat := sum6 (fun k => g (F k) (I k))
def good0 (f : MFr) (b : Bool) : Prop := ¬ (b = true ∧ f.phase = 2) ∧ ¬ (b = false ∧ f.phase = 4)
def good1 (f : MFr) (b : Bool) : Prop := ¬ (b = true ∧ f.phase = 3) ∧ ¬ (b = false ∧ f.awoke = true ∧ (f.phase = 1 ∨ f.phase = 2))
structure FrOk (f : MFr) (b : Bool) : Prop where
  inn : b = true → f.need = 0 ∧ (f.phase = 0 ∨ f.phase = 1 ∨ f.phase = 2 ∨ f.phase = 3) ∧ f.op = 27
  out : b = false → (f.phase = 0 ∨ f.phase = 1 ∨ f.phase = 2 ∨ f.phase = 3 ∨ f.phase = 4) ∧ (0 < f.need → f.phase = 3) ∧ ((f.phase = 1 ∨ f.phase = 2) → f.starve = true → f.awoke = true) ∧ (f.phase = 0 → f.starve = false ∧ f.awoke = false)
  need : 0 ≤ f.need
structure MInv (w s : Int) (F : Nat → MFr) (I W : Nat → Bool) (row : List Nat) : Prop where
  w0 : 0 ≤ w
  s0 : 0 ≤ s
  H : ((sumI holdI F I : Nat) : Int) = w % 2
  T0 : w / 4 % 2 = 0 → ((sumI tokI F I : Nat) : Int) + s = w / 2 % 2
  T1 : w / 4 % 2 = 1 → ((sumI tokI F I : Nat) : Int) + s = 1 - w % 2
  B : w / 4 % 2 = 1 → w / 2 % 2 = 0
  C0 : w / 4 % 2 = 0 → ((sumI p34I F I : Nat) : Int) = w / 8 + ((sumI tnI F I : Nat) : Int) + s
  C1 : w / 4 % 2 = 1 → ((sumI p34I F I : Nat) : Int) = w / 8
  M0 : ∀ k, k < 6 → w / 4 % 2 = 0 → good0 (F k) (I k)
  M1 : ∀ k, k < 6 → w / 4 % 2 = 1 → good1 (F k) (I k)
  ok : ∀ k, k < 6 → FrOk (F k) (I k)
  R1 : row.Nodup
  R2 : ∀ k, k ∈ row ↔ k < 6 ∧ W k = true
  R3 : ∀ k, k < 6 → W k = true → I k = false ∧ (F k).phase = 3 ∧ 0 < (F k).need
theorem tok_good {f : MFr} {b : Bool} (h : tokI f b = 0) : good0 f b ∧ good1 f b := by
  unfold tokI at h
  split at h
  · cases h
  · rename_i hn
    refine ⟨⟨fun h1 => hn (Or.inl ⟨h1.1, Or.inl h1.2⟩), fun h1 => hn (Or.inr ⟨h1.1, Or.inr (Or.inl h1.2)⟩)⟩, ⟨fun h1 => hn (Or.inl ⟨h1.1, Or.inr h1.2⟩), fun h1 => hn (Or.inr ⟨h1.1, Or.inr (Or.inr h1.2)⟩)⟩⟩
theorem tn_tok (f : MFr) (b : Bool) : tnI f b ≤ tokI f b := by
  unfold tnI tokI
  split
  · rename_i h
    rw [if_pos]
    · exact Nat.le_refl _
    · rcases h with h | h
      · exact Or.inl ⟨h.1, Or.inr h.2⟩
      · exact Or.inr ⟨h.1, Or.inl h.2⟩
  · exact Nat.zero_le _
theorem one_le (g : MFr → Bool → Nat) (hg : ∀ f b, g f b ≤ 1) (F : Nat → MFr) (I : Nat → Bool) : sumI g F I ≤ 6 := sum6_le (m := 1) (fun k _ => hg _ _)
theorem p34_le (f : MFr) (b : Bool) : p34I f b ≤ 1 := by unfold p34I; split <;> omega
section
variable {w s : Int} {F : Nat → MFr} {I W : Nat → Bool} {row : List Nat} {t : Nat}
theorem sumI_upd (g : MFr → Bool → Nat) (ht : t < 6) (f' : MFr) (b' : Bool) : sumI g (updN F t f') (updN I t b') + g (F t) (I t) = sumI g F I + g f' b' := by
  have h := sum6_upd (g := fun k => g (updN F t f' k) (updN I t b' k)) (h := fun k => g (F k) (I k)) ht (fun k hk => by simp only [updN_ne hk])
  simp only [updN_self] at h
  exact h
theorem MInv.small (h : MInv w s F I W row) : w ≤ 55 := by
  have h1 := h.C0; have h3 := h.C1
  have h2 := one_le p34I p34_le F I
  have h4 := h.s0
  omega
theorem sumI_ge (g : MFr → Bool → Nat) (F : Nat → MFr) (I : Nat → Bool) (ht : t < 6) : g (F t) (I t) ≤ sumI g F I := sum6_ge (g := fun k => g (F k) (I k)) ht
theorem sum_tok_zero {F : Nat → MFr} {I : Nat → Bool} (h : sumI tokI F I = 0) (k : Nat) (hk : k < 6) : good0 (F k) (I k) ∧ good1 (F k) (I k) := by
  have h1 := sumI_ge tokI F I hk
  exact tok_good (by omega)
theorem tn_part (F : Nat → MFr) (I : Nat → Bool) (ht : t < 6) : sumI tnI F I + tokI (F t) (I t) ≤ sumI tokI F I + tnI (F t) (I t) := by
  unfold sumI sum6
  dsimp only
  have h0 := tn_tok (F 0) (I 0); have h1 := tn_tok (F 1) (I 1); have h2 := tn_tok (F 2) (I 2); have h3 := tn_tok (F 3) (I 3); have h4 := tn_tok (F 4) (I 4); have h5 := tn_tok (F 5) (I 5)
  rcases (by omega : t = 0 ∨ t = 1 ∨ t = 2 ∨ t = 3 ∨ t = 4 ∨ t = 5) with rfl | rfl | rfl | rfl | rfl | rfl <;> omega
/-- one task's frame, and whether it is inside, change: what must be shown; by what each counts as. -/
theorem MInv.num (h : MInv w s F I W row) (ht : t < 6) (hW : W t = false) (f' : MFr) (b' : Bool) (w' s' : Int) {ho ht0 hp hn ho' ht' hp' hn' : Nat}
    (a : holdI (F t) (I t) = ho ∧ tokI (F t) (I t) = ht0 ∧ p34I (F t) (I t) = hp ∧ tnI (F t) (I t) = hn)
    (b : holdI f' b' = ho' ∧ tokI f' b' = ht' ∧ p34I f' b' = hp' ∧ tnI f' b' = hn') (ok : FrOk f' b') (g : (w' / 4 % 2 = 0 → good0 f' b') ∧ (w' / 4 % 2 = 1 → good1 f' b'))
    (num : ∀ (H T P N : Nat), w ≤ 55 → 0 ≤ w → 0 ≤ s → (H : Int) = w % 2 → (w / 4 % 2 = 0 → (T : Int) + s = w / 2 % 2) → (w / 4 % 2 = 1 → (T : Int) + s = 1 - w % 2) → (w / 4 % 2 = 1 → w / 2 % 2 = 0) → (w / 4 % 2 = 0 → (P : Int) = w / 8 + (N : Int) + s) → (w / 4 % 2 = 1 → (P : Int) = w / 8) → ho ≤ H → ht0 ≤ T → hp ≤ P → hn ≤ N → N + ht0 ≤ T + hn →
      0 ≤ w' ∧ 0 ≤ s' ∧ (H : Int) + ho' = w' % 2 + ho ∧ (w' / 4 % 2 = 0 → (T : Int) + ht' + s' = w' / 2 % 2 + ht0) ∧ (w' / 4 % 2 = 1 → (T : Int) + ht' + s' = 1 - w' % 2 + ht0) ∧ (w' / 4 % 2 = 1 → w' / 2 % 2 = 0) ∧ (w' / 4 % 2 = 0 → (P : Int) + hp' = w' / 8 + hp + (N + hn' - hn) + s') ∧ (w' / 4 % 2 = 1 → (P : Int) + hp' = w' / 8 + hp) ∧ (w' / 4 % 2 = w / 4 % 2 ∨ T + ht' = ht0)) :
    MInv w' s' (updN F t f') (updN I t b') W row := by
  obtain ⟨a1, a2, a3, a4⟩ := a; obtain ⟨b1, b2, b3, b4⟩ := b
  have g1 := sumI_ge holdI F I ht; have g2 := sumI_ge tokI F I ht; have g3 := sumI_ge p34I F I ht; have g4 := sumI_ge tnI F I ht
  have g5 := tn_part F I ht
  rw [a1] at g1; rw [a2] at g2 g5; rw [a3] at g3; rw [a4] at g4 g5
  obtain ⟨n1, n2, n3, n4, n5, n6, n7, n8, n9⟩ := num _ _ _ _ h.small h.w0 h.s0 h.H h.T0 h.T1 h.B h.C0 h.C1 g1 g2 g3 g4 g5
  have e1 := sumI_upd (F := F) (I := I) holdI ht f' b'
  have e2 := sumI_upd (F := F) (I := I) tokI ht f' b'
  have e3 := sumI_upd (F := F) (I := I) p34I ht f' b'
  have e4 := sumI_upd (F := F) (I := I) tnI ht f' b'
  rw [a1, b1] at e1; rw [a2, b2] at e2; rw [a3, b3] at e3; rw [a4, b4] at e4
  refine ⟨n1, n2, by omega, by omega, by omega, n6, by omega, by omega, fun k hk hm => ?_, fun k hk hm => ?_, fun k hk => ?_, h.R1, h.R2, fun k hk hw => ?_⟩
  · by_cases e : k = t
    · subst e; rw [updN_self, updN_self]; exact g.1 hm
    · rcases n9 with M | M
      · rw [updN_ne e, updN_ne e]; exact h.M0 k hk (by omega)
      · exact (sum_tok_zero (by omega) k hk).1
  · by_cases e : k = t
    · subst e; rw [updN_self, updN_self]; exact g.2 hm
    · rcases n9 with M | M
      · rw [updN_ne e, updN_ne e]; exact h.M1 k hk (by omega)
      · exact (sum_tok_zero (by omega) k hk).2
  · by_cases e : k = t
    · subst e; rw [updN_self, updN_self]; exact ok
    · rw [updN_ne e, updN_ne e]; exact h.ok k hk
  · have e : k ≠ t := fun e => by subst e; rw [hW] at hw; cases hw
    rw [updN_ne e, updN_ne e]; exact h.R3 k hk hw
/-- nobody holds it. -/
theorem MInv.none (h : MInv w s F I W row) (hw : w % 2 = 0) : ∀ k, k < 6 → I k = true → (F k).phase ≠ 0 := by
  intro k hk hi hp
  have h1 := sumI_ge holdI F I hk
  have h2 := h.H
  have h3 : holdI (F k) (I k) = 1 := by unfold holdI; rw [if_pos ⟨hi, hp⟩]
  omega
/-- what a step of locking comes to. -/
def LockTo (w s : Int) (F : Nat → MFr) (I W : Nat → Bool) (row : List Nat) (t : Nat) (r : Int × MFr × MAct) : Prop :=
  (r.2.2 = doneA ∧ MInv r.1 s (updN F t (beginF 27)) (updN I t true) W row ∧ ∀ k, k < 6 → I k = true → (F k).phase ≠ 0) ∨ (r.2.2 = noA ∧ MInv r.1 s (updN F t r.2.1) (updN I t false) W row)
theorem frb : FrOk (beginF 27) true := ⟨fun _ => ⟨rfl, Or.inl rfl, rfl⟩, fun h => (by cases h), Int.le_refl 0⟩
theorem frn : FrOk noF false := ⟨fun h => (by cases h), fun _ => ⟨Or.inl rfl, fun h => (by cases h), fun h => (by rcases h with h | h <;> cases h), fun _ => ⟨rfl, rfl⟩⟩, Int.le_refl 0⟩
theorem evb : holdI (beginF 27) true = 1 ∧ tokI (beginF 27) true = 0 ∧ p34I (beginF 27) true = 0 ∧ tnI (beginF 27) true = 0 := by decide
theorem evn : holdI noF false = 0 ∧ tokI noF false = 0 ∧ p34I noF false = 0 ∧ tnI noF false = 0 := by decide
theorem gdb : good0 (beginF 27) true ∧ good1 (beginF 27) true := tok_good evb.2.1
theorem gdn : good0 noF false ∧ good1 noF false := tok_good evn.2.1
def MEv (f : MFr) (b : Bool) (a1 a2 a3 a4 : Nat) : Prop := holdI f b = a1 ∧ tokI f b = a2 ∧ p34I f b = a3 ∧ tnI f b = a4
set_option maxHeartbeats 4000000 in
theorem MInv.lock (h : MInv w s F I W row) (ht : t < 6) (hW : W t = false) (hIt : I t = false) (hn : (F t).need = 0) (now pat : Int) : LockTo w s F I W row t (lockM w (F t) now pat) := by
  have hs := h.small; have hw0 := h.w0
  have o := (h.ok t ht).out hIt
  have m0 := h.M0 t ht; have m1 := h.M1 t ht
  obtain ⟨⟨op, stage, phase, old, since, left, awoke, starve, need, front⟩, hf⟩ : ∃ f, F t = f := ⟨_, rfl⟩
  rw [hf] at o hn m0 m1 ⊢
  rw [hIt] at m0 m1
  simp only at o hn
  subst hn
  obtain ⟨o1, o2, o3, o4⟩ := o
  have ev : ∀ a1 a2 a3 a4, MEv ⟨op, stage, phase, old, since, left, awoke, starve, 0, front⟩ false a1 a2 a3 a4 → holdI (F t) (I t) = a1 ∧ tokI (F t) (I t) = a2 ∧ p34I (F t) (I t) = a3 ∧ tnI (F t) (I t) = a4 := by
    intro a1 a2 a3 a4 e; rw [hf, hIt]; exact e
  rcases o1 with rfl | rfl | rfl | rfl | rfl
  · obtain ⟨rfl, rfl⟩ := o4 rfl
    have e0 := ev 0 0 0 0 ⟨rfl, rfl, rfl, rfl⟩
    by_cases hw : w = 0
    · have hr : lockM w ⟨op, stage, 0, old, since, left, false, false, 0, front⟩ now pat = (1, noF, doneA) := by unfold lockM; rw [if_pos ⟨rfl, hw⟩]
      rw [hr]
      exact Or.inl ⟨rfl, h.num ht hW _ _ 1 s e0 evb frb ⟨fun _ => gdb.1, fun _ => gdb.2⟩ (by intro H T P N; omega), h.none (by omega)⟩
    · have hr : lockM w ⟨op, stage, 0, old, since, left, false, false, 0, front⟩ now pat = (w, ⟨op, stage, 1, old, since, left, false, false, 0, front⟩, noA) := by unfold lockM; rw [if_neg (fun h => hw h.2), if_pos (Or.inl rfl)]
      rw [hr]
      have hb : MEv ⟨op, stage, 1, old, since, left, false, false, 0, front⟩ false 0 0 0 0 := ⟨rfl, rfl, rfl, rfl⟩
      exact Or.inr ⟨rfl, h.num ht hW _ _ w s e0 hb ⟨fun h => (by cases h), fun _ => ⟨Or.inr (Or.inl rfl), fun h => (by cases h), fun _ h => h, fun h => (by cases h)⟩, Int.le_refl 0⟩ ⟨fun _ => (tok_good hb.2.1).1, fun _ => (tok_good hb.2.1).2⟩ (by intro H T P N; omega)⟩
  · have hr : lockM w ⟨op, stage, 1, old, since, left, awoke, starve, 0, front⟩ now pat = (w, ⟨op, stage, 2, w, since, left, awoke, starve, 0, front⟩, noA) := by
      unfold lockM
      rw [if_neg (fun h => (by cases h.1)), if_neg (fun h => by rcases h with h | h; cases h; cases h.1), if_pos rfl]
    rw [hr]
    have ho : FrOk ⟨op, stage, 2, w, since, left, awoke, starve, 0, front⟩ false := ⟨fun h => (by cases h), fun _ => ⟨Or.inr (Or.inr (Or.inl rfl)), fun h => (by cases h), fun _ h => o3 (Or.inl rfl) h, fun h => (by cases h)⟩, Int.le_refl 0⟩
    have hg : w / 4 % 2 = 1 → good1 ⟨op, stage, 2, w, since, left, awoke, starve, 0, front⟩ false := fun hm => ⟨fun h => (by cases h.1), fun h => (m1 hm).2 ⟨rfl, h.2.1, Or.inl rfl⟩⟩
    cases awoke
    · have hb : MEv ⟨op, stage, 2, w, since, left, false, starve, 0, front⟩ false 0 0 0 0 := ⟨rfl, rfl, rfl, rfl⟩
      exact Or.inr ⟨rfl, h.num ht hW _ _ w s (ev 0 0 0 0 ⟨rfl, rfl, rfl, rfl⟩) hb ho ⟨fun _ => ⟨fun h => (by cases h.1), fun h => (by cases h.2)⟩, hg⟩ (by intro H T P N; omega)⟩
    · have hb : MEv ⟨op, stage, 2, w, since, left, true, starve, 0, front⟩ false 0 1 0 0 := ⟨rfl, rfl, rfl, rfl⟩
      exact Or.inr ⟨rfl, h.num ht hW _ _ w s (ev 0 1 0 0 ⟨rfl, rfl, rfl, rfl⟩) hb ho ⟨fun _ => ⟨fun h => (by cases h.1), fun h => (by cases h.2)⟩, hg⟩ (by intro H T P N; omega)⟩
  · by_cases hw : w = old
    · subst hw
      by_cases hb2 : ¬ hasBit w 0 ∧ ¬ hasBit w 2
      · have hr : lockM w ⟨op, stage, 2, w, since, left, awoke, starve, 0, front⟩ now pat = (stateM ⟨op, stage, 2, w, since, left, awoke, starve, 0, front⟩, noF, doneA) := by
          unfold lockM
          rw [if_neg (fun h => (by cases h.1)), if_neg (fun h => by rcases h with h | h; cases h; exact h.2 rfl), if_neg (by simp only; omega), if_pos rfl, if_pos hb2]
        rw [hr]
        have q0 : ¬ w % 2 = 1 := fun h => hb2.1 (bit0.2 h)
        have q2 : ¬ w / 4 % 2 = 1 := fun h => hb2.2 (bit2.2 h)
        have hst : stateM ⟨op, stage, 2, w, since, left, awoke, starve, 0, front⟩ = w + 1 - (if awoke = true ∧ hasBit w 1 then 2 else 0) := by
          unfold stateM
          simp only
          rw [if_pos ⟨hb2.2, hb2.1⟩, if_neg (by intro h; rcases h with h | h; exact hb2.1 h; exact hb2.2 h), if_neg (fun h => hb2.1 h.2.1), IntKind.wrap_i64]
          split <;> omega
        refine Or.inl ⟨rfl, ?_, h.none (by omega)⟩
        show MInv (stateM _) s _ _ W row
        rw [hst]
        cases awoke
        · rw [if_neg (fun h => (by cases h.1))]
          exact h.num ht hW _ _ _ s (ev 0 0 0 0 ⟨rfl, rfl, rfl, rfl⟩) evb frb ⟨fun _ => gdb.1, fun _ => gdb.2⟩ (by intro H T P N; omega)
        · by_cases q1 : w / 2 % 2 = 1
          · rw [if_pos ⟨rfl, bit1.2 q1⟩]
            exact h.num ht hW _ _ _ s (ev 0 1 0 0 ⟨rfl, rfl, rfl, rfl⟩) evb frb ⟨fun _ => gdb.1, fun _ => gdb.2⟩ (by intro H T P N; omega)
          · rw [if_neg (fun h => q1 (bit1.1 h.2))]
            exact h.num ht hW _ _ _ s (ev 0 1 0 0 ⟨rfl, rfl, rfl, rfl⟩) evb frb ⟨fun _ => gdb.1, fun _ => gdb.2⟩ (by intro H T P N; omega)
      · obtain ⟨fr, hfr⟩ : ∃ b, decide (0 ≤ since) = b := ⟨_, rfl⟩
        obtain ⟨si, hsi⟩ : ∃ x, (if since < 0 then now else since) = x := ⟨_, rfl⟩
        have hr : lockM w ⟨op, stage, 2, w, since, left, awoke, starve, 0, front⟩ now pat = (stateM ⟨op, stage, 2, w, since, left, awoke, starve, 0, front⟩, ⟨op, stage, 3, w, si, left, awoke, starve, 2, fr⟩, noA) := by
          unfold lockM
          rw [if_neg (fun h => (by cases h.1)), if_neg (fun h => by rcases h with h | h; cases h; exact h.2 rfl), if_neg (by simp only; omega), if_pos rfl, if_neg hb2]
          simp only [hfr, hsi]
        rw [hr]
        have hb : MEv ⟨op, stage, 3, w, si, left, awoke, starve, 2, fr⟩ false 0 0 1 0 := by cases awoke <;> exact ⟨rfl, rfl, rfl, rfl⟩
        have ho : FrOk ⟨op, stage, 3, w, si, left, awoke, starve, 2, fr⟩ false := ⟨fun h => (by cases h), fun _ => ⟨Or.inr (Or.inr (Or.inr (Or.inl rfl))), fun _ => rfl, fun h => (by rcases h with h | h <;> cases h), fun h => (by cases h)⟩, (by show (0 : Int) ≤ 2; decide)⟩
        have hgd : good0 ⟨op, stage, 3, w, si, left, awoke, starve, 2, fr⟩ false ∧ good1 ⟨op, stage, 3, w, si, left, awoke, starve, 2, fr⟩ false := tok_good hb.2.1
        have q02 : w % 2 = 1 ∨ w / 4 % 2 = 1 := by
          rcases (by omega : w % 2 = 1 ∨ ¬ w % 2 = 1) with h1 | h1
          · exact Or.inl h1
          · exact Or.inr (Classical.byContradiction fun h2 => hb2 ⟨fun h => h1 (bit0.1 h), fun h => h2 (bit2.1 h)⟩)
        have hst : stateM ⟨op, stage, 2, w, since, left, awoke, starve, 0, front⟩ = w + 8 + (if starve = true ∧ hasBit w 0 ∧ ¬ hasBit w 2 then 4 else 0) - (if awoke = true ∧ hasBit w 1 then 2 else 0) := by
          unfold stateM
          simp only
          rw [if_neg (fun h => hb2 ⟨h.2, h.1⟩), if_pos (q02.elim (fun h => Or.inl (bit0.2 h)) (fun h => Or.inr (bit2.2 h))), IntKind.wrap_i64]
          split <;> split <;> omega
        refine Or.inr ⟨rfl, ?_⟩
        show MInv (stateM _) s _ _ W row
        rw [hst]
        cases awoke
        · rw [if_neg (show ¬ (false = true ∧ hasBit w 1) from fun h => (by cases h.1)), if_neg (fun h => by have := o3 (Or.inr rfl) h.1; cases this)]
          exact h.num ht hW _ _ _ s (ev 0 0 0 0 ⟨rfl, rfl, rfl, rfl⟩) hb ho ⟨fun _ => hgd.1, fun _ => hgd.2⟩ (by intro H T P N; omega)
        · have q2 : ¬ w / 4 % 2 = 1 := fun h => (m1 h).2 ⟨rfl, rfl, Or.inr rfl⟩
          have q0 : w % 2 = 1 := by omega
          by_cases q1 : w / 2 % 2 = 1
          · rw [if_pos (show true = true ∧ hasBit w 1 from ⟨rfl, bit1.2 q1⟩)]
            by_cases q3 : starve = true
            · rw [if_pos ⟨q3, bit0.2 q0, fun h => q2 (bit2.1 h)⟩]
              exact h.num ht hW _ _ _ s (ev 0 1 0 0 ⟨rfl, rfl, rfl, rfl⟩) hb ho ⟨fun _ => hgd.1, fun _ => hgd.2⟩ (by intro H T P N; omega)
            · rw [if_neg (fun h => q3 h.1)]
              exact h.num ht hW _ _ _ s (ev 0 1 0 0 ⟨rfl, rfl, rfl, rfl⟩) hb ho ⟨fun _ => hgd.1, fun _ => hgd.2⟩ (by intro H T P N; omega)
          · exfalso
            have g2 := sumI_ge tokI F I ht
            have e2 : tokI (F t) (I t) = 1 := (ev 0 1 0 0 ⟨rfl, rfl, rfl, rfl⟩).2.1
            have h5 := h.T0; have h6 := h.s0
            omega
    · have hr : lockM w ⟨op, stage, 2, old, since, left, awoke, starve, 0, front⟩ now pat = (w, ⟨op, stage, 1, old, since, left, awoke, starve, 0, front⟩, noA) := by
        unfold lockM
        rw [if_neg (fun h => (by cases h.1)), if_pos (Or.inr ⟨rfl, hw⟩)]
      rw [hr]
      have ho : FrOk ⟨op, stage, 1, old, since, left, awoke, starve, 0, front⟩ false := ⟨fun h => (by cases h), fun _ => ⟨Or.inr (Or.inl rfl), fun h => (by cases h), fun _ h => o3 (Or.inr rfl) h, fun h => (by cases h)⟩, Int.le_refl 0⟩
      have hg : w / 4 % 2 = 1 → good1 ⟨op, stage, 1, old, since, left, awoke, starve, 0, front⟩ false := fun hm => ⟨fun h => (by cases h.1), fun h => (m1 hm).2 ⟨rfl, h.2.1, Or.inr rfl⟩⟩
      cases awoke
      · have hb : MEv ⟨op, stage, 1, old, since, left, false, starve, 0, front⟩ false 0 0 0 0 := ⟨rfl, rfl, rfl, rfl⟩
        exact Or.inr ⟨rfl, h.num ht hW _ _ w s (ev 0 0 0 0 ⟨rfl, rfl, rfl, rfl⟩) hb ho ⟨fun _ => ⟨fun h => (by cases h.1), fun h => (by cases h.2)⟩, hg⟩ (by intro H T P N; omega)⟩
      · have hb : MEv ⟨op, stage, 1, old, since, left, true, starve, 0, front⟩ false 0 1 0 0 := ⟨rfl, rfl, rfl, rfl⟩
        exact Or.inr ⟨rfl, h.num ht hW _ _ w s (ev 0 1 0 0 ⟨rfl, rfl, rfl, rfl⟩) hb ho ⟨fun _ => ⟨fun h => (by cases h.1), fun h => (by cases h.2)⟩, hg⟩ (by intro H T P N; omega)⟩
  · have e0 : MEv ⟨op, stage, 3, old, since, left, awoke, starve, 0, front⟩ false 0 1 1 1 := by cases awoke <;> exact ⟨rfl, rfl, rfl, rfl⟩
    obtain ⟨st, hst⟩ : ∃ b, (starve || decide (pat < IntKind.i64.wrap (now - since))) = b := ⟨_, rfl⟩
    have hr : lockM w ⟨op, stage, 3, old, since, left, awoke, starve, 0, front⟩ now pat = (w, ⟨op, stage, if hasBit w 2 then 4 else 2, w, since, left, awoke || decide (¬ hasBit w 2), st, 0, front⟩, noA) := by
      unfold lockM
      rw [if_neg (fun h => (by cases h.1)), if_neg (fun h => by rcases h with h | h; cases h; cases h.1), if_neg (by simp only; omega), if_neg (by simp only; omega), if_pos rfl]
      simp only [hst]
    rw [hr]
    refine Or.inr ⟨rfl, ?_⟩
    show MInv w s (updN F t _) _ W row
    by_cases q2 : hasBit w 2
    · have q := bit2.1 q2
      rw [if_pos q2, decide_eq_false (fun h => h q2), Bool.or_false]
      have hb : MEv ⟨op, stage, 4, w, since, left, awoke, st, 0, front⟩ false 0 1 1 0 := by cases awoke <;> exact ⟨rfl, rfl, rfl, rfl⟩
      exact h.num ht hW _ _ w s (ev _ _ _ _ e0) hb ⟨fun h => (by cases h), fun _ => ⟨Or.inr (Or.inr (Or.inr (Or.inr rfl))), fun h => (by cases h), fun h => (by rcases h with h | h <;> cases h), fun h => (by cases h)⟩, Int.le_refl 0⟩ ⟨fun h => (by omega), fun _ => ⟨fun h => (by cases h.1), fun h => (by rcases h.2.2 with h | h <;> cases h)⟩⟩ (by intro H T P N; omega)
    · have q : ¬ w / 4 % 2 = 1 := fun h => q2 (bit2.2 h)
      rw [if_neg q2, decide_eq_true q2, Bool.or_true]
      have hb : MEv ⟨op, stage, 2, w, since, left, true, st, 0, front⟩ false 0 1 0 0 := ⟨rfl, rfl, rfl, rfl⟩
      exact h.num ht hW _ _ w s (ev _ _ _ _ e0) hb ⟨fun h => (by cases h), fun _ => ⟨Or.inr (Or.inr (Or.inl rfl)), fun h => (by cases h), fun _ _ => rfl, fun h => (by cases h)⟩, Int.le_refl 0⟩ ⟨fun _ => ⟨fun h => (by cases h.1), fun h => (by cases h.2)⟩, fun h => absurd h q⟩ (by intro H T P N; omega)
  · have e0 : MEv ⟨op, stage, 4, old, since, left, awoke, starve, 0, front⟩ false 0 1 1 0 := by cases awoke <;> exact ⟨rfl, rfl, rfl, rfl⟩
    have q : w / 4 % 2 = 1 := Classical.byContradiction fun hq => (m0 (by omega)).2 ⟨rfl, rfl⟩
    have g2 := sumI_ge tokI F I ht; have g3 := sumI_ge p34I F I ht
    obtain ⟨_, x2, x3, _⟩ := ev _ _ _ _ e0
    have t1 := h.T1 q; have c1 := h.C1 q; have b1 := h.B q; have s0 := h.s0
    have hr : lockM w ⟨op, stage, 4, old, since, left, awoke, starve, 0, front⟩ now pat = (w - (if starve = false ∨ old / 8 = 1 then 11 else 7), noF, doneA) := by
      unfold lockM
      rw [if_neg (fun h => (by cases h.1)), if_neg (fun h => by rcases h with h | h; cases h; cases h.1), if_neg (by simp only; omega), if_neg (by simp only; omega), if_neg (by simp only; omega), if_pos rfl, IntKind.wrap_i64]
      congr 1
      simp only
      split <;> omega
    rw [hr]
    refine Or.inl ⟨rfl, ?_, h.none (by omega)⟩
    show MInv (w - _) s _ _ W row
    by_cases q3 : starve = false ∨ old / 8 = 1
    · rw [if_pos q3]
      exact h.num ht hW _ _ _ s (ev _ _ _ _ e0) evb frb ⟨fun _ => gdb.1, fun _ => gdb.2⟩ (by intro H T P N; omega)
    · rw [if_neg q3]
      exact h.num ht hW _ _ _ s (ev _ _ _ _ e0) evb frb ⟨fun _ => gdb.1, fun _ => gdb.2⟩ (by intro H T P N; omega)
/-- what a step of unlocking comes to. -/
def UnlockTo (w s : Int) (F : Nat → MFr) (I W : Nat → Bool) (row : List Nat) (t : Nat) (r : Int × MFr × MAct) : Prop :=
  r.2.2.fault = 0 ∧ ((r.2.2.give = 0 ∧ r.2.2.hand = false ∧ MInv r.1 s (updN F t r.2.1) (updN I t (!r.2.2.done)) W row) ∨ (r.2.2.give = 2 ∧ r.2.2.done = true ∧ MInv r.1 (s + 1) (updN F t r.2.1) (updN I t false) W row))
set_option maxHeartbeats 4000000 in
theorem MInv.unlock (h : MInv w s F I W row) (ht : t < 6) (hW : W t = false) (hIt : I t = true) : UnlockTo w s F I W row t (unlockM w (F t)) := by
  have hs := h.small; have hw0 := h.w0
  have o := (h.ok t ht).inn hIt
  have m0 := h.M0 t ht; have m1 := h.M1 t ht
  obtain ⟨⟨op, stage, phase, old, since, left, awoke, starve, need, front⟩, hf⟩ : ∃ f, F t = f := ⟨_, rfl⟩
  rw [hf] at o m0 m1 ⊢
  rw [hIt] at m0 m1
  simp only at o
  obtain ⟨rfl, o1, rfl⟩ := o
  have ev : ∀ a1 a2 a3 a4, MEv ⟨27, stage, phase, old, since, left, awoke, starve, 0, front⟩ true a1 a2 a3 a4 → holdI (F t) (I t) = a1 ∧ tokI (F t) (I t) = a2 ∧ p34I (F t) (I t) = a3 ∧ tnI (F t) (I t) = a4 := by
    intro a1 a2 a3 a4 e; rw [hf, hIt]; exact e
  have okk : ∀ ph ol, (ph = 0 ∨ ph = 1 ∨ ph = 2 ∨ ph = 3) → FrOk ⟨27, stage, ph, ol, since, left, awoke, starve, 0, front⟩ true := fun ph ol hp => ⟨fun _ => ⟨rfl, hp, rfl⟩, fun h => (by cases h), Int.le_refl 0⟩
  rcases o1 with rfl | rfl | rfl | rfl
  · have e0 := ev 1 0 0 0 ⟨rfl, rfl, rfl, rfl⟩
    have hh := sumI_ge holdI F I ht
    have h1 := h.H
    have q0 : w % 2 = 1 := by rw [e0.1] at hh; omega
    by_cases hw : w = 1
    · have hr : unlockM w ⟨27, stage, 0, old, since, left, awoke, starve, 0, front⟩ = (0, noF, doneA) := by unfold unlockM; rw [if_neg (fun h => h.2 (bit0.2 q0)), if_pos rfl, if_pos hw]
      rw [hr]
      exact ⟨rfl, Or.inl ⟨rfl, rfl, h.num ht hW _ _ 0 s e0 evn frn ⟨fun _ => gdn.1, fun _ => gdn.2⟩ (by intro H T P N; omega)⟩⟩
    · have hr : unlockM w ⟨27, stage, 0, old, since, left, awoke, starve, 0, front⟩ = (w - 1, ⟨27, stage, if hasBit w 2 then 2 else 1, w - 1, since, left, awoke, starve, 0, front⟩, noA) := by
        have hx : IntKind.i64.wrap (w - 1) = w - 1 := by rw [IntKind.wrap_i64]; omega
        unfold unlockM; rw [if_neg (fun h => h.2 (bit0.2 q0)), if_pos rfl, if_neg hw, hx]
      rw [hr]
      refine ⟨rfl, Or.inl ⟨rfl, rfl, ?_⟩⟩
      show MInv (w - 1) s (updN F t _) (updN I t true) W row
      by_cases q2 : hasBit w 2
      · have q := bit2.1 q2
        rw [if_pos q2]
        have hb : MEv ⟨27, stage, 2, w - 1, since, left, awoke, starve, 0, front⟩ true 0 1 0 0 := by cases awoke <;> exact ⟨rfl, rfl, rfl, rfl⟩
        exact h.num ht hW _ _ _ s e0 hb (okk _ _ (by omega)) ⟨fun h => (by omega), fun _ => ⟨fun h => (by cases h.2), fun h => (by cases h.1)⟩⟩ (by intro H T P N; omega)
      · have q : ¬ w / 4 % 2 = 1 := fun h => q2 (bit2.2 h)
        rw [if_neg q2]
        have hb : MEv ⟨27, stage, 1, w - 1, since, left, awoke, starve, 0, front⟩ true 0 0 0 0 := by cases awoke <;> exact ⟨rfl, rfl, rfl, rfl⟩
        exact h.num ht hW _ _ _ s e0 hb (okk _ _ (by omega)) ⟨fun _ => (tok_good hb.2.1).1, fun _ => (tok_good hb.2.1).2⟩ (by intro H T P N; omega)
  · have e0 := ev 0 0 0 0 (by cases awoke <;> exact ⟨rfl, rfl, rfl, rfl⟩)
    by_cases hd : old / 8 = 0 ∨ hasBit old 0 ∨ hasBit old 1 ∨ hasBit old 2
    · have hr : unlockM w ⟨27, stage, 1, old, since, left, awoke, starve, 0, front⟩ = (w, noF, doneA) := by unfold unlockM; rw [if_neg (fun h => (by cases h.1)), if_neg (by simp only; omega), if_pos rfl, if_pos hd]
      rw [hr]
      exact ⟨rfl, Or.inl ⟨rfl, rfl, h.num ht hW _ _ w s e0 evn frn ⟨fun _ => gdn.1, fun _ => gdn.2⟩ (by intro H T P N; omega)⟩⟩
    · by_cases hw : w = old
      · have hr : unlockM w ⟨27, stage, 1, old, since, left, awoke, starve, 0, front⟩ = (w - 6, ⟨27, stage, 3, old, since, left, awoke, starve, 0, front⟩, noA) := by
          have hx : IntKind.i64.wrap (w - 8 + 2) = w - 6 := by rw [IntKind.wrap_i64]; omega
          unfold unlockM; rw [if_neg (fun h => (by cases h.1)), if_neg (by simp only; omega), if_pos rfl, if_neg hd, if_neg (fun h => h hw), hx]
        rw [hr]
        subst hw
        have d0 : ¬ w / 8 = 0 := fun h => hd (Or.inl h)
        have d1 : ¬ w % 2 = 1 := fun h => hd (Or.inr (Or.inl (bit0.2 h)))
        have d2 : ¬ w / 2 % 2 = 1 := fun h => hd (Or.inr (Or.inr (Or.inl (bit1.2 h))))
        have d3 : ¬ w / 4 % 2 = 1 := fun h => hd (Or.inr (Or.inr (Or.inr (bit2.2 h))))
        have hb : MEv ⟨27, stage, 3, w, since, left, awoke, starve, 0, front⟩ true 0 1 0 1 := by cases awoke <;> exact ⟨rfl, rfl, rfl, rfl⟩
        exact ⟨rfl, Or.inl ⟨rfl, rfl, h.num ht hW _ _ _ s e0 hb (okk _ _ (by omega)) ⟨fun _ => ⟨fun h => (by cases h.2), fun h => (by cases h.1)⟩, fun h => (by omega)⟩ (by intro H T P N; omega)⟩⟩
      · have hr : unlockM w ⟨27, stage, 1, old, since, left, awoke, starve, 0, front⟩ = (w, ⟨27, stage, 1, w, since, left, awoke, starve, 0, front⟩, noA) := by unfold unlockM; rw [if_neg (fun h => (by cases h.1)), if_neg (by simp only; omega), if_pos rfl, if_neg hd, if_pos hw]
        rw [hr]
        have hb : MEv ⟨27, stage, 1, w, since, left, awoke, starve, 0, front⟩ true 0 0 0 0 := by cases awoke <;> exact ⟨rfl, rfl, rfl, rfl⟩
        exact ⟨rfl, Or.inl ⟨rfl, rfl, h.num ht hW _ _ _ s e0 hb (okk _ _ (by omega)) ⟨fun _ => (tok_good hb.2.1).1, fun _ => (tok_good hb.2.1).2⟩ (by intro H T P N; omega)⟩⟩
  · have e0 := ev 0 1 0 0 (by cases awoke <;> exact ⟨rfl, rfl, rfl, rfl⟩)
    have q : w / 4 % 2 = 1 := Classical.byContradiction fun hq => (m0 (by omega)).1 ⟨rfl, rfl⟩
    have hr : unlockM w ⟨27, stage, 2, old, since, left, awoke, starve, 0, front⟩ = (w, noF, ⟨true, 2, true, 0⟩) := by unfold unlockM; rw [if_neg (fun h => (by cases h.1)), if_neg (by simp only; omega), if_neg (by simp only; omega), if_pos rfl]
    rw [hr]
    exact ⟨rfl, Or.inr ⟨rfl, rfl, h.num ht hW _ _ w (s + 1) e0 evn frn ⟨fun _ => gdn.1, fun _ => gdn.2⟩ (by intro H T P N; omega)⟩⟩
  · have e0 := ev 0 1 0 1 (by cases awoke <;> exact ⟨rfl, rfl, rfl, rfl⟩)
    have q : ¬ w / 4 % 2 = 1 := fun hq => (m1 hq).1 ⟨rfl, rfl⟩
    have hr : unlockM w ⟨27, stage, 3, old, since, left, awoke, starve, 0, front⟩ = (w, noF, ⟨true, 2, false, 0⟩) := by unfold unlockM; rw [if_neg (fun h => (by cases h.1)), if_neg (by simp only; omega), if_neg (by simp only; omega), if_neg (by simp only; omega), if_pos rfl]
    rw [hr]
    exact ⟨rfl, Or.inr ⟨rfl, rfl, h.num ht hW _ _ w (s + 1) e0 evn frn ⟨fun _ => gdn.1, fun _ => gdn.2⟩ (by intro H T P N; omega)⟩⟩
/-- who has nothing begins. -/
theorem MInv.begin (h : MInv w s F I W row) (ht : t < 6) (hW : W t = false) (hf : F t = noF) : I t = false ∧ MInv w s (updN F t (beginF 26)) (updN I t false) W row := by
  have hi : I t = false := by
    cases hi : I t
    · rfl
    · have := ((h.ok t ht).inn hi).2.2
      rw [hf] at this; cases this
  have hb : MEv (beginF 26) false 0 0 0 0 := ⟨rfl, rfl, rfl, rfl⟩
  refine ⟨hi, h.num ht hW _ _ w s (by rw [hf, hi]; exact evn) hb ⟨fun h => (by cases h), fun _ => ⟨Or.inl rfl, fun h => (by cases h), fun h => (by rcases h with h | h <;> cases h), fun _ => ⟨rfl, rfl⟩⟩, Int.le_refl 0⟩ ⟨fun _ => (tok_good hb.2.1).1, fun _ => (tok_good hb.2.1).2⟩ (by intro H T P N; omega)⟩
theorem MInv.needs (h : MInv w s F I W row) (ht : t < 6) (hn : 0 < (F t).need) : I t = false ∧ (F t).phase = 3 := by
  have hi : I t = false := by
    cases hi : I t
    · rfl
    · have := ((h.ok t ht).inn hi).1
      omega
  exact ⟨hi, ((h.ok t ht).out hi).2.1 hn⟩
/-- who still has to get a unit gets it. -/
theorem MInv.take (h : MInv w s F I W row) (ht : t < 6) (hW : W t = false) (hn : 0 < (F t).need) (hs : 0 < s) : MInv w (s - 1) (updN F t { F t with need := 0 }) (updN I t false) W row := by
  obtain ⟨hi, hp⟩ := h.needs ht hn
  have o := (h.ok t ht).out hi
  have m0 := h.M0 t ht; have m1 := h.M1 t ht
  obtain ⟨⟨op, stage, phase, old, since, left, awoke, starve, need, front⟩, hf⟩ : ∃ f, F t = f := ⟨_, rfl⟩
  rw [hf] at hn hp o m0 m1 ⊢
  rw [hi] at m0 m1
  simp only at hn hp o ⊢
  subst hp
  have e0 : MEv ⟨op, stage, 3, old, since, left, awoke, starve, need, front⟩ false 0 0 1 0 := by
    unfold MEv holdI tokI p34I tnI
    refine ⟨if_neg (by simp), if_neg ?_, if_pos (by simp), if_neg ?_⟩
    · simp; omega
    · simp; omega
  have hb : MEv ⟨op, stage, 3, old, since, left, awoke, starve, 0, front⟩ false 0 1 1 1 := by cases awoke <;> exact ⟨rfl, rfl, rfl, rfl⟩
  exact h.num ht hW _ _ w (s - 1) (by rw [hf, hi]; exact e0) hb ⟨fun h => (by cases h), fun _ => ⟨Or.inr (Or.inr (Or.inr (Or.inl rfl))), fun h => (by cases h), fun h => (by rcases h with h | h <;> cases h), fun h => (by cases h)⟩, Int.le_refl 0⟩ ⟨fun _ => ⟨fun h => (by cases h.1), fun h => (by cases h.2)⟩, fun _ => ⟨fun h => (by cases h.1), fun h => (by rcases h.2.2 with h | h <;> cases h)⟩⟩ (by intro H T P N; omega)
/-- who still has to get a unit waits, in the row. -/
theorem MInv.park (h : MInv w s F I W row) (ht : t < 6) (hW : W t = false) (hn : 0 < (F t).need) : MInv w s F I (updN W t true) (t :: row) ∧ MInv w s F I (updN W t true) (row ++ [t]) := by
  have hnt : t ∉ row := fun hm => by have := ((h.R2 t).1 hm).2; rw [hW] at this; cases this
  obtain ⟨hi, hp⟩ := h.needs ht hn
  have r3 : ∀ k, k < 6 → updN W t true k = true → I k = false ∧ (F k).phase = 3 ∧ 0 < (F k).need := by
    intro k hk hw
    by_cases e : k = t
    · subst e; exact ⟨hi, hp, hn⟩
    · rw [updN_ne e] at hw; exact h.R3 k hk hw
  have r2 : ∀ k, (k = t ∨ k ∈ row) ↔ k < 6 ∧ updN W t true k = true := by
    intro k
    by_cases e : k = t
    · subst e; rw [updN_self]; simp [ht]
    · rw [updN_ne e]; simp only [e, false_or]; exact h.R2 k
  refine ⟨⟨h.w0, h.s0, h.H, h.T0, h.T1, h.B, h.C0, h.C1, h.M0, h.M1, h.ok, List.nodup_cons.2 ⟨hnt, h.R1⟩, fun k => by rw [List.mem_cons]; exact r2 k, r3⟩, ⟨h.w0, h.s0, h.H, h.T0, h.T1, h.B, h.C0, h.C1, h.M0, h.M1, h.ok, ?_, fun k => by rw [List.mem_append, List.mem_singleton, Or.comm]; exact r2 k, r3⟩⟩
  rw [List.nodup_append]
  exact ⟨h.R1, by simp, fun a ha b hb => by simp at hb; subst hb; exact fun e => hnt (e ▸ ha)⟩
/-- the first one of the row waits no more. -/
theorem MInv.pop {x : Nat} {rest : List Nat} (h : MInv w s F I W (x :: rest)) : x < 6 ∧ W x = true ∧ MInv w s F I (updN W x false) rest := by
  obtain ⟨hx, hwx⟩ := (h.R2 x).1 (by simp)
  have hnd := List.nodup_cons.1 h.R1
  refine ⟨hx, hwx, ⟨h.w0, h.s0, h.H, h.T0, h.T1, h.B, h.C0, h.C1, h.M0, h.M1, h.ok, hnd.2, fun k => ?_, fun k hk hw => ?_⟩⟩
  · by_cases e : k = x
    · subst e; rw [updN_self]; simp [hnd.1]
    · rw [updN_ne e, ← h.R2 k]; simp [e]
  · by_cases e : k = x
    · subst e; rw [updN_self] at hw; cases hw
    · rw [updN_ne e] at hw; exact h.R3 k hk hw
/-- at the beginning. -/
theorem MInv.start : MInv 0 0 (fun _ => noF) (fun _ => false) (fun _ => false) [] :=
  ⟨Int.le_refl 0, Int.le_refl 0, by decide, fun _ => by decide, fun h => (by cases h), fun h => (by cases h), fun _ => by decide, fun h => (by cases h), fun k _ _ => gdn.1, fun k _ _ => gdn.2, fun k _ => frn, List.nodup_nil, fun k => by simp, fun k _ h => (by cases h)⟩
end
end Go.Proofs.Ytpkegfochfkkcaa
