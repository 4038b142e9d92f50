/- Layer 18: of tasks that come over and over one is told to do it, and nobody else goes on till it is done; no condition but those in each theorem. -/
import Derived.Test.YtkecmiedeihdgaaOncA
import Derived.Test.YtkecmiedeihdgaaMutM
namespace Go.Proofs.Ytkecmiedeihdgaa
set_option linter.unusedVariables false
set_option linter.unusedSimpArgs false
/-- is a task in the mutex? (e: it is the one that does it) -/
def miO (f : MFr) (e : Bool) : Bool := e || (decide (f.stage = 2) || decide (f.stage = 3))
/-- the mutex's side of a task. -/
def mfO (f : MFr) (e : Bool) : MFr := if miO f e = true then { f with op := 27, stage := 0 } else if f.stage = 1 then f else noF
structure OkO (f : MFr) (e : Bool) : Prop where
  en : e = true → f = beginF 35 ∨ (f.op = 35 ∧ f.stage = 1 ∧ f.need = 0)
  on : e = false → f = noF ∨ f = beginF 34 ∨ (f.op = 34 ∧ f.stage = 1) ∨ f = stageF (beginF 34) 2 ∨ (f.op = 34 ∧ f.stage = 3 ∧ f.need = 0)
def cntE (E : Nat → Bool) : Nat := sum6 fun k => if E k = true then 1 else 0
structure OInv (w0 s w2 : Int) (F : Nat → MFr) (E W : Nat → Bool) (row : List Nat) (told over : Int) : Prop where
  mu : MInv w0 s (fun k => mfO (F k) (E k)) (fun k => miO (F k) (E k)) W row
  ok : ∀ k, k < 6 → OkO (F k) (E k)
  wb : w2 = 0 ∨ w2 = 1
  e1 : ∀ k, k < 6 → E k = true → (F k).stage = 1 → w2 = 1
  e3 : ∀ k, k < 6 → E k = false → (F k).stage = 3 → w2 = 1
  ct : (cntE E : Int) + over = told
  t1 : told ≤ 1
  o0 : 0 ≤ over
  wt : w2 = 1 → told = 1
  ov : over = 1 → w2 = 1
theorem upd_same {α : Type} {G : Nat → α} {t : Nat} {x : α} (h : x = G t) : updN G t x = G := by
  funext k; unfold updN; split
  · rename_i e; rw [e, h]
  · rfl
section
variable {w0 s w2 told over : Int} {F : Nat → MFr} {E W : Nat → Bool} {row : List Nat} {t : Nat}
theorem cntE_upd (ht : t < 6) (b : Bool) : (cntE (updN E t b) : Int) + (if E t = true then 1 else 0) = (cntE E : Int) + (if b = true then 1 else 0) := by
  have h := sum6_upd (g := fun k => if updN E t b k = true then 1 else 0) (h := fun k => if E k = true then 1 else 0) ht (fun k hk => by simp only [updN_ne hk])
  simp only [updN_self] at h
  unfold cntE
  by_cases a : E t = true
  · by_cases c : b = true
    · rw [if_pos a, if_pos c] at h ⊢; omega
    · rw [if_pos a, if_neg c] at h ⊢; omega
  · by_cases c : b = true
    · rw [if_neg a, if_pos c] at h ⊢; omega
    · rw [if_neg a, if_neg c] at h ⊢; omega
theorem cntE_some (h : 1 ≤ cntE E) : ∃ k, k < 6 ∧ E k = true := by
  refine Classical.byContradiction fun hn => ?_
  have e : ∀ k, k < 6 → (if E k = true then 1 else 0 : Nat) = 0 := fun k hk => by
    by_cases c : E k = true
    · exact absurd ⟨k, hk, c⟩ hn
    · rw [if_neg c]
  unfold cntE sum6 at h
  simp only [e 0 (by omega), e 1 (by omega), e 2 (by omega), e 3 (by omega), e 4 (by omega), e 5 (by omega)] at h
  omega
theorem OInv.upd (h : OInv w0 s w2 F E W row told over) (ht : t < 6) (f' : MFr) (e' : Bool) {v0 v1 v2 told' over' : Int}
    (mu : MInv v0 v1 (updN (fun k => mfO (F k) (E k)) t (mfO f' e')) (updN (fun k => miO (F k) (E k)) t (miO f' e')) W row)
    (ok : OkO f' e') (hv : v2 = w2 ∨ v2 = 1) (e1 : e' = true → f'.stage = 1 → v2 = 1) (e3 : e' = false → f'.stage = 3 → v2 = 1)
    (ct : (if e' = true then 1 else 0 : Int) + over' + told = (if E t = true then 1 else 0) + over + told') (t1 : told' ≤ 1) (o0 : 0 ≤ over') (wt : v2 = 1 → told' = 1) (ov : over' = 1 → v2 = 1) :
    OInv v0 v1 v2 (updN F t f') (updN E t e') W row told' over' := by
  have m1 : (fun k => mfO (updN F t f' k) (updN E t e' k)) = updN (fun k => mfO (F k) (E k)) t (mfO f' e') := by
    funext k; by_cases e : k = t
    · subst e; simp only [updN_self]
    · simp only [updN_ne e]
  have m2 : (fun k => miO (updN F t f' k) (updN E t e' k)) = updN (fun k => miO (F k) (E k)) t (miO f' e') := by
    funext k; by_cases e : k = t
    · subst e; simp only [updN_self]
    · simp only [updN_ne e]
  have hc := cntE_upd (E := E) ht e'
  have h2 := h.wb; have h3 := h.ct
  refine ⟨by rw [m1, m2]; exact mu, fun k hk => ?_, by omega, fun k hk => ?_, fun k hk => ?_, ?_, t1, o0, wt, ov⟩
  · by_cases e : k = t
    · subst e; rw [updN_self, updN_self]; exact ok
    · rw [updN_ne e, updN_ne e]; exact h.ok k hk
  · by_cases e : k = t
    · subst e; rw [updN_self, updN_self]; exact e1
    · rw [updN_ne e, updN_ne e]; intro a b; have := h.e1 k hk a b; omega
  · by_cases e : k = t
    · subst e; rw [updN_self, updN_self]; exact e3
    · rw [updN_ne e, updN_ne e]; intro a b; have := h.e3 k hk a b; omega
  · omega
theorem OInv.mu_same (h : OInv w0 s w2 F E W row told over) {f' : MFr} {e' : Bool} (a : mfO f' e' = mfO (F t) (E t)) (b : miO f' e' = miO (F t) (E t)) : MInv w0 s (updN (fun k => mfO (F k) (E k)) t (mfO f' e')) (updN (fun k => miO (F k) (E k)) t (miO f' e')) W row := by
  rw [upd_same (G := fun k => mfO (F k) (E k)) a, upd_same (G := fun k => miO (F k) (E k)) b]; exact h.mu
theorem OInv.told0 (h : OInv w0 s w2 F E W row told over) : 0 ≤ told ∧ over ≤ told ∧ over ≤ 1 := by
  have := h.ct; have := h.t1; have := h.o0; omega
/-- where it isn't done, and somebody was told, that one has the mutex. -/
theorem OInv.alone (h : OInv w0 s w2 F E W row told over) (ht : t < 6) (he : E t = false) (hi : miO (F t) false = true) (hp : (F t).phase = 0) (hw : w2 ≠ 1) : told = 0 := by
  refine Classical.byContradiction fun hn => ?_
  have h0 := h.told0; have h1 := h.t1; have h2 := h.ct; have h3 := h.o0; have h4 := h.ov
  obtain ⟨k, hk, hek⟩ := cntE_some (E := E) (by omega)
  have hne : t ≠ k := fun e => by subst e; rw [he] at hek; cases hek
  have hk0 : (F k).phase = 0 := by
    rcases (h.ok k hk).en hek with e | ⟨_, e, _⟩
    · rw [e]; rfl
    · exact absurd (h.e1 k hk hek e) hw
  have g := sum6_two (g := fun j => holdI (mfO (F j) (E j)) (miO (F j) (E j))) ht hk hne
  have ik : miO (F k) (E k) = true := by unfold miO; rw [hek]; rfl
  have it : miO (F t) (E t) = true := by rw [he]; exact hi
  have gk : holdI (mfO (F k) (E k)) (miO (F k) (E k)) = 1 := by unfold mfO; rw [if_pos ik, ik]; unfold holdI; exact if_pos ⟨rfl, hk0⟩
  have gt : holdI (mfO (F t) (E t)) (miO (F t) (E t)) = 1 := by unfold mfO; rw [if_pos it, it]; unfold holdI; exact if_pos ⟨rfl, hp⟩
  simp only [gk, gt] at g
  have hH := h.mu.H
  unfold sumI at hH
  dsimp only at hH
  omega
/-- who does it has the mutex. -/
theorem OInv.has (h : OInv w0 s w2 F E W row told over) (ht : t < 6) (he : E t = true) (hf : F t = beginF 35) : hasBit w0 0 := by
  have it : miO (F t) (E t) = true := by unfold miO; rw [he]; rfl
  have gt : holdI (mfO (F t) (E t)) (miO (F t) (E t)) = 1 := by unfold mfO; rw [if_pos it, it, hf]; rfl
  have g := sum6_ge (g := fun j => holdI (mfO (F j) (E j)) (miO (F j) (E j))) ht
  simp only [gt] at g
  have hH := h.mu.H
  unfold sumI at hH
  dsimp only at hH
  rw [bit0]
  omega
theorem unlock_os (w : Int) (f : MFr) (hf : (unlockM w { f with op := 27, stage := 0 }).2.2.fault = 0) : (unlockM w { f with op := 27, stage := 0 }).1 = (unlockM w f).1 ∧ (unlockM w { f with op := 27, stage := 0 }).2.2 = (unlockM w f).2.2 ∧
    (((unlockM w f).2.2.done = true ∧ (unlockM w f).2.1 = noF ∧ (unlockM w { f with op := 27, stage := 0 }).2.1 = noF) ∨ ((unlockM w f).2.2.done = false ∧ (unlockM w { f with op := 27, stage := 0 }).2.1 = { (unlockM w f).2.1 with op := 27, stage := 0 } ∧ (unlockM w f).2.1.stage = f.stage ∧ (unlockM w f).2.1.op = f.op ∧ (unlockM w f).2.1.need = f.need)) := by
  unfold unlockM at hf ⊢
  dsimp only at hf ⊢
  by_cases h1 : f.phase = 0 ∧ ¬ hasBit w 0
  · rw [if_pos h1] at hf; cases hf
  simp only [if_neg h1]
  by_cases h2 : f.phase = 0
  · simp only [if_pos h2]
    by_cases h3 : w = 1
    · simp only [if_pos h3]; exact ⟨(by first | trivial | rfl), (by first | trivial | rfl), Or.inl ⟨(by first | trivial | rfl), (by first | trivial | rfl), (by first | trivial | rfl)⟩⟩
    · simp only [if_neg h3]; exact ⟨(by first | trivial | rfl), (by first | trivial | rfl), Or.inr ⟨(by first | trivial | rfl), (by first | trivial | rfl), (by first | trivial | rfl), (by first | trivial | rfl), (by first | trivial | rfl)⟩⟩
  simp only [if_neg h2]
  by_cases h4 : f.phase = 1
  · simp only [if_pos h4]
    by_cases h5 : f.old / 8 = 0 ∨ hasBit f.old 0 ∨ hasBit f.old 1 ∨ hasBit f.old 2
    · simp only [if_pos h5]; exact ⟨(by first | trivial | rfl), (by first | trivial | rfl), Or.inl ⟨(by first | trivial | rfl), (by first | trivial | rfl), (by first | trivial | rfl)⟩⟩
    simp only [if_neg h5]
    by_cases h6 : w ≠ f.old
    · simp only [if_pos h6]; exact ⟨(by first | trivial | rfl), (by first | trivial | rfl), Or.inr ⟨(by first | trivial | rfl), (by first | trivial | rfl), (by first | trivial | rfl), (by first | trivial | rfl), (by first | trivial | rfl)⟩⟩
    · simp only [if_neg h6]; exact ⟨(by first | trivial | rfl), (by first | trivial | rfl), Or.inr ⟨(by first | trivial | rfl), (by first | trivial | rfl), (by first | trivial | rfl), (by first | trivial | rfl), (by first | trivial | rfl)⟩⟩
  simp only [if_neg h4]
  by_cases h7 : f.phase = 2
  · simp only [if_pos h7]; exact ⟨(by first | trivial | rfl), (by first | trivial | rfl), Or.inl ⟨(by first | trivial | rfl), (by first | trivial | rfl), (by first | trivial | rfl)⟩⟩
  simp only [if_neg h7]
  by_cases h8 : f.phase = 3
  · simp only [if_pos h8]; exact ⟨(by first | trivial | rfl), (by first | trivial | rfl), Or.inl ⟨(by first | trivial | rfl), (by first | trivial | rfl), (by first | trivial | rfl)⟩⟩
  · simp only [if_neg h8]; exact ⟨(by first | trivial | rfl), (by first | trivial | rfl), Or.inr ⟨(by first | trivial | rfl), (by first | trivial | rfl), (by first | trivial | rfl), (by first | trivial | rfl), (by first | trivial | rfl)⟩⟩
theorem lock_kept {w : Int} {f : MFr} {now pat : Int} (h : (lockM w f now pat).2.2 = noA) : (lockM w f now pat).2.1.stage = f.stage ∧ (lockM w f now pat).2.1.op = f.op := by
  have hx : noA ≠ doneA := fun e => by injection e with e1; cases e1
  unfold lockM at h ⊢
  split
  · rename_i h1; rw [if_pos h1] at h; exact absurd h.symm hx
  rename_i h1; rw [if_neg h1] at h
  split
  · exact ⟨rfl, rfl⟩
  rename_i h2; rw [if_neg h2] at h
  split
  · exact ⟨rfl, rfl⟩
  rename_i h3; rw [if_neg h3] at h
  split
  · rename_i h4; rw [if_pos h4] at h
    split
    · rename_i h5; rw [if_pos h5] at h; exact absurd h.symm hx
    · exact ⟨rfl, rfl⟩
  rename_i h4; rw [if_neg h4] at h
  split
  · exact ⟨rfl, rfl⟩
  rename_i h5; rw [if_neg h5] at h
  split
  · rename_i h6; rw [if_pos h6] at h; exact absurd h.symm hx
  · exact ⟨rfl, rfl⟩
/-- what unlocking comes to, whoever does it. -/
theorem OInv.unlocks (h : OInv w0 s w2 F E W row told over) (ht : t < 6) (hW : W t = false) (hi : miO (F t) (E t) = true) :
    (unlockM w0 (F t)).2.2.fault = 0 ∧
    (((unlockM w0 (F t)).2.2.done = true ∧ (unlockM w0 (F t)).2.1 = noF ∧ (((unlockM w0 (F t)).2.2.give = 0 ∧ (unlockM w0 (F t)).2.2.hand = false ∧ MInv (unlockM w0 (F t)).1 s (updN (fun k => mfO (F k) (E k)) t noF) (updN (fun k => miO (F k) (E k)) t false) W row) ∨ ((unlockM w0 (F t)).2.2.give = 2 ∧ MInv (unlockM w0 (F t)).1 (s + 1) (updN (fun k => mfO (F k) (E k)) t noF) (updN (fun k => miO (F k) (E k)) t false) W row))) ∨
     ((unlockM w0 (F t)).2.2.done = false ∧ (unlockM w0 (F t)).2.2.give = 0 ∧ (unlockM w0 (F t)).2.2.hand = false ∧ MInv (unlockM w0 (F t)).1 s (updN (fun k => mfO (F k) (E k)) t { (unlockM w0 (F t)).2.1 with op := 27, stage := 0 }) (updN (fun k => miO (F k) (E k)) t true) W row ∧ (unlockM w0 (F t)).2.1.stage = (F t).stage ∧ (unlockM w0 (F t)).2.1.op = (F t).op ∧ (unlockM w0 (F t)).2.1.need = (F t).need)) := by
  have em : mfO (F t) (E t) = { F t with op := 27, stage := 0 } := if_pos hi
  have hU := h.mu.unlock (t := t) ht hW hi
  rw [em] at hU
  obtain ⟨u0, u1⟩ := hU
  obtain ⟨o1, o2, o3⟩ := unlock_os w0 (F t) u0
  rw [o1, o2] at u1
  rw [o2] at u0
  refine ⟨u0, ?_⟩
  rcases o3 with ⟨d1, d2, d3⟩ | ⟨d1, d2, d3, d4, d5⟩
  · rw [d3, d1] at u1
    exact Or.inl ⟨d1, d2, u1.imp (fun g => g) (fun g => ⟨g.1, g.2.2⟩)⟩
  · rcases u1 with ⟨g1, g2, g3⟩ | ⟨g1, g2, g3⟩
    · rw [d1, d2] at g3
      exact Or.inr ⟨d1, g1, g2, g3, d3, d4, d5⟩
    · rw [d1] at g2; cases g2
theorem noF_op : noF.op = 0 := rfl
/-- what a step of one that comes is to be. -/
def OnceTo (s : Int) (F : Nat → MFr) (E W : Nat → Bool) (row : List Nat) (told over : Int) (t : Nat) (r : OnR) : Prop :=
  r.2.2.1.fault = 0 ∧
  ((r.2.2.1.done = false ∧ r.2.2.1.give = 0 ∧ OInv r.1.1 s r.1.2 (updN F t r.2.1) E W row told over) ∨
   (r.2.2.1 = doneA ∧ r.2.2.2 = 1 ∧ OInv r.1.1 s r.1.2 (updN F t (beginF 35)) (updN E t true) W row (told + 1) over) ∨
   (r.2.2.1.done = true ∧ r.2.2.2 = 0 ∧ r.1.2 = 1 ∧ ((r.2.2.1.give = 0 ∧ r.2.2.1.hand = false ∧ OInv r.1.1 s r.1.2 (updN F t r.2.1) E W row told over) ∨ (r.2.2.1.give = 2 ∧ OInv r.1.1 (s + 1) r.1.2 (updN F t r.2.1) E W row told over))))
theorem OInv.on (h : OInv w0 s w2 F E W row told over) (ht : t < 6) (he : E t = false) (f' : MFr) {v0 v1 : Int} (mu : MInv v0 v1 (updN (fun k => mfO (F k) (E k)) t (mfO f' false)) (updN (fun k => miO (F k) (E k)) t (miO f' false)) W row)
    (ok : OkO f' false) (e3 : f'.stage = 3 → w2 = 1) : OInv v0 v1 w2 (updN F t f') E W row told over := by
  have g := h.upd ht f' false (v2 := w2) mu ok (Or.inl rfl) (fun e => by cases e) (fun _ => e3) (told' := told) (over' := over) (by rw [he]) h.t1 h.o0 h.wt h.ov
  rw [upd_same he.symm] at g
  exact g
theorem okn18 : OkO noF false := ⟨fun h => (by cases h), fun _ => Or.inl rfl⟩
set_option maxHeartbeats 4000000 in
theorem OInv.once (h : OInv w0 s w2 F E W row told over) (ht : t < 6) (hW : W t = false) (he : E t = false) (hnf : F t ≠ noF) (hn : (F t).need = 0) (now pat : Int) : OnceTo s F E W row told over t (onceW w0 w2 (F t) now pat) := by
  unfold OnceTo
  rcases (h.ok t ht).on he with hf | hf | ⟨ho, hs⟩ | hf | ⟨ho, hs, hn0⟩
  · exact absurd hf hnf
  · have em : mfO (F t) (E t) = noF := by rw [hf, he]; rfl
    have ei : miO (F t) (E t) = false := by rw [hf, he]; rfl
    by_cases hw : w2 = 1
    · rw [show onceW w0 w2 (F t) now pat = ((w0, w2), noF, doneA, 0) from if_pos ⟨by rw [hf]; rfl, hw⟩]
      exact ⟨rfl, Or.inr (Or.inr ⟨rfl, rfl, hw, Or.inl ⟨rfl, rfl, h.on ht he noF (h.mu_same (em.symm ▸ rfl) (ei.symm ▸ rfl)) okn18 (fun e => by cases e)⟩⟩)⟩
    · rw [show onceW w0 w2 (F t) now pat = ((w0, w2), { F t with stage := 1, phase := 0 }, noA, 0) from by
        unfold onceW
        rw [if_neg (fun e => hw e.2), if_neg (fun e => by have := e.1; rw [hf] at this; cases this), if_pos (by rw [hf]; rfl)]]
      refine ⟨rfl, Or.inl ⟨rfl, rfl, h.on ht he _ ?_ ⟨fun e => (by cases e), fun _ => Or.inr (Or.inr (Or.inl ⟨by rw [hf]; rfl, rfl⟩))⟩ (fun e => by cases e)⟩⟩
      rw [hf]
      have hb : MEv (mfO { beginF 34 with stage := 1, phase := 0 } false) (miO { beginF 34 with stage := 1, phase := 0 } false) 0 0 0 0 := ⟨rfl, rfl, rfl, rfl⟩
      exact h.mu.num ht hW _ _ w0 s (by rw [em, ei]; exact evn) hb ⟨fun h => (by cases h), fun _ => ⟨Or.inl rfl, fun h => (by cases h), fun h => (by rcases h with h | h <;> cases h), fun _ => ⟨rfl, rfl⟩⟩, Int.le_refl 0⟩ ⟨fun _ => (tok_good hb.2.1).1, fun _ => (tok_good hb.2.1).2⟩ (by intro H T P N; omega)
  · have ei : miO (F t) (E t) = false := by unfold miO; rw [he, hs]; rfl
    have em : mfO (F t) (E t) = F t := by unfold mfO; rw [if_neg (by rw [ei]; decide), if_pos hs]
    have hL := h.mu.lock (t := t) ht hW ei (by rw [em]; exact hn) now pat
    rw [em] at hL
    have hx : onceW w0 w2 (F t) now pat = if (lockM w0 (F t) now pat).2.2.done = true then (((lockM w0 (F t) now pat).1, w2), stageF (F t) 2, noA, 0) else (((lockM w0 (F t) now pat).1, w2), (lockM w0 (F t) now pat).2.1, (lockM w0 (F t) now pat).2.2, 0) := by
      unfold onceW
      rw [if_neg (fun e => by have := e.1; omega), if_neg (fun e => by have := e.1; omega), if_neg (by omega), if_neg (by omega), if_pos hs]
    rw [hx]
    rcases hL with ⟨h1, h2, _⟩ | ⟨h1, h2⟩
    · rw [h1, if_pos (show doneA.done = true from rfl)]
      have e2 : stageF (F t) 2 = stageF (beginF 34) 2 := by unfold stageF; rw [ho]; rfl
      rw [e2]
      exact ⟨rfl, Or.inl ⟨rfl, rfl, h.on ht he _ h2 ⟨fun e => (by cases e), fun _ => Or.inr (Or.inr (Or.inr (Or.inl rfl)))⟩ (fun e => by cases e)⟩⟩
    · rw [h1, if_neg (show ¬ (noA.done = true) by decide)]
      obtain ⟨k1, k2⟩ := lock_kept h1
      generalize (lockM w0 (F t) now pat).2.1 = g at *
      have gi : miO g false = false := by unfold miO; rw [k1, hs]; rfl
      have gm : mfO g false = g := by unfold mfO; rw [if_neg (by rw [gi]; decide), if_pos (k1.trans hs)]
      exact ⟨rfl, Or.inl ⟨rfl, rfl, h.on ht he g (by rw [gm, gi]; exact h2) ⟨fun e => (by cases e), fun _ => Or.inr (Or.inr (Or.inl ⟨k2.trans ho, k1.trans hs⟩))⟩ (fun e => by omega)⟩⟩
  · have em : mfO (F t) (E t) = beginF 27 := by rw [hf, he]; rfl
    have ei : miO (F t) (E t) = true := by rw [hf, he]; rfl
    by_cases hw : w2 = 1
    · rw [show onceW w0 w2 (F t) now pat = ((w0, w2), { F t with stage := 3, phase := 0 }, noA, 0) from by
        unfold onceW
        rw [if_neg (fun e => by have := e.1; rw [hf] at this; cases this), if_neg (fun e => e.2 hw), if_neg (by rw [hf]; decide), if_pos (by rw [hf]; rfl)], hf]
      exact ⟨rfl, Or.inl ⟨rfl, rfl, h.on ht he _ (h.mu_same (em.symm ▸ rfl) (ei.symm ▸ rfl)) ⟨fun e => (by cases e), fun _ => Or.inr (Or.inr (Or.inr (Or.inr ⟨rfl, rfl, rfl⟩)))⟩ (fun _ => hw)⟩⟩
    · have h0 := h.alone ht he (by rw [hf]; rfl) (by rw [hf]; rfl) hw
      have h3 := h.told0; have h4 := h.o0; have h5 := h.wb
      rw [show onceW w0 w2 (F t) now pat = ((w0, w2), noF, doneA, 1) from by
        unfold onceW
        rw [if_neg (fun e => by have := e.1; rw [hf] at this; cases this), if_pos ⟨by rw [hf]; rfl, hw⟩]]
      exact ⟨rfl, Or.inr (Or.inl ⟨rfl, rfl, h.upd ht (beginF 35) true (v2 := w2) (h.mu_same (em.symm ▸ rfl) (ei.symm ▸ rfl)) ⟨fun _ => Or.inl rfl, fun e => (by cases e)⟩ (Or.inl rfl) (fun _ e => by cases e) (fun e => by cases e) (by rw [he]; simp; omega) (by omega) h.o0 (fun e => absurd e hw) h.ov⟩)⟩
  · have hw : w2 = 1 := h.e3 t ht he hs
    have hi : miO (F t) (E t) = true := by unfold miO; rw [he, hs]; rfl
    have hx : onceW w0 w2 (F t) now pat = (((unlockM w0 (F t)).1, w2), (unlockM w0 (F t)).2.1, (unlockM w0 (F t)).2.2, 0) := by
      unfold onceW
      rw [if_neg (fun e => by have := e.1; omega), if_neg (fun e => by have := e.1; omega), if_neg (by omega), if_neg (by omega), if_neg (by omega), if_pos hs]
    rw [hx]
    obtain ⟨u0, u1⟩ := h.unlocks ht hW hi
    refine ⟨u0, ?_⟩
    rcases u1 with ⟨d1, d2, u1⟩ | ⟨d1, d2, _, d3, d4, d5, d6⟩
    · refine Or.inr (Or.inr ⟨d1, rfl, hw, ?_⟩)
      dsimp only
      rw [d2]
      rcases u1 with ⟨g1, g2, g3⟩ | ⟨g1, g2⟩
      · exact Or.inl ⟨g1, g2, h.on ht he noF g3 okn18 (fun e => by cases e)⟩
      · exact Or.inr ⟨g1, h.on ht he noF g2 okn18 (fun e => by cases e)⟩
    · refine Or.inl ⟨d1, d2, ?_⟩
      dsimp only
      generalize (unlockM w0 (F t)).2.1 = g at *
      have gi : miO g false = true := by unfold miO; rw [d4, hs]; rfl
      exact h.on ht he g (by rw [show mfO g false = { g with op := 27, stage := 0 } from if_pos gi, gi]; exact d3) ⟨fun e => (by cases e), fun _ => Or.inr (Or.inr (Or.inr (Or.inr ⟨d5.trans ho, d4.trans hs, d6.trans hn0⟩)))⟩ (fun _ => hw)
/-- what a step of the one that does it is to be. -/
def EndTo (s : Int) (F : Nat → MFr) (E W : Nat → Bool) (row : List Nat) (told over : Int) (t : Nat) (r : OnR) : Prop :=
  r.2.2.1.fault = 0 ∧
  ((r.2.2.1.done = false ∧ r.2.2.1.give = 0 ∧ OInv r.1.1 s r.1.2 (updN F t r.2.1) E W row told over) ∨
   (r.2.2.1.done = true ∧ ((r.2.2.1.give = 0 ∧ r.2.2.1.hand = false ∧ OInv r.1.1 s r.1.2 (updN F t r.2.1) (updN E t false) W row told (over + 1)) ∨ (r.2.2.1.give = 2 ∧ OInv r.1.1 (s + 1) r.1.2 (updN F t r.2.1) (updN E t false) W row told (over + 1)))))
set_option maxHeartbeats 4000000 in
theorem OInv.ends (h : OInv w0 s w2 F E W row told over) (ht : t < 6) (hW : W t = false) (he : E t = true) : EndTo s F E W row told over t (endW w0 w2 (F t)) := by
  unfold EndTo
  have hi : miO (F t) (E t) = true := by unfold miO; rw [he]; rfl
  have hc := h.ct; have h1 := h.t1; have h0 := h.o0; have ht0 := h.told0
  have hcp : 1 ≤ cntE E := by
    have g := sum6_ge (g := fun k => if E k = true then 1 else 0) ht
    simp only [he, if_true] at g
    exact g
  rcases (h.ok t ht).en he with hf | ⟨ho, hs, hn0⟩
  · have hb := h.has ht he hf
    have em : mfO (F t) (E t) = beginF 27 := by rw [hf, he]; rfl
    have ei : miO (F t) (E t) = true := hi
    rw [show endW w0 w2 (F t) = ((w0, 1), { F t with stage := 1, phase := 0 }, noA, 0) from by
      unfold endW
      rw [if_neg (fun e => e.2 hb), if_pos (by rw [hf]; rfl)], hf]
    have g := h.upd ht { beginF 35 with stage := 1, phase := 0 } true (v2 := 1) (h.mu_same (em.symm ▸ rfl) (ei.symm ▸ rfl)) ⟨fun _ => Or.inr ⟨rfl, rfl, rfl⟩, fun e => (by cases e)⟩ (Or.inr rfl) (fun _ _ => rfl) (fun e => by cases e) (told' := told) (over' := over) (by rw [he]) h1 h0 (fun _ => by omega) (fun _ => rfl)
    rw [upd_same he.symm] at g
    exact ⟨rfl, Or.inl ⟨rfl, rfl, g⟩⟩
  · have hw : w2 = 1 := h.e1 t ht he hs
    have hx : endW w0 w2 (F t) = (((unlockM w0 (F t)).1, w2), (unlockM w0 (F t)).2.1, (unlockM w0 (F t)).2.2, 0) := by
      unfold endW
      rw [if_neg (fun e => by have := e.1; omega), if_neg (by omega), if_pos hs]
    rw [hx]
    obtain ⟨u0, u1⟩ := h.unlocks ht hW hi
    refine ⟨u0, ?_⟩
    have fin : ∀ v0 v1 : Int, MInv v0 v1 (updN (fun k => mfO (F k) (E k)) t noF) (updN (fun k => miO (F k) (E k)) t false) W row → OInv v0 v1 w2 (updN F t noF) (updN E t false) W row told (over + 1) := fun v0 v1 m =>
      h.upd ht noF false (v2 := w2) m okn18 (Or.inl rfl) (fun e => by cases e) (fun _ e => by cases e) (by rw [he]; simp; omega) h1 (by omega) h.wt (fun _ => hw)
    rcases u1 with ⟨d1, d2, u1⟩ | ⟨d1, d2, _, d3, d4, d5, d6⟩
    · refine Or.inr ⟨d1, ?_⟩
      dsimp only
      rw [d2]
      rcases u1 with ⟨g1, g2, g3⟩ | ⟨g1, g2⟩
      · exact Or.inl ⟨g1, g2, fin _ _ g3⟩
      · exact Or.inr ⟨g1, fin _ _ g2⟩
    · refine Or.inl ⟨d1, d2, ?_⟩
      dsimp only
      generalize (unlockM w0 (F t)).2.1 = g at *
      have gi : miO g true = true := rfl
      have r := h.upd ht g true (v2 := w2) (by rw [show mfO g true = { g with op := 27, stage := 0 } from if_pos gi, gi]; exact d3) ⟨fun _ => Or.inr ⟨d5.trans ho, d4.trans hs, d6.trans hn0⟩, fun e => (by cases e)⟩ (Or.inl rfl) (fun _ _ => hw) (fun e => by cases e) (told' := told) (over' := over) (by rw [he]) h1 h0 h.wt h.ov
      rw [upd_same he.symm] at r
      exact r
/-- who has nothing comes. -/
theorem OInv.begin (h : OInv w0 s w2 F E W row told over) (ht : t < 6) (hf : F t = noF) : E t = false ∧ OInv w0 s w2 (updN F t (beginF 34)) E W row told over := by
  have he : E t = false := by
    cases he : E t
    · rfl
    · rcases (h.ok t ht).en he with e | ⟨e, _⟩ <;> rw [hf] at e <;> cases e
  have em : mfO (F t) (E t) = noF := by rw [hf, he]; rfl
  have ei : miO (F t) (E t) = false := by rw [hf, he]; rfl
  exact ⟨he, h.on ht he (beginF 34) (h.mu_same (em.symm ▸ rfl) (ei.symm ▸ rfl)) ⟨fun e => (by cases e), fun _ => Or.inr (Or.inl rfl)⟩ (fun e => by cases e)⟩
theorem OInv.needs (h : OInv w0 s w2 F E W row told over) (ht : t < 6) (hn : 0 < (F t).need) : E t = false ∧ (F t).stage = 1 ∧ (F t).op = 34 ∧ miO (F t) (E t) = false ∧ mfO (F t) (E t) = F t := by
  have he : E t = false := by
    cases he : E t
    · rfl
    · rcases (h.ok t ht).en he with e | ⟨_, _, e⟩
      · rw [e] at hn; cases hn
      · omega
  have hs : (F t).stage = 1 ∧ (F t).op = 34 := by
    rcases (h.ok t ht).on he with e | e | ⟨e1, e2⟩ | e | ⟨_, _, e⟩
    · rw [e] at hn; cases hn
    · rw [e] at hn; cases hn
    · exact ⟨e2, e1⟩
    · rw [e] at hn; cases hn
    · omega
  have ei : miO (F t) (E t) = false := by unfold miO; rw [he, hs.1]; rfl
  exact ⟨he, hs.1, hs.2, ei, by unfold mfO; rw [if_neg (by rw [ei]; decide), if_pos hs.1]⟩
/-- a unit is there. -/
theorem OInv.take (h : OInv w0 s w2 F E W row told over) (ht : t < 6) (hW : W t = false) (hn : 0 < (F t).need) (hs : 0 < s) : OInv w0 (s - 1) w2 (updN F t { F t with need := 0 }) E W row told over := by
  obtain ⟨he, h1, h2, h3, h4⟩ := h.needs ht hn
  have m := h.mu.take (t := t) ht hW (by rw [h4]; exact hn) hs
  rw [h4] at m
  have gi : miO { F t with need := 0 } false = false := by unfold miO; dsimp only; rw [h1]; rfl
  exact h.on ht he _ (by rw [show mfO { F t with need := 0 } false = { F t with need := 0 } from by { unfold mfO; rw [if_neg (by rw [gi]; decide), if_pos h1] }, gi]; exact m) ⟨fun e => (by cases e), fun _ => Or.inr (Or.inr (Or.inl ⟨h2, h1⟩))⟩ (fun e => by dsimp only at e; omega)
/-- none is there. -/
theorem OInv.park (h : OInv w0 s w2 F E W row told over) (ht : t < 6) (hW : W t = false) (hn : 0 < (F t).need) : OInv w0 s w2 F E (updN W t true) (t :: row) told over ∧ OInv w0 s w2 F E (updN W t true) (row ++ [t]) told over := by
  obtain ⟨he, h1, h2, h3, h4⟩ := h.needs ht hn
  have m := h.mu.park (t := t) ht hW (by rw [h4]; exact hn)
  exact ⟨⟨m.1, h.ok, h.wb, h.e1, h.e3, h.ct, h.t1, h.o0, h.wt, h.ov⟩, ⟨m.2, h.ok, h.wb, h.e1, h.e3, h.ct, h.t1, h.o0, h.wt, h.ov⟩⟩
theorem OInv.pop {x : Nat} {rest : List Nat} (h : OInv w0 s w2 F E W (x :: rest) told over) : x < 6 ∧ W x = true ∧ 0 < (F x).need ∧ OInv w0 s w2 F E (updN W x false) rest told over := by
  obtain ⟨h1, h2, h3⟩ := h.mu.pop
  have h4 := (h.mu.R3 x h1 h2).2.2
  have h5 : 0 < (F x).need := by
    unfold mfO at h4
    split at h4
    · exact h4
    · split at h4
      · exact h4
      · cases h4
  exact ⟨h1, h2, h5, ⟨h3, h.ok, h.wb, h.e1, h.e3, h.ct, h.t1, h.o0, h.wt, h.ov⟩⟩
theorem OInv.start : OInv 0 0 0 (fun _ => noF) (fun _ => false) (fun _ => false) [] 0 0 :=
  ⟨MInv.start, fun k _ => okn18, Or.inl rfl, fun k _ e => (by cases e), fun k _ _ e => (by cases e), rfl, by omega, by omega, fun e => (by cases e), fun e => (by cases e)⟩
/-- at the end. -/
theorem OInv.last (h : OInv w0 s w2 F E W row told over) : told ≤ 1 ∧ over ≤ told ∧ (over = 0 ∨ w2 = 1) ∧ (told = 1 ∨ w2 ≠ 1) := by
  have h0 := h.told0; have h1 := h.t1; have h2 := h.o0
  refine ⟨h1, h0.2.1, ?_, ?_⟩
  · by_cases e : over = 1
    · exact Or.inr (h.ov e)
    · exact Or.inl (by omega)
  · by_cases e : w2 = 1
    · exact Or.inl (h.wt e)
    · exact Or.inr e
end
end Go.Proofs.Ytkecmiedeihdgaa
