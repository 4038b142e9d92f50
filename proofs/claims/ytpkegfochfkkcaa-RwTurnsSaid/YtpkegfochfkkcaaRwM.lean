/- Layer 16: of tasks that read, or write, over and over, who is inside are readers, or one writer; no condition but those in each theorem. -/
import Derived.Test.YtpkegfochfkkcaaRwA
import Derived.Test.YtpkegfochfkkcaaMutM
namespace Go.Proofs.Ytpkegfochfkkcaa
set_option linter.unusedVariables false
set_option linter.unusedSimpArgs false
/-- what a task counts as: of its frame, of what it does, and whether it is inside. -/
def clR (f : MFr) (d : Int) (b : Bool) : Nat :=
  if b = true then
    if d = 29 then (if f.stage = 0 then 3 else if f.stage = 1 then 4 else 5)
    else (if f.stage = 0 then 10 else if f.stage = 1 then 11 else 12)
  else if d = 28 then (if f.stage = 1 then (if f.need = 0 then 2 else 1) else 0)
  else if d = 30 then (if f.stage = 0 then 6 else if f.stage = 1 then 7 else if f.stage = 2 then 8 else if f.need = 0 then 13 else 9)
  else 0
structure OkR (f : MFr) (d : Int) (b : Bool) : Prop where
  inn : b = true → (d = 29 ∨ d = 31) ∧ f.op = d ∧ f.need = 0 ∧ (f.stage = 0 ∨ f.stage = 1 ∨ f.stage = 2)
  rd : b = false → d = 28 → f.op = 28 ∧ ((f.stage = 0 ∧ f.need = 0) ∨ (f.stage = 1 ∧ (f.need = 0 ∨ f.need = 4)))
  wr : b = false → d = 30 → f.op = 30 ∧ ((f.stage = 0 ∧ (f.need = 0 ∨ f.need = 2)) ∨ ((f.stage = 1 ∨ f.stage = 2) ∧ f.need = 0) ∨ (f.stage = 3 ∧ (f.need = 0 ∨ f.need = 3)))
  no : b = false → d ≠ 28 → d ≠ 30 → f = noF
/-- the mutex's side of a task. -/
def holdsR (c : Nat) : Bool := c == 7 || c == 8 || c == 9 || c == 10 || c == 11 || c == 13
def mfR (f : MFr) (d : Int) (b : Bool) : MFr := if clR f d b = 6 then f else if holdsR (clR f d b) = true then beginF 27 else if clR f d b = 12 then { f with op := 27 } else noF
def miR (f : MFr) (d : Int) (b : Bool) : Bool := holdsR (clR f d b) || clR f d b == 12
/-- a sum of numbers over six. -/
def sumZ (g : Nat → Int) : Int := g 0 + g 1 + g 2 + g 3 + g 4 + g 5
theorem sumZ_upd {g h : Nat → Int} {t : Nat} (ht : t < 6) (he : ∀ k, k ≠ t → g k = h k) : sumZ g + h t = sumZ h + g t := by
  unfold sumZ
  rcases (by omega : t = 0 ∨ t = 1 ∨ t = 2 ∨ t = 3 ∨ t = 4 ∨ t = 5) with rfl | rfl | rfl | rfl | rfl | rfl
  · rw [he 1 (by omega), he 2 (by omega), he 3 (by omega), he 4 (by omega), he 5 (by omega)]; omega
  · rw [he 0 (by omega), he 2 (by omega), he 3 (by omega), he 4 (by omega), he 5 (by omega)]; omega
  · rw [he 0 (by omega), he 1 (by omega), he 3 (by omega), he 4 (by omega), he 5 (by omega)]; omega
  · rw [he 0 (by omega), he 1 (by omega), he 2 (by omega), he 4 (by omega), he 5 (by omega)]; omega
  · rw [he 0 (by omega), he 1 (by omega), he 2 (by omega), he 3 (by omega), he 5 (by omega)]; omega
  · rw [he 0 (by omega), he 1 (by omega), he 2 (by omega), he 3 (by omega), he 4 (by omega)]; omega
def cntR (F : Nat → MFr) (D : Nat → Int) (I : Nat → Bool) (j : Nat) : Nat := sum6 fun k => if clR (F k) (D k) (I k) = j then 1 else 0
def lefR (F : Nat → MFr) (D : Nat → Int) (I : Nat → Bool) (j : Nat) : Int := sumZ fun k => if clR (F k) (D k) (I k) = j then (F k).left else 0
/-- what holds of the words, of how many tasks there are of each kind (n), of how many a writer found (l8), and of how many are to be let go (l11). -/
structure NumR (w2 w3 w4 w5 : Int) (n : Nat → Nat) (l8 l11 : Int) : Prop where
  p2 : 0 ≤ w2
  p3 : 0 ≤ w3
  one : n 7 + n 8 + n 9 + n 10 + n 11 + n 13 ≤ 1
  e4 : w4 = (n 1 + n 2 + n 3 : Nat) - 1048576 * ((n 8 + n 9 + n 13 + n 10 : Nat) : Int)
  e0 : n 8 + n 9 + n 13 + n 10 = 0 → w5 = 0 ∧ n 4 = 0 ∧ n 5 = 0 ∧ w2 = 0 ∧ (n 1 : Int) = w3 + l11
  e8 : 1 ≤ n 8 → l8 + w5 = (n 2 + n 3 + n 4 : Nat) + w3 ∧ w5 ≤ 0 ∧ n 5 = 0 ∧ w2 = 0 ∧ w3 ≤ n 1
  e9 : 1 ≤ n 9 → w5 = (n 2 + n 3 + n 4 : Nat) + w3 ∧ (w5 = 0 → (n 5 : Int) + w2 = 1) ∧ (w5 ≠ 0 → n 5 = 0 ∧ w2 = 0) ∧ w3 ≤ n 1
  e10 : 1 ≤ n 13 + n 10 → w5 = 0 ∧ n 2 = 0 ∧ n 3 = 0 ∧ n 4 = 0 ∧ w3 = 0 ∧ n 5 = 0 ∧ w2 = 0
  q11 : 0 ≤ l11
  z11 : n 11 = 0 → l11 = 0
  z8 : n 8 = 0 → l8 = 0
  b8 : l8 ≤ 6
structure RInv (w0 w1 w2 w3 w4 w5 : Int) (F : Nat → MFr) (D : Nat → Int) (I W : Nat → Bool) (r1 r2 r3 : List Nat) : Prop where
  mu : MInv w0 w1 (fun k => mfR (F k) (D k) (I k)) (fun k => miR (F k) (D k) (I k)) (fun k => W k && decide ((F k).need = 2)) r1
  ok : ∀ k, k < 6 → OkR (F k) (D k) (I k)
  num : NumR w2 w3 w4 w5 (cntR F D I) (lefR F D I 8) (lefR F D I 11)
  n2 : r2.Nodup
  n3 : r3.Nodup
  m2 : ∀ k, k ∈ r2 ↔ k < 6 ∧ W k = true ∧ (F k).need = 3
  m3 : ∀ k, k ∈ r3 ↔ k < 6 ∧ W k = true ∧ (F k).need = 4
  wn : ∀ k, k < 6 → W k = true → (F k).need = 2 ∨ (F k).need = 3 ∨ (F k).need = 4
section
variable {w0 w1 w2 w3 w4 w5 : Int} {F : Nat → MFr} {D : Nat → Int} {I W : Nat → Bool} {r1 r2 r3 : List Nat} {t : Nat}
theorem cntR_upd (ht : t < 6) (f' : MFr) (d' : Int) (b' : Bool) (j : Nat) : cntR (updN F t f') (updN D t d') (updN I t b') j + (if clR (F t) (D t) (I t) = j then 1 else 0) = cntR F D I j + (if clR f' d' b' = j then 1 else 0) := by
  have h := sum6_upd (g := fun k => if clR (updN F t f' k) (updN D t d' k) (updN I t b' k) = j then 1 else 0) (h := fun k => if clR (F k) (D k) (I k) = j then 1 else 0) ht (fun k hk => by simp only [updN_ne hk])
  simp only [updN_self] at h
  exact h
theorem lefR_upd (ht : t < 6) (f' : MFr) (d' : Int) (b' : Bool) (j : Nat) : lefR (updN F t f') (updN D t d') (updN I t b') j + (if clR (F t) (D t) (I t) = j then (F t).left else 0) = lefR F D I j + (if clR f' d' b' = j then f'.left else 0) := by
  have h := sumZ_upd (g := fun k => if clR (updN F t f' k) (updN D t d' k) (updN I t b' k) = j then (updN F t f' k).left else 0) (h := fun k => if clR (F k) (D k) (I k) = j then (F k).left else 0) ht (fun k hk => by simp only [updN_ne hk])
  simp only [updN_self] at h
  exact h
theorem cntR_ge (ht : t < 6) {j : Nat} (hc : clR (F t) (D t) (I t) = j) : 1 ≤ cntR F D I j := by
  have h := sum6_ge (g := fun k => if clR (F k) (D k) (I k) = j then 1 else 0) ht
  simp only [if_pos hc] at h
  exact h
theorem sumZ_one {g : Nat → Int} (ht : t < 6) (h : ∀ k, k < 6 → k ≠ t → g k = 0) : sumZ g = g t := by
  unfold sumZ
  rcases (by omega : t = 0 ∨ t = 1 ∨ t = 2 ∨ t = 3 ∨ t = 4 ∨ t = 5) with rfl | rfl | rfl | rfl | rfl | rfl
  · rw [h 1 (by omega) (by omega), h 2 (by omega) (by omega), h 3 (by omega) (by omega), h 4 (by omega) (by omega), h 5 (by omega) (by omega)]; omega
  · rw [h 0 (by omega) (by omega), h 2 (by omega) (by omega), h 3 (by omega) (by omega), h 4 (by omega) (by omega), h 5 (by omega) (by omega)]; omega
  · rw [h 0 (by omega) (by omega), h 1 (by omega) (by omega), h 3 (by omega) (by omega), h 4 (by omega) (by omega), h 5 (by omega) (by omega)]; omega
  · rw [h 0 (by omega) (by omega), h 1 (by omega) (by omega), h 2 (by omega) (by omega), h 4 (by omega) (by omega), h 5 (by omega) (by omega)]; omega
  · rw [h 0 (by omega) (by omega), h 1 (by omega) (by omega), h 2 (by omega) (by omega), h 3 (by omega) (by omega), h 5 (by omega) (by omega)]; omega
  · rw [h 0 (by omega) (by omega), h 1 (by omega) (by omega), h 2 (by omega) (by omega), h 3 (by omega) (by omega), h 4 (by omega) (by omega)]; omega
theorem lef_one (ht : t < 6) {j : Nat} (hc : clR (F t) (D t) (I t) = j) (h1 : cntR F D I j ≤ 1) : lefR F D I j = (F t).left := by
  have hz := sumZ_one (g := fun k => if clR (F k) (D k) (I k) = j then (F k).left else 0) ht (fun k hk hne => by
    show (if clR (F k) (D k) (I k) = j then (F k).left else 0) = 0
    by_cases e : clR (F k) (D k) (I k) = j
    · have h2 := sum6_two (g := fun k => if clR (F k) (D k) (I k) = j then 1 else 0) ht hk (Ne.symm hne)
      simp only [if_pos hc, if_pos e] at h2
      unfold cntR at h1
      omega
    · rw [if_neg e])
  simp only [if_pos hc] at hz
  exact hz
theorem all_le (F : Nat → MFr) (D : Nat → Int) (I : Nat → Bool) : cntR F D I 1 + cntR F D I 2 + cntR F D I 3 + cntR F D I 4 + cntR F D I 5 ≤ 6 := by
  have h : ∀ c : Nat, (if c = 1 then 1 else 0) + (if c = 2 then 1 else 0) + (if c = 3 then 1 else 0) + (if c = 4 then 1 else 0) + (if c = 5 then 1 else 0) ≤ 1 := fun c => by
    rcases (by omega : c = 1 ∨ c = 2 ∨ c = 3 ∨ c = 4 ∨ c = 5 ∨ (c ≠ 1 ∧ c ≠ 2 ∧ c ≠ 3 ∧ c ≠ 4 ∧ c ≠ 5)) with rfl | rfl | rfl | rfl | rfl | ⟨h1, h2, h3, h4, h5⟩
    · decide
    · decide
    · decide
    · decide
    · decide
    · rw [if_neg h1, if_neg h2, if_neg h3, if_neg h4, if_neg h5]; decide
  have k0 := h (clR (F 0) (D 0) (I 0)); have k1 := h (clR (F 1) (D 1) (I 1)); have k2 := h (clR (F 2) (D 2) (I 2)); have k3 := h (clR (F 3) (D 3) (I 3)); have k4 := h (clR (F 4) (D 4) (I 4)); have k5 := h (clR (F 5) (D 5) (I 5))
  unfold cntR sum6
  dsimp only
  omega
theorem hold_ge (F : Nat → MFr) (D : Nat → Int) (I : Nat → Bool) : cntR F D I 7 + cntR F D I 8 + cntR F D I 9 + cntR F D I 10 + cntR F D I 11 + cntR F D I 13 ≤ sumI holdI (fun k => mfR (F k) (D k) (I k)) (fun k => miR (F k) (D k) (I k)) := by
  have h : ∀ k : Nat, (if clR (F k) (D k) (I k) = 7 then 1 else 0) + (if clR (F k) (D k) (I k) = 8 then 1 else 0) + (if clR (F k) (D k) (I k) = 9 then 1 else 0) + (if clR (F k) (D k) (I k) = 10 then 1 else 0) + (if clR (F k) (D k) (I k) = 11 then 1 else 0) + (if clR (F k) (D k) (I k) = 13 then 1 else 0) ≤ holdI (mfR (F k) (D k) (I k)) (miR (F k) (D k) (I k)) := fun k => by
    unfold mfR miR
    generalize clR (F k) (D k) (I k) = c
    rcases (by omega : c = 7 ∨ c = 8 ∨ c = 9 ∨ c = 10 ∨ c = 11 ∨ c = 13 ∨ (c ≠ 7 ∧ c ≠ 8 ∧ c ≠ 9 ∧ c ≠ 10 ∧ c ≠ 11 ∧ c ≠ 13)) with rfl | rfl | rfl | rfl | rfl | rfl | ⟨h1, h2, h3, h4, h5, h6⟩
    · exact Nat.le_refl _
    · exact Nat.le_refl _
    · exact Nat.le_refl _
    · exact Nat.le_refl _
    · exact Nat.le_refl _
    · exact Nat.le_refl _
    · rw [if_neg h1, if_neg h2, if_neg h3, if_neg h4, if_neg h5, if_neg h6]; exact Nat.zero_le _
  have k0 := h 0; have k1 := h 1; have k2 := h 2; have k3 := h 3; have k4 := h 4; have k5 := h 5
  unfold cntR sumI sum6
  dsimp only at k0 k1 k2 k3 k4 k5 ⊢
  omega
theorem one_of {v0 v1 : Int} {V : Nat → Bool} (m : MInv v0 v1 (fun k => mfR (F k) (D k) (I k)) (fun k => miR (F k) (D k) (I k)) V r1) : cntR F D I 7 + cntR F D I 8 + cntR F D I 9 + cntR F D I 10 + cntR F D I 11 + cntR F D I 13 ≤ 1 := by
  have h1 := hold_ge F D I
  have h2 := m.H
  omega
/-- one task changes, and the words: what must be shown. -/
theorem RInv.upd (h : RInv w0 w1 w2 w3 w4 w5 F D I W r1 r2 r3) (ht : t < 6) (hW : W t = false) (f' : MFr) (d' : Int) (b' : Bool) {v0 v1 v2 v3 v4 v5 : Int} {c c' : Nat} (hc : clR (F t) (D t) (I t) = c) (hc' : clR f' d' b' = c')
    (mu : MInv v0 v1 (updN (fun k => mfR (F k) (D k) (I k)) t (mfR f' d' b')) (updN (fun k => miR (F k) (D k) (I k)) t (miR f' d' b')) (fun k => W k && decide ((F k).need = 2)) r1) (ok : OkR f' d' b')
    (num : ∀ (n n' : Nat → Nat) (l8 l11 l8' l11' : Int), NumR w2 w3 w4 w5 n l8 l11 → n 1 + n 2 + n 3 + n 4 + n 5 ≤ 6 → 1 ≤ n c → n' 7 + n' 8 + n' 9 + n' 10 + n' 11 + n' 13 ≤ 1 → (c = 8 → n 8 ≤ 1 → l8 = (F t).left) → (c = 11 → n 11 ≤ 1 → l11 = (F t).left) → (∀ j, n' j + (if c = j then 1 else 0) = n j + (if c' = j then 1 else 0)) → l8' + (if c = 8 then (F t).left else 0) = l8 + (if c' = 8 then f'.left else 0) → l11' + (if c = 11 then (F t).left else 0) = l11 + (if c' = 11 then f'.left else 0) → NumR v2 v3 v4 v5 n' l8' l11') :
    RInv v0 v1 v2 v3 v4 v5 (updN F t f') (updN D t d') (updN I t b') W r1 r2 r3 := by
  subst hc; subst hc'
  have e1 : (fun k => mfR (updN F t f' k) (updN D t d' k) (updN I t b' k)) = updN (fun k => mfR (F k) (D k) (I k)) t (mfR f' d' b') := by
    funext k; by_cases e : k = t
    · subst e; simp only [updN_self]
    · simp only [updN_ne e]
  have e2 : (fun k => miR (updN F t f' k) (updN D t d' k) (updN I t b' k)) = updN (fun k => miR (F k) (D k) (I k)) t (miR f' d' b') := by
    funext k; by_cases e : k = t
    · subst e; simp only [updN_self]
    · simp only [updN_ne e]
  have e3 : (fun k => W k && decide ((updN F t f' k).need = 2)) = (fun k => W k && decide ((F k).need = 2)) := by
    funext k; by_cases e : k = t
    · subst e; rw [hW, Bool.false_and, Bool.false_and]
    · simp only [updN_ne e]
  have mu2 : MInv v0 v1 (fun k => mfR (updN F t f' k) (updN D t d' k) (updN I t b' k)) (fun k => miR (updN F t f' k) (updN D t d' k) (updN I t b' k)) (fun k => W k && decide ((F k).need = 2)) r1 := by rw [e1, e2]; exact mu
  refine ⟨by rw [e3]; exact mu2, fun k hk => ?_, num _ _ _ _ _ _ h.num (all_le F D I) (cntR_ge ht rfl) (one_of mu2) (fun e h1 => by have h2 := lef_one (j := 8) ht e h1; exact h2) (fun e h1 => by have h2 := lef_one (j := 11) ht e h1; exact h2) (fun j => cntR_upd ht f' d' b' j) (lefR_upd ht f' d' b' 8) (lefR_upd ht f' d' b' 11), h.n2, h.n3, fun k => ?_, fun k => ?_, fun k hk hw => ?_⟩
  · by_cases e : k = t
    · subst e; simp only [updN_self]; exact ok
    · simp only [updN_ne e]; exact h.ok k hk
  · rw [h.m2 k]; by_cases e : k = t
    · subst e; simp [hW]
    · simp only [updN_ne e]
  · rw [h.m3 k]; by_cases e : k = t
    · subst e; simp [hW]
    · simp only [updN_ne e]
  · have e : k ≠ t := fun e => by subst e; rw [hW] at hw; cases hw
    simp only [updN_ne e]; exact h.wn k hk hw
theorem RInv.mu_same (h : RInv w0 w1 w2 w3 w4 w5 F D I W r1 r2 r3) {f' : MFr} {d' : Int} {b' : Bool} (e1 : mfR f' d' b' = mfR (F t) (D t) (I t)) (e2 : miR f' d' b' = miR (F t) (D t) (I t)) : MInv w0 w1 (updN (fun k => mfR (F k) (D k) (I k)) t (mfR f' d' b')) (updN (fun k => miR (F k) (D k) (I k)) t (miR f' d' b')) (fun k => W k && decide ((F k).need = 2)) r1 := by
  have h1 : updN (fun k => mfR (F k) (D k) (I k)) t (mfR f' d' b') = (fun k => mfR (F k) (D k) (I k)) := by
    funext k; unfold updN; split
    · rename_i e; rw [e, e1]
    · rfl
  have h2 : updN (fun k => miR (F k) (D k) (I k)) t (miR f' d' b') = (fun k => miR (F k) (D k) (I k)) := by
    funext k; unfold updN; split
    · rename_i e; rw [e, e2]
    · rfl
  rw [h1, h2]; exact h.mu
/-- the numbers' goal of a change of kind, by what each number was. -/
theorem num_eqs {n n' : Nat → Nat} {c c' : Nat} (h : ∀ j, n' j + (if c = j then 1 else 0) = n j + (if c' = j then 1 else 0)) :
    (n' 1 + (if c = 1 then 1 else 0) = n 1 + (if c' = 1 then 1 else 0)) ∧ (n' 2 + (if c = 2 then 1 else 0) = n 2 + (if c' = 2 then 1 else 0)) ∧ (n' 3 + (if c = 3 then 1 else 0) = n 3 + (if c' = 3 then 1 else 0)) ∧ (n' 4 + (if c = 4 then 1 else 0) = n 4 + (if c' = 4 then 1 else 0)) ∧ (n' 5 + (if c = 5 then 1 else 0) = n 5 + (if c' = 5 then 1 else 0)) ∧ (n' 7 + (if c = 7 then 1 else 0) = n 7 + (if c' = 7 then 1 else 0)) ∧ (n' 8 + (if c = 8 then 1 else 0) = n 8 + (if c' = 8 then 1 else 0)) ∧ (n' 9 + (if c = 9 then 1 else 0) = n 9 + (if c' = 9 then 1 else 0)) ∧ (n' 10 + (if c = 10 then 1 else 0) = n 10 + (if c' = 10 then 1 else 0)) ∧ (n' 11 + (if c = 11 then 1 else 0) = n 11 + (if c' = 11 then 1 else 0)) ∧ (n' 13 + (if c = 13 then 1 else 0) = n 13 + (if c' = 13 then 1 else 0)) :=
  ⟨h 1, h 2, h 3, h 4, h 5, h 7, h 8, h 9, h 10, h 11, h 13⟩
theorem RInv.small (h : RInv w0 w1 w2 w3 w4 w5 F D I W r1 r2 r3) : -1048577 < w4 ∧ w4 ≤ 6 ∧ -1000 < w3 ∧ w3 ≤ 6 ∧ w2 ≤ 1 := by
  obtain ⟨p2, p3, one, e4, e0, e8, e9, e10, q11, z11, z8, b8⟩ := h.num
  have all := all_le F D I
  generalize cntR F D I = n at *
  omega
/-- what a step comes to: it is done (of a frame that begins what comes next), or it goes on. -/
def RStep (d0 d1 : Int) (w1 w2 w3 : Int) (F : Nat → MFr) (D : Nat → Int) (I W : Nat → Bool) (r1 r2 r3 : List Nat) (t : Nat) (r : RwR) : Prop :=
  (r.2.2 = doneA ∧ RInv r.1.1 w1 w2 w3 r.1.2.1 r.1.2.2 (updN F t (beginF d1)) (updN D t d1) (updN I t true) W r1 r2 r3) ∨ (r.2.2 = noA ∧ RInv r.1.1 w1 w2 w3 r.1.2.1 r.1.2.2 (updN F t r.2.1) (updN D t d0) (updN I t false) W r1 r2 r3)
theorem okb29 : OkR (beginF 29) 29 true := ⟨fun _ => ⟨Or.inl rfl, rfl, rfl, Or.inl rfl⟩, fun h => (by cases h), fun h => (by cases h), fun h => (by cases h)⟩
theorem okb31 : OkR (beginF 31) 31 true := ⟨fun _ => ⟨Or.inr rfl, rfl, rfl, Or.inl rfl⟩, fun h => (by cases h), fun h => (by cases h), fun h => (by cases h)⟩
theorem okn (d : Int) (h1 : d ≠ 28) (h2 : d ≠ 30) : OkR noF d false := ⟨fun h => (by cases h), fun _ h => absurd h h1, fun _ h => absurd h h2, fun _ _ _ => rfl⟩
set_option maxHeartbeats 4000000 in
theorem RInv.rlock (h : RInv w0 w1 w2 w3 w4 w5 F D I W r1 r2 r3) (ht : t < 6) (hW : W t = false) (hI : I t = false) (hD : D t = 28) (hn : (F t).need = 0) :
    RStep 28 29 w1 w2 w3 F D I W r1 r2 r3 t (rlockW w0 w4 w5 (F t)) := by
  have hs := h.small
  obtain ⟨ho, hk⟩ := (h.ok t ht).rd hI hD
  obtain ⟨⟨op, stage, phase, old, since, left, awoke, starve, need, front⟩, hf⟩ : ∃ f, F t = f := ⟨_, rfl⟩
  rw [hf] at ho hk hn ⊢
  simp only at ho hk hn
  subst ho; subst hn
  unfold RStep rlockW
  rcases (by omega : stage = 0 ∨ stage = 1) with rfl | rfl
  · have hc : clR (F t) (D t) (I t) = 0 := by rw [hf, hD, hI]; rfl
    have hwr : IntKind.i64.wrap (w4 + 1) = w4 + 1 := by rw [IntKind.wrap_i64]; omega
    rw [if_neg (show ¬ ((0 : Int) = 1) by decide), if_neg (show ¬ ((0 : Int) ≠ 0) by decide), hwr]
    by_cases hx : w4 + 1 < 0
    · rw [if_pos hx]
      refine Or.inr ⟨rfl, ?_⟩
      have hc' : clR ⟨28, 1, phase, old, since, left, awoke, starve, 4, front⟩ 28 false = 1 := rfl
      refine h.upd ht hW _ _ _ hc hc' (h.mu_same (by unfold mfR; rw [hc, hc'] <;> rfl) (by unfold miR; rw [hc, hc'] <;> rfl)) ⟨fun h => (by cases h), fun _ _ => ⟨rfl, Or.inr ⟨rfl, Or.inr rfl⟩⟩, fun _ h => (by cases h), fun _ h => absurd rfl h⟩ ?_
      intro n n' l8 l11 l8' l11' hN all hge one' _ _ he h8 h11
      obtain ⟨f1, f2, f3, f4, f5, f7, f8, f9, f10, f11, f13⟩ := num_eqs he
      obtain ⟨p2, p3, one, e4, e0, e8, e9, e10, q11, z11, z8, b8⟩ := hN
      simp at f1 f2 f3 f4 f5 f7 f8 f9 f10 f11 f13 h8 h11
      try dsimp only
      constructor <;> omega
    · rw [if_neg hx]
      refine Or.inl ⟨rfl, ?_⟩
      have hc' : clR (beginF 29) 29 true = 3 := rfl
      refine h.upd ht hW _ _ _ hc hc' (h.mu_same (by unfold mfR; rw [hc, hc'] <;> rfl) (by unfold miR; rw [hc, hc'] <;> rfl)) okb29 ?_
      intro n n' l8 l11 l8' l11' hN all hge one' _ _ he h8 h11
      obtain ⟨f1, f2, f3, f4, f5, f7, f8, f9, f10, f11, f13⟩ := num_eqs he
      obtain ⟨p2, p3, one, e4, e0, e8, e9, e10, q11, z11, z8, b8⟩ := hN
      simp at f1 f2 f3 f4 f5 f7 f8 f9 f10 f11 f13 h8 h11
      try dsimp only
      constructor <;> omega
  · have hc : clR (F t) (D t) (I t) = 2 := by rw [hf, hD, hI]; rfl
    rw [if_pos rfl]
    refine Or.inl ⟨rfl, ?_⟩
    have hc' : clR (beginF 29) 29 true = 3 := rfl
    refine h.upd ht hW _ _ _ hc hc' (h.mu_same (by unfold mfR; rw [hc, hc'] <;> rfl) (by unfold miR; rw [hc, hc'] <;> rfl)) okb29 ?_
    intro n n' l8 l11 l8' l11' hN all hge one' _ _ he h8 h11
    obtain ⟨f1, f2, f3, f4, f5, f7, f8, f9, f10, f11, f13⟩ := num_eqs he
    obtain ⟨p2, p3, one, e4, e0, e8, e9, e10, q11, z11, z8, b8⟩ := hN
    simp at f1 f2 f3 f4 f5 f7 f8 f9 f10 f11 f13 h8 h11
    try dsimp only
    constructor <;> omega
/-- what a step of reading no more comes to: it is done, or it goes on; a unit of the writer's semaphore may be given. -/
def RStep2 (d : Int) (w1 w2 w3 : Int) (F : Nat → MFr) (D : Nat → Int) (I W : Nat → Bool) (r1 r2 r3 : List Nat) (t : Nat) (r : RwR) : Prop :=
  (r.2.2 = doneA ∧ RInv r.1.1 w1 w2 w3 r.1.2.1 r.1.2.2 (updN F t r.2.1) (updN D t d) (updN I t false) W r1 r2 r3) ∨ (r.2.2 = noA ∧ RInv r.1.1 w1 w2 w3 r.1.2.1 r.1.2.2 (updN F t r.2.1) (updN D t d) (updN I t true) W r1 r2 r3) ∨ (r.2.2 = ⟨true, 3, false, 0⟩ ∧ RInv r.1.1 w1 (w2 + 1) w3 r.1.2.1 r.1.2.2 (updN F t r.2.1) (updN D t d) (updN I t false) W r1 r2 r3)
set_option maxHeartbeats 4000000 in
theorem RInv.runlock (h : RInv w0 w1 w2 w3 w4 w5 F D I W r1 r2 r3) (ht : t < 6) (hW : W t = false) (hI : I t = true) (hD : D t = 29) :
    RStep2 29 w1 w2 w3 F D I W r1 r2 r3 t (runlockW w0 w4 w5 (F t)) := by
  have hs := h.small
  obtain ⟨_, ho, hn, hk⟩ := (h.ok t ht).inn hI
  rw [hD] at ho
  have hN0 := h.num
  have all0 := all_le F D I
  have hge0 := fun j (e : clR (F t) (D t) (I t) = j) => cntR_ge (F := F) (D := D) (I := I) ht e
  obtain ⟨⟨op, stage, phase, old, since, left, awoke, starve, need, front⟩, hf⟩ : ∃ f, F t = f := ⟨_, rfl⟩
  rw [hf] at ho hk hn ⊢
  simp only at ho hk hn
  subst ho; subst hn
  unfold RStep2 runlockW
  rcases hk with rfl | rfl | rfl
  · have hc : clR (F t) (D t) (I t) = 3 := by rw [hf, hD, hI]; rfl
    have hwr : IntKind.i64.wrap (w4 - 1) = w4 - 1 := by rw [IntKind.wrap_i64]; omega
    have hg := hge0 3 hc
    obtain ⟨p2, p3, one, e4, e0, e8, e9, e10, q11, z11, z8, b8⟩ := hN0
    rw [if_pos rfl, if_neg (show ¬ (w4 = 0 ∨ w4 = -1048576) by generalize cntR F D I = n at *; omega), hwr]
    clear e4 e0 e8 e9 e10
    by_cases hx : w4 - 1 < 0
    · rw [if_pos hx]
      refine Or.inr (Or.inl ⟨rfl, ?_⟩)
      have hc' : clR ⟨29, 1, phase, old, since, left, awoke, starve, 0, front⟩ 29 true = 4 := rfl
      refine h.upd ht hW _ _ _ hc hc' (h.mu_same (by unfold mfR; rw [hc, hc'] <;> rfl) (by unfold miR; rw [hc, hc'] <;> rfl)) ⟨fun _ => ⟨Or.inl rfl, rfl, rfl, Or.inr (Or.inl rfl)⟩, fun h => (by cases h), fun h => (by cases h), fun h => (by cases h)⟩ ?_
      intro n n' l8 l11 l8' l11' hN all hge one' _ _ he h8 h11
      obtain ⟨f1, f2, f3, f4, f5, f7, f8, f9, f10, f11, f13⟩ := num_eqs he
      obtain ⟨p2, p3, one, e4, e0, e8, e9, e10, q11, z11, z8, b8⟩ := hN
      simp at f1 f2 f3 f4 f5 f7 f8 f9 f10 f11 f13 h8 h11
      try dsimp only
      constructor <;> omega
    · rw [if_neg hx]
      refine Or.inl ⟨rfl, ?_⟩
      have hc' : clR noF 29 false = 0 := rfl
      refine h.upd ht hW _ _ _ hc hc' (h.mu_same (by unfold mfR; rw [hc, hc'] <;> rfl) (by unfold miR; rw [hc, hc'] <;> rfl)) (okn 29 (by decide) (by decide)) ?_
      intro n n' l8 l11 l8' l11' hN all hge one' _ _ he h8 h11
      obtain ⟨f1, f2, f3, f4, f5, f7, f8, f9, f10, f11, f13⟩ := num_eqs he
      obtain ⟨p2, p3, one, e4, e0, e8, e9, e10, q11, z11, z8, b8⟩ := hN
      simp at f1 f2 f3 f4 f5 f7 f8 f9 f10 f11 f13 h8 h11
      try dsimp only
      constructor <;> omega
  · have hc : clR (F t) (D t) (I t) = 4 := by rw [hf, hD, hI]; rfl
    have hg := hge0 4 hc
    obtain ⟨p2, p3, one, e4, e0, e8, e9, e10, q11, z11, z8, b8⟩ := hN0
    have hwr : IntKind.i64.wrap (w5 - 1) = w5 - 1 := by
      rw [IntKind.wrap_i64]
      generalize cntR F D I = n at *
      omega
    rw [if_neg (show ¬ ((1 : Int) = 0) by decide), if_pos rfl, hwr]
    clear e4 e0 e8 e9 e10
    by_cases hx : w5 - 1 = 0
    · rw [if_pos hx]
      refine Or.inr (Or.inl ⟨rfl, ?_⟩)
      have hc' : clR ⟨29, 2, phase, old, since, left, awoke, starve, 0, front⟩ 29 true = 5 := rfl
      refine h.upd ht hW _ _ _ hc hc' (h.mu_same (by unfold mfR; rw [hc, hc'] <;> rfl) (by unfold miR; rw [hc, hc'] <;> rfl)) ⟨fun _ => ⟨Or.inl rfl, rfl, rfl, Or.inr (Or.inr rfl)⟩, fun h => (by cases h), fun h => (by cases h), fun h => (by cases h)⟩ ?_
      intro n n' l8 l11 l8' l11' hN all hge one' _ _ he h8 h11
      obtain ⟨f1, f2, f3, f4, f5, f7, f8, f9, f10, f11, f13⟩ := num_eqs he
      obtain ⟨p2, p3, one, e4, e0, e8, e9, e10, q11, z11, z8, b8⟩ := hN
      simp at f1 f2 f3 f4 f5 f7 f8 f9 f10 f11 f13 h8 h11
      try dsimp only
      constructor <;> omega
    · rw [if_neg hx]
      refine Or.inl ⟨rfl, ?_⟩
      have hc' : clR noF 29 false = 0 := rfl
      refine h.upd ht hW _ _ _ hc hc' (h.mu_same (by unfold mfR; rw [hc, hc'] <;> rfl) (by unfold miR; rw [hc, hc'] <;> rfl)) (okn 29 (by decide) (by decide)) ?_
      intro n n' l8 l11 l8' l11' hN all hge one' _ _ he h8 h11
      obtain ⟨f1, f2, f3, f4, f5, f7, f8, f9, f10, f11, f13⟩ := num_eqs he
      obtain ⟨p2, p3, one, e4, e0, e8, e9, e10, q11, z11, z8, b8⟩ := hN
      simp at f1 f2 f3 f4 f5 f7 f8 f9 f10 f11 f13 h8 h11
      try dsimp only
      constructor <;> omega
  · have hc : clR (F t) (D t) (I t) = 5 := by rw [hf, hD, hI]; rfl
    rw [if_neg (show ¬ ((2 : Int) = 0) by decide), if_neg (show ¬ ((2 : Int) = 1) by decide), if_pos rfl]
    refine Or.inr (Or.inr ⟨rfl, ?_⟩)
    have hc' : clR noF 29 false = 0 := rfl
    refine h.upd ht hW _ _ _ hc hc' (h.mu_same (by unfold mfR; rw [hc, hc'] <;> rfl) (by unfold miR; rw [hc, hc'] <;> rfl)) (okn 29 (by decide) (by decide)) ?_
    intro n n' l8 l11 l8' l11' hN all hge one' _ _ he h8 h11
    obtain ⟨f1, f2, f3, f4, f5, f7, f8, f9, f10, f11, f13⟩ := num_eqs he
    obtain ⟨p2, p3, one, e4, e0, e8, e9, e10, q11, z11, z8, b8⟩ := hN
    simp at f1 f2 f3 f4 f5 f7 f8 f9 f10 f11 f13 h8 h11
    try dsimp only
    constructor <;> omega
/-- a step of locking that isn't done keeps the stage and what is done; it wants at most a unit. -/
theorem lock_keep {w : Int} {f : MFr} {now pat : Int} (h : (lockM w f now pat).2.2 = noA) : (lockM w f now pat).2.1.stage = f.stage ∧ (lockM w f now pat).2.1.op = f.op ∧ ((lockM w f now pat).2.1.need = f.need ∨ (lockM w f now pat).2.1.need = 2) := by
  have hx : noA ≠ doneA := fun e => by injection e with e1; cases e1
  unfold lockM at h ⊢
  split
  · rename_i h1; rw [if_pos h1] at h; exact absurd h.symm hx
  rename_i h1; rw [if_neg h1] at h
  split
  · exact ⟨rfl, rfl, Or.inl rfl⟩
  rename_i h2; rw [if_neg h2] at h
  split
  · exact ⟨rfl, rfl, Or.inl rfl⟩
  rename_i h3; rw [if_neg h3] at h
  split
  · rename_i h4; rw [if_pos h4] at h
    split
    · rename_i h5; rw [if_pos h5] at h; exact absurd h.symm hx
    · exact ⟨rfl, rfl, Or.inr rfl⟩
  rename_i h4; rw [if_neg h4] at h
  split
  · exact ⟨rfl, rfl, Or.inl rfl⟩
  rename_i h5; rw [if_neg h5] at h
  split
  · rename_i h6; rw [if_pos h6] at h; exact absurd h.symm hx
  · exact ⟨rfl, rfl, Or.inl rfl⟩
set_option maxHeartbeats 4000000 in
theorem RInv.wlock (h : RInv w0 w1 w2 w3 w4 w5 F D I W r1 r2 r3) (ht : t < 6) (hW : W t = false) (hI : I t = false) (hD : D t = 30) (hn : (F t).need = 0) (now pat : Int) :
    RStep 30 31 w1 w2 w3 F D I W r1 r2 r3 t (wlockW w0 w4 w5 (F t) now pat) := by
  have hs := h.small
  obtain ⟨ho, hk⟩ := (h.ok t ht).wr hI hD
  have hN0 := h.num
  have all0 := all_le F D I
  have hge0 := fun j (e : clR (F t) (D t) (I t) = j) => cntR_ge (F := F) (D := D) (I := I) ht e
  have hlef := fun j (e : clR (F t) (D t) (I t) = j) (k : cntR F D I j ≤ 1) => lef_one (F := F) (D := D) (I := I) ht e k
  have hst : (F t).stage = 0 ∨ (F t).stage = 1 ∨ (F t).stage = 2 ∨ (F t).stage = 3 := by omega
  rcases hst with hst | hst | hst | hst
  · have hc : clR (F t) (D t) (I t) = 6 := by unfold clR; rw [hI, hD, hst]; rfl
    have em : mfR (F t) (D t) (I t) = F t := by unfold mfR; rw [hc]; rfl
    have ei : miR (F t) (D t) (I t) = false := by unfold miR; rw [hc]; rfl
    have hL := h.mu.lock (t := t) ht (by rw [hW]; rfl) ei (by rw [em]; exact hn) now pat
    rw [em] at hL
    unfold RStep wlockW
    rw [if_pos hst]
    rcases hL with ⟨h1, h2, _⟩ | ⟨h1, h2⟩
    · rw [h1, if_pos (show doneA.done = true from rfl)]
      refine Or.inr ⟨rfl, ?_⟩
      have hc' : clR (stageF (F t) 1) 30 false = 7 := rfl
      refine h.upd ht hW _ _ _ hc hc' (by have e1 : mfR (stageF (F t) 1) 30 false = beginF 27 := rfl; have e2 : miR (stageF (F t) 1) 30 false = true := rfl; rw [e1, e2]; exact h2) ⟨fun h => (by cases h), fun _ h => (by cases h), fun _ _ => ⟨ho, Or.inr (Or.inl ⟨Or.inl rfl, rfl⟩)⟩, fun _ _ h => absurd rfl h⟩ ?_
      intro n n' l8 l11 l8' l11' hN all hge one' hl8 hl11 he h8 h11
      obtain ⟨f1, f2, f3, f4, f5, f7, f8, f9, f10, f11, f13⟩ := num_eqs he
      obtain ⟨p2, p3, one, e4, e0, e8, e9, e10, q11, z11, z8, b8⟩ := hN
      simp at f1 f2 f3 f4 f5 f7 f8 f9 f10 f11 f13 h8 h11 hl8 hl11
      try dsimp only
      constructor <;> omega
    · rw [h1, if_neg (show ¬ (noA.done = true) by decide)]
      refine Or.inr ⟨rfl, ?_⟩
      obtain ⟨k1, k2, k3⟩ := lock_keep h1
      generalize (lockM w0 (F t) now pat).2.1 = g at *
      have hc' : clR g 30 false = 6 := by unfold clR; rw [k1, hst]; rfl
      refine h.upd ht hW _ _ _ hc hc' (by have e1 : mfR g 30 false = g := by { unfold mfR; rw [hc']; rfl }; have e2 : miR g 30 false = false := by { unfold miR; rw [hc']; rfl }; rw [e1, e2]; exact h2) ⟨fun h => (by cases h), fun _ h => (by cases h), fun _ _ => ⟨k2.trans ho, Or.inl ⟨k1.trans hst, by rw [hn] at k3; exact k3⟩⟩, fun _ _ h => absurd rfl h⟩ ?_
      intro n n' l8 l11 l8' l11' hN all hge one' hl8 hl11 he h8 h11
      obtain ⟨f1, f2, f3, f4, f5, f7, f8, f9, f10, f11, f13⟩ := num_eqs he
      obtain ⟨p2, p3, one, e4, e0, e8, e9, e10, q11, z11, z8, b8⟩ := hN
      simp at f1 f2 f3 f4 f5 f7 f8 f9 f10 f11 f13 h8 h11 hl8 hl11
      try dsimp only
      constructor <;> omega
  · have hc : clR (F t) (D t) (I t) = 7 := by unfold clR; rw [hI, hD, hst]; rfl
    have hg := hge0 7 hc
    obtain ⟨⟨op, stage, phase, old, since, left, awoke, starve, need, front⟩, hf⟩ : ∃ f, F t = f := ⟨_, rfl⟩
    rw [hf] at ho hn hst ⊢
    simp only at ho hn hst
    subst ho; subst hn; subst hst
    unfold RStep wlockW
    obtain ⟨p2, p3, one, e4, e0, e8, e9, e10, q11, z11, z8, b8⟩ := hN0
    have hwr : IntKind.i64.wrap (w4 - 1048576) = w4 - 1048576 := by rw [IntKind.wrap_i64]; omega
    rw [if_neg (show ¬ ((1 : Int) = 0) by decide), if_pos rfl, hwr]
    clear e4 e0 e8 e9 e10
    by_cases hx : w4 = 0
    · rw [if_pos hx]
      refine Or.inl ⟨rfl, ?_⟩
      have hc' : clR (beginF 31) 31 true = 10 := rfl
      refine h.upd ht hW _ _ _ hc hc' (h.mu_same (by unfold mfR; rw [hc, hc'] <;> rfl) (by unfold miR; rw [hc, hc'] <;> rfl)) okb31 ?_
      intro n n' l8 l11 l8' l11' hN all hge one' hl8 hl11 he h8 h11
      obtain ⟨f1, f2, f3, f4, f5, f7, f8, f9, f10, f11, f13⟩ := num_eqs he
      obtain ⟨p2, p3, one, e4, e0, e8, e9, e10, q11, z11, z8, b8⟩ := hN
      simp at f1 f2 f3 f4 f5 f7 f8 f9 f10 f11 f13 h8 h11 hl8 hl11
      try dsimp only
      constructor <;> omega
    · rw [if_neg hx]
      refine Or.inr ⟨rfl, ?_⟩
      have hc' : clR ⟨30, 2, phase, old, since, w4, awoke, starve, 0, front⟩ 30 false = 8 := rfl
      refine h.upd ht hW _ _ _ hc hc' (h.mu_same (by unfold mfR; rw [hc, hc'] <;> rfl) (by unfold miR; rw [hc, hc'] <;> rfl)) ⟨fun h => (by cases h), fun _ h => (by cases h), fun _ _ => ⟨rfl, Or.inr (Or.inl ⟨Or.inr rfl, rfl⟩)⟩, fun _ _ h => absurd rfl h⟩ ?_
      intro n n' l8 l11 l8' l11' hN all hge one' hl8 hl11 he h8 h11
      obtain ⟨f1, f2, f3, f4, f5, f7, f8, f9, f10, f11, f13⟩ := num_eqs he
      obtain ⟨p2, p3, one, e4, e0, e8, e9, e10, q11, z11, z8, b8⟩ := hN
      simp at f1 f2 f3 f4 f5 f7 f8 f9 f10 f11 f13 h8 h11 hl8 hl11
      try dsimp only
      constructor <;> omega
  · have hc : clR (F t) (D t) (I t) = 8 := by unfold clR; rw [hI, hD, hst]; rfl
    have hg := hge0 8 hc
    obtain ⟨⟨op, stage, phase, old, since, left, awoke, starve, need, front⟩, hf⟩ : ∃ f, F t = f := ⟨_, rfl⟩
    rw [hf] at ho hn hst ⊢
    simp only at ho hn hst
    subst ho; subst hn; subst hst
    unfold RStep wlockW
    have hlf := hlef 8 hc
    obtain ⟨p2, p3, one, e4, e0, e8, e9, e10, q11, z11, z8, b8⟩ := hN0
    rw [hf] at hlf
    have hwr : IntKind.i64.wrap (w5 + left) = w5 + left := by
      rw [IntKind.wrap_i64]
      generalize cntR F D I = n at *
      generalize lefR F D I 8 = l8 at *
      dsimp only at hlf
      omega
    rw [if_neg (show ¬ ((2 : Int) = 0) by decide), if_neg (show ¬ ((2 : Int) = 1) by decide), if_pos rfl, hwr]
    clear e4 e0 e8 e9 e10
    by_cases hx : w5 + left = 0
    · rw [if_pos hx]
      refine Or.inl ⟨rfl, ?_⟩
      have hc' : clR (beginF 31) 31 true = 10 := rfl
      refine h.upd ht hW _ _ _ hc hc' (h.mu_same (by unfold mfR; rw [hc, hc'] <;> rfl) (by unfold miR; rw [hc, hc'] <;> rfl)) okb31 ?_
      intro n n' l8 l11 l8' l11' hN all hge one' hl8 hl11 he h8 h11
      obtain ⟨f1, f2, f3, f4, f5, f7, f8, f9, f10, f11, f13⟩ := num_eqs he
      obtain ⟨p2, p3, one, e4, e0, e8, e9, e10, q11, z11, z8, b8⟩ := hN
      simp at f1 f2 f3 f4 f5 f7 f8 f9 f10 f11 f13 h8 h11 hl8 hl11
      rw [hf] at hl8 h8; dsimp only at hl8 h8
      try dsimp only
      constructor <;> omega
    · rw [if_neg hx]
      refine Or.inr ⟨rfl, ?_⟩
      have hc' : clR ⟨30, 3, phase, old, since, left, awoke, starve, 3, front⟩ 30 false = 9 := rfl
      refine h.upd ht hW _ _ _ hc hc' (h.mu_same (by unfold mfR; rw [hc, hc'] <;> rfl) (by unfold miR; rw [hc, hc'] <;> rfl)) ⟨fun h => (by cases h), fun _ h => (by cases h), fun _ _ => ⟨rfl, Or.inr (Or.inr ⟨rfl, Or.inr rfl⟩)⟩, fun _ _ h => absurd rfl h⟩ ?_
      intro n n' l8 l11 l8' l11' hN all hge one' hl8 hl11 he h8 h11
      obtain ⟨f1, f2, f3, f4, f5, f7, f8, f9, f10, f11, f13⟩ := num_eqs he
      obtain ⟨p2, p3, one, e4, e0, e8, e9, e10, q11, z11, z8, b8⟩ := hN
      simp at f1 f2 f3 f4 f5 f7 f8 f9 f10 f11 f13 h8 h11 hl8 hl11
      rw [hf] at hl8 h8; dsimp only at hl8 h8
      try dsimp only
      constructor <;> omega
  · have hc : clR (F t) (D t) (I t) = 13 := by unfold clR; rw [hI, hD, hst]; rw [hn]; rfl
    have hg := hge0 13 hc
    obtain ⟨⟨op, stage, phase, old, since, left, awoke, starve, need, front⟩, hf⟩ : ∃ f, F t = f := ⟨_, rfl⟩
    rw [hf] at ho hn hst ⊢
    simp only at ho hn hst
    subst ho; subst hn; subst hst
    unfold RStep wlockW
    rw [if_neg (show ¬ ((3 : Int) = 0) by decide), if_neg (show ¬ ((3 : Int) = 1) by decide), if_neg (show ¬ ((3 : Int) = 2) by decide), if_pos rfl]
    refine Or.inl ⟨rfl, ?_⟩
    have hc' : clR (beginF 31) 31 true = 10 := rfl
    refine h.upd ht hW _ _ _ hc hc' (h.mu_same (by unfold mfR; rw [hc, hc'] <;> rfl) (by unfold miR; rw [hc, hc'] <;> rfl)) okb31 ?_
    intro n n' l8 l11 l8' l11' hN all hge one' hl8 hl11 he h8 h11
    obtain ⟨f1, f2, f3, f4, f5, f7, f8, f9, f10, f11, f13⟩ := num_eqs he
    obtain ⟨p2, p3, one, e4, e0, e8, e9, e10, q11, z11, z8, b8⟩ := hN
    simp at f1 f2 f3 f4 f5 f7 f8 f9 f10 f11 f13 h8 h11 hl8 hl11
    try dsimp only
    constructor <;> omega
/-- a step of unlocking, of a frame of another instruction. -/
theorem unlock_op (w : Int) (f : MFr) (o : Int) (hf : (unlockM w { f with op := o }).2.2.fault = 0) : (unlockM w { f with op := o }).1 = (unlockM w f).1 ∧ (unlockM w { f with op := o }).2.2 = (unlockM w f).2.2 ∧
    (((unlockM w f).2.2.done = true ∧ (unlockM w f).2.1 = noF ∧ (unlockM w { f with op := o }).2.1 = noF) ∨ ((unlockM w f).2.2.done = false ∧ (unlockM w { f with op := o }).2.1 = { (unlockM w f).2.1 with op := o } ∧ (unlockM w f).2.1.stage = f.stage ∧ (unlockM w f).2.1.op = f.op ∧ (unlockM w f).2.1.need = f.need)) := by
  unfold unlockM at hf ⊢
  dsimp only at hf ⊢
  by_cases h1 : f.phase = 0 ∧ ¬ hasBit w 0
  · rw [if_pos h1] at hf; cases hf
  simp only [if_neg h1]
  by_cases h2 : f.phase = 0
  · simp only [if_pos h2]
    by_cases h3 : w = 1
    · simp only [if_pos h3]; exact ⟨(by first | trivial | rfl), (by first | trivial | rfl), Or.inl ⟨(by first | trivial | rfl), (by first | trivial | rfl), (by first | trivial | rfl)⟩⟩
    · simp only [if_neg h3]; exact ⟨(by first | trivial | rfl), (by first | trivial | rfl), Or.inr ⟨(by first | trivial | rfl), (by first | trivial | rfl), (by first | trivial | rfl), (by first | trivial | rfl), (by first | trivial | rfl)⟩⟩
  simp only [if_neg h2]
  by_cases h4 : f.phase = 1
  · simp only [if_pos h4]
    by_cases h5 : f.old / 8 = 0 ∨ hasBit f.old 0 ∨ hasBit f.old 1 ∨ hasBit f.old 2
    · simp only [if_pos h5]; exact ⟨(by first | trivial | rfl), (by first | trivial | rfl), Or.inl ⟨(by first | trivial | rfl), (by first | trivial | rfl), (by first | trivial | rfl)⟩⟩
    simp only [if_neg h5]
    by_cases h6 : w ≠ f.old
    · simp only [if_pos h6]; exact ⟨(by first | trivial | rfl), (by first | trivial | rfl), Or.inr ⟨(by first | trivial | rfl), (by first | trivial | rfl), (by first | trivial | rfl), (by first | trivial | rfl), (by first | trivial | rfl)⟩⟩
    · simp only [if_neg h6]; exact ⟨(by first | trivial | rfl), (by first | trivial | rfl), Or.inr ⟨(by first | trivial | rfl), (by first | trivial | rfl), (by first | trivial | rfl), (by first | trivial | rfl), (by first | trivial | rfl)⟩⟩
  simp only [if_neg h4]
  by_cases h7 : f.phase = 2
  · simp only [if_pos h7]; exact ⟨(by first | trivial | rfl), (by first | trivial | rfl), Or.inl ⟨(by first | trivial | rfl), (by first | trivial | rfl), (by first | trivial | rfl)⟩⟩
  simp only [if_neg h7]
  by_cases h8 : f.phase = 3
  · simp only [if_pos h8]; exact ⟨(by first | trivial | rfl), (by first | trivial | rfl), Or.inl ⟨(by first | trivial | rfl), (by first | trivial | rfl), (by first | trivial | rfl)⟩⟩
  · simp only [if_neg h8]; exact ⟨(by first | trivial | rfl), (by first | trivial | rfl), Or.inr ⟨(by first | trivial | rfl), (by first | trivial | rfl), (by first | trivial | rfl), (by first | trivial | rfl), (by first | trivial | rfl)⟩⟩
/-- what a step of writing no more comes to. -/
def RStep3 (w1 w2 w3 : Int) (F : Nat → MFr) (D : Nat → Int) (I W : Nat → Bool) (r1 r2 r3 : List Nat) (t : Nat) (r : RwR) : Prop :=
  (r.2.2 = noA ∧ RInv r.1.1 w1 w2 w3 r.1.2.1 r.1.2.2 (updN F t r.2.1) (updN D t 31) (updN I t true) W r1 r2 r3) ∨
  (r.2.2 = ⟨false, 4, false, 0⟩ ∧ RInv r.1.1 w1 w2 (w3 + 1) r.1.2.1 r.1.2.2 (updN F t r.2.1) (updN D t 31) (updN I t true) W r1 r2 r3) ∨
  (r.2.2.fault = 0 ∧ r.2.2.give = 0 ∧ r.2.2.hand = false ∧ RInv r.1.1 w1 w2 w3 r.1.2.1 r.1.2.2 (updN F t r.2.1) (updN D t 31) (updN I t (!r.2.2.done)) W r1 r2 r3) ∨
  (r.2.2.fault = 0 ∧ r.2.2.give = 2 ∧ r.2.2.done = true ∧ RInv r.1.1 (w1 + 1) w2 w3 r.1.2.1 r.1.2.2 (updN F t r.2.1) (updN D t 31) (updN I t false) W r1 r2 r3)
set_option maxHeartbeats 4000000 in
theorem RInv.wunlock (h : RInv w0 w1 w2 w3 w4 w5 F D I W r1 r2 r3) (ht : t < 6) (hW : W t = false) (hI : I t = true) (hD : D t = 31) :
    RStep3 w1 w2 w3 F D I W r1 r2 r3 t (wunlockW w0 w4 w5 (F t)) := by
  have hs := h.small
  obtain ⟨_, ho, hn, hk⟩ := (h.ok t ht).inn hI
  rw [hD] at ho
  have hN0 := h.num
  have all0 := all_le F D I
  have hge0 := fun j (e : clR (F t) (D t) (I t) = j) => cntR_ge (F := F) (D := D) (I := I) ht e
  have hlef := fun j (e : clR (F t) (D t) (I t) = j) (k : cntR F D I j ≤ 1) => lef_one (F := F) (D := D) (I := I) ht e k
  rcases hk with hst | hst | hst
  · have hc : clR (F t) (D t) (I t) = 10 := by unfold clR; rw [hI, hD, hst]; rfl
    have hg := hge0 10 hc
    obtain ⟨⟨op, stage, phase, old, since, left, awoke, starve, need, front⟩, hf⟩ : ∃ f, F t = f := ⟨_, rfl⟩
    rw [hf] at ho hn hst ⊢
    simp only at ho hn hst
    subst ho; subst hn; subst hst
    unfold RStep3 wunlockW
    obtain ⟨p2, p3, one, e4, e0, e8, e9, e10, q11, z11, z8, b8⟩ := hN0
    have hwr : IntKind.i64.wrap (w4 + 1048576) = w4 + 1048576 := by rw [IntKind.wrap_i64]; omega
    rw [if_neg (show ¬ ((0 : Int) = 0 ∧ 0 ≤ w4) by generalize cntR F D I = n at *; omega), if_pos rfl, hwr]
    clear e4 e0 e8 e9 e10
    refine Or.inl ⟨rfl, ?_⟩
    have hc' : clR ⟨31, 1, phase, old, since, (w4 + 1048576), awoke, starve, 0, front⟩ 31 true = 11 := rfl
    refine h.upd ht hW _ _ _ hc hc' (h.mu_same (by unfold mfR; rw [hc, hc'] <;> rfl) (by unfold miR; rw [hc, hc'] <;> rfl)) ⟨fun _ => ⟨Or.inr rfl, rfl, rfl, Or.inr (Or.inl rfl)⟩, fun h => (by cases h), fun h => (by cases h), fun h => (by cases h)⟩ ?_
    intro n n' l8 l11 l8' l11' hN all hge one' hl8 hl11 he h8 h11
    obtain ⟨f1, f2, f3, f4, f5, f7, f8, f9, f10, f11, f13⟩ := num_eqs he
    obtain ⟨p2, p3, one, e4, e0, e8, e9, e10, q11, z11, z8, b8⟩ := hN
    simp at f1 f2 f3 f4 f5 f7 f8 f9 f10 f11 f13 h8 h11 hl8 hl11
    try dsimp only
    constructor <;> omega
  · have hc : clR (F t) (D t) (I t) = 11 := by unfold clR; rw [hI, hD, hst]; rfl
    have hg := hge0 11 hc
    obtain ⟨⟨op, stage, phase, old, since, left, awoke, starve, need, front⟩, hf⟩ : ∃ f, F t = f := ⟨_, rfl⟩
    rw [hf] at ho hn hst ⊢
    simp only at ho hn hst
    subst ho; subst hn; subst hst
    unfold RStep3 wunlockW
    have hlf := hlef 11 hc
    obtain ⟨p2, p3, one, e4, e0, e8, e9, e10, q11, z11, z8, b8⟩ := hN0
    rw [hf] at hlf
    rw [if_neg (show ¬ ((1 : Int) = 0 ∧ 0 ≤ w4) from fun h => absurd h.1 (by decide)), if_neg (show ¬ ((1 : Int) = 0) by decide)]
    have hl6 : left ≤ 6 ∧ 0 ≤ left := by
      generalize cntR F D I = n at *
      generalize lefR F D I 11 = l11 at *
      dsimp only at hlf
      omega
    clear e4 e0 e8 e9 e10
    by_cases hx : 0 < left
    · have hwr : IntKind.i64.wrap (left - 1) = left - 1 := by rw [IntKind.wrap_i64]; omega
      rw [if_pos ⟨rfl, hx⟩]
      dsimp only
      rw [hwr]
      refine Or.inr (Or.inl ⟨rfl, ?_⟩)
      have hc' : clR ⟨31, 1, phase, old, since, (left - 1), awoke, starve, 0, front⟩ 31 true = 11 := rfl
      refine h.upd ht hW _ _ _ hc hc' (h.mu_same (by unfold mfR; rw [hc, hc'] <;> rfl) (by unfold miR; rw [hc, hc'] <;> rfl)) ⟨fun _ => ⟨Or.inr rfl, rfl, rfl, Or.inr (Or.inl rfl)⟩, fun h => (by cases h), fun h => (by cases h), fun h => (by cases h)⟩ ?_
      intro n n' l8 l11 l8' l11' hN all hge one' hl8 hl11 he h8 h11
      obtain ⟨f1, f2, f3, f4, f5, f7, f8, f9, f10, f11, f13⟩ := num_eqs he
      obtain ⟨p2, p3, one, e4, e0, e8, e9, e10, q11, z11, z8, b8⟩ := hN
      simp at f1 f2 f3 f4 f5 f7 f8 f9 f10 f11 f13 h8 h11 hl8 hl11
      rw [hf] at hl11 h11; dsimp only at hl11 h11
      try dsimp only
      constructor <;> omega
    · rw [if_neg (show ¬ ((1 : Int) = 1 ∧ 0 < left) from fun h => hx h.2), if_pos rfl]
      refine Or.inl ⟨rfl, ?_⟩
      have hc' : clR ⟨31, 2, 0, old, since, left, awoke, starve, 0, front⟩ 31 true = 12 := rfl
      have hmu : MInv w0 w1 (updN (fun k => mfR (F k) (D k) (I k)) t ⟨27, 2, 0, old, since, left, awoke, starve, 0, front⟩) (updN (fun k => miR (F k) (D k) (I k)) t true) (fun k => W k && decide ((F k).need = 2)) r1 := by
        have em : mfR (F t) (D t) (I t) = beginF 27 := by unfold mfR; rw [hc]; rfl
        have ei : miR (F t) (D t) (I t) = true := by unfold miR; rw [hc]; rfl
        have hb : MEv ⟨27, 2, 0, old, since, left, awoke, starve, 0, front⟩ true 1 0 0 0 := by cases awoke <;> exact ⟨rfl, rfl, rfl, rfl⟩
        exact h.mu.num ht (by rw [hW]; rfl) _ _ w0 w1 (by rw [em, ei]; exact evb) hb ⟨fun _ => ⟨rfl, Or.inl rfl, rfl⟩, fun h => (by cases h), Int.le_refl 0⟩ ⟨fun _ => (tok_good hb.2.1).1, fun _ => (tok_good hb.2.1).2⟩ (by intro H T P N; omega)
      refine h.upd ht hW _ _ _ hc hc' hmu ⟨fun _ => ⟨Or.inr rfl, rfl, rfl, Or.inr (Or.inr rfl)⟩, fun h => (by cases h), fun h => (by cases h), fun h => (by cases h)⟩ ?_
      intro n n' l8 l11 l8' l11' hN all hge one' hl8 hl11 he h8 h11
      obtain ⟨f1, f2, f3, f4, f5, f7, f8, f9, f10, f11, f13⟩ := num_eqs he
      obtain ⟨p2, p3, one, e4, e0, e8, e9, e10, q11, z11, z8, b8⟩ := hN
      simp at f1 f2 f3 f4 f5 f7 f8 f9 f10 f11 f13 h8 h11 hl8 hl11
      rw [hf] at hl11 h11; dsimp only at hl11 h11
      try dsimp only
      constructor <;> omega
  · have hc : clR (F t) (D t) (I t) = 12 := by unfold clR; rw [hI, hD, hst]; rfl
    have em : mfR (F t) (D t) (I t) = { F t with op := 27 } := by unfold mfR; rw [hc]; rfl
    have ei : miR (F t) (D t) (I t) = true := by unfold miR; rw [hc]; rfl
    have hU := h.mu.unlock (t := t) ht (by rw [hW]; rfl) ei
    rw [em] at hU
    obtain ⟨u0, u1⟩ := hU
    obtain ⟨o1, o2, o3⟩ := unlock_op w0 (F t) 27 u0
    unfold RStep3 wunlockW
    rw [if_neg (show ¬ ((F t).stage = 0 ∧ 0 ≤ w4) by omega), if_neg (show ¬ ((F t).stage = 0) by omega), if_neg (show ¬ ((F t).stage = 1 ∧ 0 < (F t).left) by omega), if_neg (show ¬ ((F t).stage = 1) by omega), if_pos hst]
    dsimp only
    rw [o1, o2] at u1
    rw [o2] at u0
    have hdone : ∀ v1 : Int, (unlockM w0 (F t)).2.1 = noF → MInv (unlockM w0 (F t)).1 v1 (updN (fun k => mfR (F k) (D k) (I k)) t noF) (updN (fun k => miR (F k) (D k) (I k)) t false) (fun k => W k && decide ((F k).need = 2)) r1 → RInv (unlockM w0 (F t)).1 v1 w2 w3 w4 w5 (updN F t (unlockM w0 (F t)).2.1) (updN D t 31) (updN I t false) W r1 r2 r3 := by
      intro v1 hnf hm
      rw [hnf]
      have hc' : clR noF 31 false = 0 := rfl
      refine h.upd ht hW _ _ _ hc hc' hm (okn 31 (by decide) (by decide)) ?_
      intro n n' l8 l11 l8' l11' hN all hge one' hl8 hl11 he h8 h11
      obtain ⟨f1, f2, f3, f4, f5, f7, f8, f9, f10, f11, f13⟩ := num_eqs he
      obtain ⟨p2, p3, one, e4, e0, e8, e9, e10, q11, z11, z8, b8⟩ := hN
      simp at f1 f2 f3 f4 f5 f7 f8 f9 f10 f11 f13 h8 h11 hl8 hl11
      try dsimp only
      constructor <;> omega
    rcases o3 with ⟨d1, d2, d3⟩ | ⟨d1, d2, d3, d4, d5⟩
    · rw [d3] at u1
      rcases u1 with ⟨g1, g2, g3⟩ | ⟨g1, g2, g3⟩
      · refine Or.inr (Or.inr (Or.inl ⟨u0, g1, g2, ?_⟩))
        rw [d1] at g3 ⊢
        exact hdone w1 d2 g3
      · exact Or.inr (Or.inr (Or.inr ⟨u0, g1, g2, hdone (w1 + 1) d2 g3⟩))
    · rcases u1 with ⟨g1, g2, g3⟩ | ⟨g1, g2, g3⟩
      · refine Or.inr (Or.inr (Or.inl ⟨u0, g1, g2, ?_⟩))
        rw [d1, Bool.not_false] at g3 ⊢
        rw [d2] at g3
        generalize (unlockM w0 (F t)).2.1 = g at *
        have hc' : clR g 31 true = 12 := by unfold clR; rw [d3, hst]; rfl
        refine h.upd ht hW _ _ _ hc hc' (by have e1 : mfR g 31 true = { g with op := 27 } := by { unfold mfR; rw [hc']; rfl }; have e2 : miR g 31 true = true := by { unfold miR; rw [hc']; rfl }; rw [e1, e2]; exact g3) ⟨fun _ => ⟨Or.inr rfl, d4.trans ho, d5.trans hn, Or.inr (Or.inr (d3.trans hst))⟩, fun h => (by cases h), fun h => (by cases h), fun h => (by cases h)⟩ ?_
        intro n n' l8 l11 l8' l11' hN all hge one' hl8 hl11 he h8 h11
        obtain ⟨f1, f2, f3, f4, f5, f7, f8, f9, f10, f11, f13⟩ := num_eqs he
        obtain ⟨p2, p3, one, e4, e0, e8, e9, e10, q11, z11, z8, b8⟩ := hN
        simp at f1 f2 f3 f4 f5 f7 f8 f9 f10 f11 f13 h8 h11 hl8 hl11
        try dsimp only
        constructor <;> omega
      · rw [d1] at g2; cases g2
theorem updN_self_id {α : Type} {G : Nat → α} {t : Nat} : updN G t (G t) = G := by
  funext k; unfold updN; split
  · rename_i e; rw [e]
  · rfl
/-- who needs a unit, and which. -/
theorem RInv.needs (h : RInv w0 w1 w2 w3 w4 w5 F D I W r1 r2 r3) (ht : t < 6) (hn : 0 < (F t).need) : I t = false ∧ (((F t).need = 2 ∧ D t = 30 ∧ (F t).stage = 0) ∨ ((F t).need = 3 ∧ D t = 30 ∧ (F t).stage = 3) ∨ ((F t).need = 4 ∧ D t = 28 ∧ (F t).stage = 1)) := by
  have hi : I t = false := by
    cases hi : I t
    · rfl
    · have := ((h.ok t ht).inn hi).2.2.1; omega
  refine ⟨hi, ?_⟩
  by_cases d1 : D t = 28
  · have := (h.ok t ht).rd hi d1; omega
  by_cases d2 : D t = 30
  · have := (h.ok t ht).wr hi d2; omega
  · have := (h.ok t ht).no hi d1 d2; rw [this] at hn; exact absurd hn (by decide)
set_option maxHeartbeats 4000000 in
/-- who needs a unit of the mutex gets it. -/
theorem RInv.take2 (h : RInv w0 w1 w2 w3 w4 w5 F D I W r1 r2 r3) (ht : t < 6) (hW : W t = false) (hn : (F t).need = 2) (hp : 0 < w1) : RInv w0 (w1 - 1) w2 w3 w4 w5 (updN F t { F t with need := 0 }) D I W r1 r2 r3 := by
  obtain ⟨hi, hk⟩ := h.needs ht (by omega)
  have hd : D t = 30 ∧ (F t).stage = 0 := by omega
  have hc : clR (F t) (D t) (I t) = 6 := by unfold clR; rw [hi, hd.1, hd.2]; rfl
  have hc' : clR { F t with need := 0 } (D t) (I t) = 6 := by unfold clR; rw [hi, hd.1]; dsimp only; rw [hd.2]; rfl
  have em : mfR (F t) (D t) (I t) = F t := by unfold mfR; rw [hc]; rfl
  have ei : miR (F t) (D t) (I t) = false := by unfold miR; rw [hc]; rfl
  have em' : mfR { F t with need := 0 } (D t) (I t) = { F t with need := 0 } := by unfold mfR; rw [hc']; rfl
  have ei' : miR { F t with need := 0 } (D t) (I t) = false := by unfold miR; rw [hc']; rfl
  have hm := h.mu.take (t := t) ht (by rw [hW]; rfl) (by rw [em]; omega) hp
  rw [em] at hm
  obtain ⟨ho, _⟩ := (h.ok t ht).wr hi hd.1
  have hu := h.upd ht hW { F t with need := 0 } (D t) (I t) (v0 := w0) (v1 := w1 - 1) (v2 := w2) (v3 := w3) (v4 := w4) (v5 := w5) hc hc' (by rw [em', ei']; exact hm)
    ⟨fun e => (by rw [hi] at e; cases e), fun _ e => (by rw [hd.1] at e; cases e), fun _ _ => ⟨ho, Or.inl ⟨hd.2, Or.inl rfl⟩⟩, fun _ _ e => absurd hd.1 e⟩ (by
      intro n n' l8 l11 l8' l11' hN all hge one' hl8 hl11 he h8 h11
      obtain ⟨f1, f2, f3, f4, f5, f7, f8, f9, f10, f11, f13⟩ := num_eqs he
      obtain ⟨p2, p3, one, e4, e0, e8, e9, e10, q11, z11, z8, b8⟩ := hN
      simp at f1 f2 f3 f4 f5 f7 f8 f9 f10 f11 f13 h8 h11 hl8 hl11
      try dsimp only
      constructor <;> omega
    )
  rwa [updN_self_id, updN_self_id] at hu
set_option maxHeartbeats 4000000 in
/-- a writer that needs a unit gets it. -/
theorem RInv.take3 (h : RInv w0 w1 w2 w3 w4 w5 F D I W r1 r2 r3) (ht : t < 6) (hW : W t = false) (hn : (F t).need = 3) (hp : 0 < w2) : RInv w0 w1 (w2 - 1) w3 w4 w5 (updN F t { F t with need := 0 }) D I W r1 r2 r3 := by
  obtain ⟨hi, hk⟩ := h.needs ht (by omega)
  have hd : D t = 30 ∧ (F t).stage = 3 := by omega
  have hc : clR (F t) (D t) (I t) = 9 := by unfold clR; rw [hi, hd.1, hd.2, hn]; rfl
  have hc' : clR { F t with need := 0 } (D t) (I t) = 13 := by unfold clR; rw [hi, hd.1]; dsimp only; rw [hd.2]; rfl
  obtain ⟨ho, _⟩ := (h.ok t ht).wr hi hd.1
  have hu := h.upd ht hW { F t with need := 0 } (D t) (I t) (v0 := w0) (v1 := w1) (v2 := w2 - 1) (v3 := w3) (v4 := w4) (v5 := w5) hc hc' (h.mu_same (by unfold mfR; rw [hc, hc'] <;> rfl) (by unfold miR; rw [hc, hc'] <;> rfl))
    ⟨fun e => (by rw [hi] at e; cases e), fun _ e => (by rw [hd.1] at e; cases e), fun _ _ => ⟨ho, Or.inr (Or.inr ⟨hd.2, Or.inl rfl⟩)⟩, fun _ _ e => absurd hd.1 e⟩ (by
      intro n n' l8 l11 l8' l11' hN all hge one' hl8 hl11 he h8 h11
      obtain ⟨f1, f2, f3, f4, f5, f7, f8, f9, f10, f11, f13⟩ := num_eqs he
      obtain ⟨p2, p3, one, e4, e0, e8, e9, e10, q11, z11, z8, b8⟩ := hN
      simp at f1 f2 f3 f4 f5 f7 f8 f9 f10 f11 f13 h8 h11 hl8 hl11
      try dsimp only
      constructor <;> omega
    )
  rwa [updN_self_id, updN_self_id] at hu
set_option maxHeartbeats 4000000 in
/-- a reader that needs a unit gets it. -/
theorem RInv.take4 (h : RInv w0 w1 w2 w3 w4 w5 F D I W r1 r2 r3) (ht : t < 6) (hW : W t = false) (hn : (F t).need = 4) (hp : 0 < w3) : RInv w0 w1 w2 (w3 - 1) w4 w5 (updN F t { F t with need := 0 }) D I W r1 r2 r3 := by
  obtain ⟨hi, hk⟩ := h.needs ht (by omega)
  have hd : D t = 28 ∧ (F t).stage = 1 := by omega
  have hc : clR (F t) (D t) (I t) = 1 := by unfold clR; rw [hi, hd.1, hd.2, hn]; rfl
  have hc' : clR { F t with need := 0 } (D t) (I t) = 2 := by unfold clR; rw [hi, hd.1]; dsimp only; rw [hd.2]; rfl
  obtain ⟨ho, _⟩ := (h.ok t ht).rd hi hd.1
  have hu := h.upd ht hW { F t with need := 0 } (D t) (I t) (v0 := w0) (v1 := w1) (v2 := w2) (v3 := w3 - 1) (v4 := w4) (v5 := w5) hc hc' (h.mu_same (by unfold mfR; rw [hc, hc'] <;> rfl) (by unfold miR; rw [hc, hc'] <;> rfl))
    ⟨fun e => (by rw [hi] at e; cases e), fun _ _ => ⟨ho, Or.inr ⟨hd.2, Or.inl rfl⟩⟩, fun _ e => (by rw [hd.1] at e; cases e), fun _ e => absurd hd.1 e⟩ (by
      intro n n' l8 l11 l8' l11' hN all hge one' hl8 hl11 he h8 h11
      obtain ⟨f1, f2, f3, f4, f5, f7, f8, f9, f10, f11, f13⟩ := num_eqs he
      obtain ⟨p2, p3, one, e4, e0, e8, e9, e10, q11, z11, z8, b8⟩ := hN
      simp at f1 f2 f3 f4 f5 f7 f8 f9 f10 f11 f13 h8 h11 hl8 hl11
      try dsimp only
      constructor <;> omega
    )
  rwa [updN_self_id, updN_self_id] at hu
theorem RInv.idle (h : RInv w0 w1 w2 w3 w4 w5 F D I W r1 r2 r3) (ht : t < 6) (hf : F t = noF) : I t = false ∧ clR (F t) (D t) (I t) = 0 := by
  have hi : I t = false := by
    cases hi : I t
    · rfl
    · obtain ⟨h1, h2, _⟩ := (h.ok t ht).inn hi
      rw [hf] at h2
      have h3 : (0 : Int) = D t := h2
      omega
  refine ⟨hi, ?_⟩
  have d1 : D t ≠ 28 := fun d => by
    have h2 := ((h.ok t ht).rd hi d).1
    rw [hf] at h2; exact absurd h2 (by decide)
  have d2 : D t ≠ 30 := fun d => by
    have h2 := ((h.ok t ht).wr hi d).1
    rw [hf] at h2; exact absurd h2 (by decide)
  unfold clR
  rw [hi, if_neg (by decide), if_neg d1, if_neg d2]
set_option maxHeartbeats 4000000 in
/-- who has nothing begins to read. -/
theorem RInv.begin28 (h : RInv w0 w1 w2 w3 w4 w5 F D I W r1 r2 r3) (ht : t < 6) (hW : W t = false) (hf : F t = noF) : RInv w0 w1 w2 w3 w4 w5 (updN F t (beginF 28)) (updN D t 28) (updN I t false) W r1 r2 r3 := by
  obtain ⟨hi, hc⟩ := h.idle ht hf
  have hc' : clR (beginF 28) 28 false = 0 := rfl
  refine h.upd ht hW _ _ _ hc hc' (h.mu_same (by unfold mfR; rw [hc, hc'] <;> rfl) (by unfold miR; rw [hc, hc'] <;> rfl)) ⟨fun e => (by cases e), fun _ _ => ⟨rfl, Or.inl ⟨rfl, rfl⟩⟩, fun _ e => (by cases e), fun _ e => absurd rfl e⟩ ?_
  intro n n' l8 l11 l8' l11' hN all hge one' hl8 hl11 he h8 h11
  obtain ⟨f1, f2, f3, f4, f5, f7, f8, f9, f10, f11, f13⟩ := num_eqs he
  obtain ⟨p2, p3, one, e4, e0, e8, e9, e10, q11, z11, z8, b8⟩ := hN
  simp at f1 f2 f3 f4 f5 f7 f8 f9 f10 f11 f13 h8 h11 hl8 hl11
  try dsimp only
  constructor <;> omega
set_option maxHeartbeats 4000000 in
/-- who has nothing begins to write. -/
theorem RInv.begin30 (h : RInv w0 w1 w2 w3 w4 w5 F D I W r1 r2 r3) (ht : t < 6) (hW : W t = false) (hf : F t = noF) : RInv w0 w1 w2 w3 w4 w5 (updN F t (beginF 30)) (updN D t 30) (updN I t false) W r1 r2 r3 := by
  obtain ⟨hi, hc⟩ := h.idle ht hf
  have hc' : clR (beginF 30) 30 false = 6 := rfl
  have em : mfR (F t) (D t) (I t) = noF := by unfold mfR; rw [hc]; rfl
  have ei : miR (F t) (D t) (I t) = false := by unfold miR; rw [hc]; rfl
  have hb : MEv (beginF 30) false 0 0 0 0 := ⟨rfl, rfl, rfl, rfl⟩
  have hm := h.mu.num ht (by rw [hW]; rfl) (beginF 30) false w0 w1 (by rw [em, ei]; exact evn) hb ⟨fun h => (by cases h), fun _ => ⟨Or.inl rfl, fun h => (by cases h), fun h => (by rcases h with h | h <;> cases h), fun _ => ⟨rfl, rfl⟩⟩, Int.le_refl 0⟩ ⟨fun _ => (tok_good hb.2.1).1, fun _ => (tok_good hb.2.1).2⟩ (by intro H T P N; omega)
  refine h.upd ht hW _ _ _ hc hc' hm ⟨fun e => (by cases e), fun _ e => (by cases e), fun _ _ => ⟨rfl, Or.inl ⟨rfl, Or.inl rfl⟩⟩, fun _ _ e => absurd rfl e⟩ ?_
  intro n n' l8 l11 l8' l11' hN all hge one' hl8 hl11 he h8 h11
  obtain ⟨f1, f2, f3, f4, f5, f7, f8, f9, f10, f11, f13⟩ := num_eqs he
  obtain ⟨p2, p3, one, e4, e0, e8, e9, e10, q11, z11, z8, b8⟩ := hN
  simp at f1 f2 f3 f4 f5 f7 f8 f9 f10 f11 f13 h8 h11 hl8 hl11
  try dsimp only
  constructor <;> omega
/-- who needs a unit waits, at the end of its row. -/
theorem RInv.park2 (h : RInv w0 w1 w2 w3 w4 w5 F D I W r1 r2 r3) (ht : t < 6) (hW : W t = false) (hn : (F t).need = 2) : RInv w0 w1 w2 w3 w4 w5 F D I (updN W t true) (r1 ++ [t]) r2 r3 := by
  obtain ⟨hi, hk⟩ := h.needs ht (by omega)
  have hc : clR (F t) (D t) (I t) = 6 := by unfold clR; rw [hi, (by omega : D t = 30), (by omega : (F t).stage = 0)]; rfl
  have em : mfR (F t) (D t) (I t) = F t := by unfold mfR; rw [hc]; rfl
  have hm := (h.mu.park (t := t) ht (by rw [hW]; rfl) (by rw [em]; omega)).2
  have e3 : (fun k => updN W t true k && decide ((F k).need = 2)) = updN (fun k => W k && decide ((F k).need = 2)) t true := by
    funext k; by_cases e : k = t
    · subst e; simp only [updN_self, hn]; rfl
    · simp only [updN_ne e]
  refine ⟨by rw [e3]; exact hm, h.ok, h.num, h.n2, h.n3, fun k => ?_, fun k => ?_, fun k hk hw => ?_⟩
  · rw [h.m2 k]; by_cases e : k = t
    · subst e; simp only [updN_self, hW]; omega
    · simp only [updN_ne e]
  · rw [h.m3 k]; by_cases e : k = t
    · subst e; simp only [updN_self, hW]; omega
    · simp only [updN_ne e]
  · by_cases e : k = t
    · subst e; exact Or.inl hn
    · rw [updN_ne e] at hw; exact h.wn k hk hw
/-- at the beginning. -/
theorem RInv.start : RInv 0 0 0 0 0 0 (fun _ => noF) (fun _ => 0) (fun _ => false) (fun _ => false) [] [] [] :=
  ⟨MInv.start, fun k _ => ⟨fun h => (by cases h), fun _ h => (by cases h), fun _ h => (by cases h), fun _ _ _ => rfl⟩, by
    have h1 : ∀ j, j ≠ 0 → cntR (fun _ => noF) (fun _ => 0) (fun _ => false) j = 0 := fun j hj => by
      unfold cntR sum6
      have h2 : clR noF 0 false = 0 := rfl
      simp [h2, Ne.symm hj]
    have h8 : lefR (fun _ => noF) (fun _ => 0) (fun _ => false) 8 = 0 := rfl
    have h11 : lefR (fun _ => noF) (fun _ => 0) (fun _ => false) 11 = 0 := rfl
    rw [h8, h11]
    have k1 := h1 1 (by decide); have k2 := h1 2 (by decide); have k3 := h1 3 (by decide); have k4 := h1 4 (by decide); have k5 := h1 5 (by decide); have k7 := h1 7 (by decide); have k8 := h1 8 (by decide); have k9 := h1 9 (by decide); have k10 := h1 10 (by decide); have k11 := h1 11 (by decide); have k13 := h1 13 (by decide)
    constructor <;> omega, List.nodup_nil, List.nodup_nil, fun k => by simp, fun k => by simp, fun k _ h => (by cases h)⟩
end
end Go.Proofs.Ytpkegfochfkkcaa
