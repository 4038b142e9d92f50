/- Plain mathematics of layer 4: a section's bytes, and what reading, listing and writing them answers; no condition but those in each theorem. -/
import Derived.Test.YtipjbgmikbbkoaaOctE
import Derived.Test.YtipjbgmikbbkoaaVarC
import Derived.Test.YtipjbgmikbbkoaaCrcC
namespace Go.Proofs.Ytipjbgmikbbkoaa
set_option linter.unusedVariables false
set_option linter.unusedSimpArgs false

/-- what the sum is of. -/
def headS (s : Int × List Int) : List Int := s.1 :: (vb s.2.length ++ s.2)
/-- a section's bytes. -/
def secB (s : Int × List Int) : List Int := headS s ++ digs (sumS (headS s)) 4
/-- a section's bytes, or why not. -/
def wrS (s : Int × List Int) : List Int × Int := if s.1 = 0 then ([], 3) else if 65535 < (s.2.length : Int) then ([], 4) else (secB s, 0)
/-- bytes, and a section behind them, or why not. -/
def appS (bs : List Int) (s : Int × List Int) : List Int × Int := if (wrS s).2 ≠ 0 then ([], (wrS s).2) else (bs ++ secB s, 0)
/-- a tag. -/
def tagS (bs : List Int) (k : Int) : Int × Int × Int :=
  if (takeS bs k 1).2.2 ≠ 0 then (0, 0, (takeS bs k 1).2.2) else if (takeS bs k 1).1 = 0 then (0, 0, 3) else takeS bs k 1
/-- a body's length. -/
def lenS (bs : List Int) (k : Int) : Int × Int × Int :=
  if (readS bs k).2.2 ≠ 0 then (0, 0, (readS bs k).2.2) else if 65535 < (readS bs k).1 then (0, 0, 4) else readS bs k
/-- a body. -/
def bodyS (bs : List Int) (k : Int) : List Int × Int × Int :=
  if (lenS bs k).2.2 ≠ 0 then ([], 0, (lenS bs k).2.2) else cutS bs (lenS bs k).2.1 (lenS bs k).1
/-- a section: its tag and body, the place behind it, the error. -/
def secS (bs : List Int) (k : Int) : (Int × List Int) × Int × Int :=
  if (tagS bs k).2.2 ≠ 0 then ((0, []), 0, (tagS bs k).2.2) else
  if (bodyS bs (tagS bs k).2.1).2.2 ≠ 0 then ((0, []), 0, (bodyS bs (tagS bs k).2.1).2.2) else
  if (takeS bs (bodyS bs (tagS bs k).2.1).2.1 4).2.2 ≠ 0 then ((0, []), 0, (takeS bs (bodyS bs (tagS bs k).2.1).2.1 4).2.2) else
  if (takeS bs (bodyS bs (tagS bs k).2.1).2.1 4).1 ≠ sumS ((bs.drop k.toNat).take ((bodyS bs (tagS bs k).2.1).2.1 - k).toNat) then ((0, []), 0, 5) else
  (((tagS bs k).1, (bodyS bs (tagS bs k).2.1).1), (takeS bs (bodyS bs (tagS bs k).2.1).2.1 4).2.1, 0)
/-- the tag of the last one. -/
def lastT (l : List (Int × List Int)) : Int := (l.getLast?.map (·.1)).getD 0
/-- all sections up to the end, behind those of acc. -/
def listA (bs : List Int) : Nat → Nat → List (Int × List Int) → List (Int × List Int) × Int
  | 0, _, acc => (acc, 0)
  | f + 1, k, acc => if bs.length ≤ k then (acc, 0) else if (secS bs k).2.2 ≠ 0 then ([], (secS bs k).2.2) else
    if (secS bs k).1.1 ≤ lastT acc then ([], 3) else listA bs f (secS bs k).2.1.toNat (acc ++ [(secS bs k).1])
def listS (bs : List Int) : List (Int × List Int) × Int := listA bs bs.length 0 []
/-- all sections' bytes, behind those of acc. -/
def allA : List (Int × List Int) → Int → List Int → List Int × Int
  | [], _, acc => (acc, 0)
  | s :: r, t, acc => if s.1 ≤ t then ([], 3) else if 65535 < (s.2.length : Int) then ([], 4) else allA r s.1 (acc ++ secB s)
def allS (l : List (Int × List Int)) : List Int × Int := allA l 0 []
/-- the body of the first with the tag. -/
def findS (l : List (Int × List Int)) (t : Int) : List Int × Bool := match l.find? (fun s => s.1 = t) with | some s => (s.2, true) | none => ([], false)

theorem secB_def (s : Int × List Int) : secB s = headS s ++ digs (sumS (headS s)) 4 := rfl
theorem tagS_err {bs : List Int} {k : Int} {p : Int × Int × Int} (h : takeS bs k 1 = p) (h0 : p.2.2 ≠ 0) : tagS bs k = (0, 0, p.2.2) := by unfold tagS; rw [h, if_pos h0]
theorem tagS_zero {bs : List Int} {k : Int} {p : Int × Int × Int} (h : takeS bs k 1 = p) (h0 : p.2.2 = 0) (h1 : p.1 = 0) : tagS bs k = (0, 0, 3) := by unfold tagS; rw [h, if_neg (by simp [h0]), if_pos h1]
theorem tagS_ok {bs : List Int} {k : Int} {p : Int × Int × Int} (h : takeS bs k 1 = p) (h0 : p.2.2 = 0) (h1 : p.1 ≠ 0) : tagS bs k = p := by unfold tagS; rw [h, if_neg (by simp [h0]), if_neg h1]
theorem lenS_err {bs : List Int} {k : Int} {p : Int × Int × Int} (h : readS bs k = p) (h0 : p.2.2 ≠ 0) : lenS bs k = (0, 0, p.2.2) := by unfold lenS; rw [h, if_pos h0]
theorem lenS_long {bs : List Int} {k : Int} {p : Int × Int × Int} (h : readS bs k = p) (h0 : p.2.2 = 0) (h1 : 65535 < p.1) : lenS bs k = (0, 0, 4) := by unfold lenS; rw [h, if_neg (by simp [h0]), if_pos h1]
theorem lenS_ok {bs : List Int} {k : Int} {p : Int × Int × Int} (h : readS bs k = p) (h0 : p.2.2 = 0) (h1 : ¬ 65535 < p.1) : lenS bs k = p := by unfold lenS; rw [h, if_neg (by simp [h0]), if_neg h1]
theorem bodyS_err {bs : List Int} {k : Int} {p : Int × Int × Int} (h : lenS bs k = p) (h0 : p.2.2 ≠ 0) : bodyS bs k = ([], 0, p.2.2) := by unfold bodyS; rw [h, if_pos h0]
theorem bodyS_ok {bs : List Int} {k : Int} {p : Int × Int × Int} (h : lenS bs k = p) (h0 : p.2.2 = 0) : bodyS bs k = cutS bs p.2.1 p.1 := by unfold bodyS; rw [h, if_neg (by simp [h0])]
theorem secS_tag {bs : List Int} {k : Int} {p : Int × Int × Int} (h : tagS bs k = p) (h0 : p.2.2 ≠ 0) : secS bs k = ((0, []), 0, p.2.2) := by unfold secS; rw [h, if_pos h0]
theorem secS_body {bs : List Int} {k : Int} {p : Int × Int × Int} {q : List Int × Int × Int} (h : tagS bs k = p) (h0 : p.2.2 = 0) (h1 : bodyS bs p.2.1 = q) (h2 : q.2.2 ≠ 0) : secS bs k = ((0, []), 0, q.2.2) := by
  unfold secS; rw [h, if_neg (by simp [h0]), h1, if_pos h2]
theorem secS_short {bs : List Int} {k : Int} {p : Int × Int × Int} {q : List Int × Int × Int} {r : Int × Int × Int} (h : tagS bs k = p) (h0 : p.2.2 = 0) (h1 : bodyS bs p.2.1 = q) (h2 : q.2.2 = 0)
    (h3 : takeS bs q.2.1 4 = r) (h4 : r.2.2 ≠ 0) : secS bs k = ((0, []), 0, r.2.2) := by
  unfold secS; rw [h, if_neg (by simp [h0]), h1, if_neg (by simp [h2]), h3, if_pos h4]
theorem secS_sum {bs : List Int} {k : Int} {p : Int × Int × Int} {q : List Int × Int × Int} {r : Int × Int × Int} (h : tagS bs k = p) (h0 : p.2.2 = 0) (h1 : bodyS bs p.2.1 = q) (h2 : q.2.2 = 0)
    (h3 : takeS bs q.2.1 4 = r) (h4 : r.2.2 = 0) (h5 : r.1 ≠ sumS ((bs.drop k.toNat).take (q.2.1 - k).toNat)) : secS bs k = ((0, []), 0, 5) := by
  unfold secS; rw [h, if_neg (by simp [h0]), h1, if_neg (by simp [h2]), h3, if_neg (by simp [h4]), if_pos h5]
theorem secS_ok {bs : List Int} {k : Int} {p : Int × Int × Int} {q : List Int × Int × Int} {r : Int × Int × Int} (h : tagS bs k = p) (h0 : p.2.2 = 0) (h1 : bodyS bs p.2.1 = q) (h2 : q.2.2 = 0)
    (h3 : takeS bs q.2.1 4 = r) (h4 : r.2.2 = 0) (h5 : r.1 = sumS ((bs.drop k.toNat).take (q.2.1 - k).toNat)) : secS bs k = ((p.1, q.1), r.2.1, 0) := by
  unfold secS; rw [h, if_neg (by simp [h0]), h1, if_neg (by simp [h2]), h3, if_neg (by simp [h4]), if_neg (by simp [h5])]

/-- what Cut and Take answer where they do. -/
theorem cutS_ok {bs : List Int} {k m : Int} {p : List Int} {x : Int} (h : cutS bs k m = (p, x, 0)) : ∃ j q : Nat, k = j ∧ m = q ∧ j + q ≤ bs.length ∧ p = (bs.drop j).take q ∧ x = ((j + q : Nat) : Int) := by
  unfold cutS at h
  split at h
  · injection h with h1 h2; injection h2 with h2 h3; cases h3
  · split at h
    · injection h with h1 h2; injection h2 with h2 h3; cases h3
    · injection h with h1 h2; injection h2 with h2 h3
      exact ⟨k.toNat, m.toNat, by omega, by omega, by omega, h1.symm, by omega⟩
theorem cutS_mk (bs : List Int) (j q : Nat) (h : j + q ≤ bs.length) : cutS bs j q = ((bs.drop j).take q, ((j + q : Nat) : Int), 0) := by
  unfold cutS; rw [if_neg (by omega), if_neg (by omega)]; simp
theorem takeS_inv {bs : List Int} {k m : Int} {v x : Int} (h : takeS bs k m = (v, x, 0)) : ∃ j q : Nat, k = j ∧ m = q ∧ 1 ≤ q ∧ q ≤ 8 ∧ j + q ≤ bs.length ∧ v = num ((bs.drop j).take q) ∧ x = ((j + q : Nat) : Int) := by
  unfold takeS at h
  split at h
  · injection h with h1 h2; injection h2 with h2 h3; cases h3
  · rename_i h0
    split at h
    · rename_i hc
      injection h with h1 h2; injection h2 with h2 h3
      exact absurd h3 hc
    · rename_i hc
      injection h with h1 h2; injection h2 with h2 h3
      have e : cutS bs k m = ((cutS bs k m).1, (cutS bs k m).2.1, 0) := by
        have : (cutS bs k m).2.2 = 0 := by simpa using hc
        rw [← this]
      obtain ⟨j, q, rfl, rfl, h5, h6, h7⟩ := cutS_ok e
      exact ⟨j, q, rfl, rfl, by omega, by omega, h5, by rw [← h1, h6], by rw [← h2, h7]⟩
theorem takeS_mk (bs : List Int) (j q : Nat) (h1 : 1 ≤ q) (h8 : q ≤ 8) (h : j + q ≤ bs.length) : takeS bs j q = (num ((bs.drop j).take q), ((j + q : Nat) : Int), 0) :=
  takeS_ok (by omega) (cutS_mk bs j q h)
theorem take_one (bs : List Int) (j : Nat) (h : j < bs.length) : (bs.drop j).take 1 = [bs.getD j 0] := by
  rw [List.drop_eq_getElem_cons h, List.take_succ_cons, List.take_zero]; simp [List.getD, List.getElem?_eq_getElem h]
theorem num_one (x : Int) : num [x] = x := by simp [num]
/-- a tag stands there. -/
theorem tagS_inv {bs : List Int} {k : Int} {p : Int × Int × Int} (hb : ∀ b ∈ bs, 0 ≤ b ∧ b ≤ 255) (h : tagS bs k = p) (h0 : p.2.2 = 0) :
    ∃ j : Nat, k = j ∧ j < bs.length ∧ p = (bs.getD j 0, ((j + 1 : Nat) : Int), 0) ∧ 1 ≤ p.1 ∧ p.1 ≤ 255 := by
  unfold tagS at h
  split at h
  · rename_i hc; subst h; exact absurd h0 hc
  · rename_i hc
    split at h
    · subst h; cases h0
    · rename_i hz
      have e : takeS bs k 1 = ((takeS bs k 1).1, (takeS bs k 1).2.1, 0) := by
        have : (takeS bs k 1).2.2 = 0 := by simpa using hc
        rw [← this]
      obtain ⟨j, q, rfl, hq, _, _, h5, h6, h7⟩ := takeS_inv e
      obtain rfl : q = 1 := by omega
      rw [take_one bs j (by omega), num_one] at h6
      have h8 := hb (bs.getD j 0) (by simp [List.getD, List.getElem?_eq_getElem (show j < bs.length by omega)])
      rw [h6] at hz
      refine ⟨j, rfl, by omega, by rw [← h, e, h6, h7], ?_, ?_⟩
      · rw [← h, h6]; omega
      · rw [← h, h6]; omega
/-- a length stands there. -/
theorem lenS_inv {bs : List Int} {k : Nat} {p : Int × Int × Int} (hb : ∀ b ∈ bs, 0 ≤ b ∧ b ≤ 255) (hk : k ≤ bs.length) (h : lenS bs k = p) (h0 : p.2.2 = 0) :
    ∃ y m : Nat, p = ((y : Int), ((k + m : Nat) : Int), 0) ∧ y ≤ 65535 ∧ 1 ≤ m ∧ k + m ≤ bs.length ∧ vb y = (bs.drop k).take m ∧ vs y = m := by
  unfold lenS at h
  split at h
  · rename_i hc; subst h; exact absurd h0 hc
  · rename_i hc
    split at h
    · subst h; cases h0
    · rename_i hz
      have e : readS bs k = ((readS bs k).1, (readS bs k).2.1, 0) := by
        have : (readS bs k).2.2 = 0 := by simpa using hc
        rw [← this]
      obtain ⟨y, m, h1, h2, h3, h4, h5, h6, _⟩ := readS_short bs k _ _ hb hk e
      exact ⟨y, m, by rw [← h, e, h1, h2], by omega, h3, h4, h5, h6⟩
/-- a body stands there. -/
theorem bodyS_inv {bs : List Int} {k : Nat} {p : List Int × Int × Int} (hb : ∀ b ∈ bs, 0 ≤ b ∧ b ≤ 255) (hk : k ≤ bs.length) (h : bodyS bs k = p) (h0 : p.2.2 = 0) :
    ∃ y m : Nat, p = ((bs.drop (k + m)).take y, ((k + m + y : Nat) : Int), 0) ∧ y ≤ 65535 ∧ 1 ≤ m ∧ k + m + y ≤ bs.length ∧ vb y = (bs.drop k).take m ∧ vs y = m := by
  by_cases hc : (lenS bs k).2.2 = 0
  · obtain ⟨y, m, h1, h2, h3, h4, h5, h6⟩ := lenS_inv hb hk rfl hc
    rw [bodyS_ok h1 rfl] at h
    have e : cutS bs ((k + m : Nat) : Int) (y : Int) = (p.1, p.2.1, 0) := by rw [← h0]; exact h
    obtain ⟨j, q, e1, e2, e3, e4, e5⟩ := cutS_ok e
    obtain rfl : j = k + m := by omega
    obtain rfl : q = y := by omega
    refine ⟨q, m, ?_, h2, h3, e3, h5, h6⟩
    rw [← e4, ← e5, ← h0]
  · rw [bodyS_err rfl hc] at h
    subst h; exact absurd h0 hc
end Go.Proofs.Ytipjbgmikbbkoaa
