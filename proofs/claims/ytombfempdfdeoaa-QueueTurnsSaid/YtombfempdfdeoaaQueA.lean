/- Layer 8: rows of an arena's records: what the document's words come to; no condition but those in each theorem. -/
import Derived.Test.YtombfempdfdeoaaAreF
import Derived.Test.YtombfempdfdeoaaAreM
namespace Go.Proofs.Ytombfempdfdeoaa
set_option linter.unusedVariables false
set_option linter.unusedSimpArgs false
open Go.RowKit

/-- a row: its first record, and its last. -/
abbrev Qu := Int × Int
/-- may not stand next in a row? -/
def badQ (p : Aren) (out : List Int) (at_ : Int) : Prop := liveS p at_ = false ∨ at_ ∈ out
instance (p : Aren) (out : List Int) (at_ : Int) : Decidable (badQ p out at_) := by unfold badQ; infer_instance
/-- a row's records from a place on. -/
def qWalk (p : Aren) : Nat → Int → List Int → Option (List Int)
  | 0, _, _ => none
  | f + 1, at_, out => if at_ = -1 then some out else if badQ p out at_ then none else qWalk p f (recAt p.1 at_).2.2 (out ++ [at_])
def lastD (l : List Int) : Int := l.getLastD (-1)
theorem lastD_app (l : List Int) (x : Int) : lastD (l ++ [x]) = x := by simp [lastD]
/-- a row's places, and whether it may be. -/
def qPl (p : Aren) (q : Qu) : List Int × Bool :=
  if rightS p = false then ([], false) else match qWalk p (p.1.length + 1) q.1 [] with
    | none => ([], false)
    | some l => (l, lastD l == q.2)
def qRight (p : Aren) (q : Qu) : Bool := (qPl p q).2
def qPlaces (p : Aren) (q : Qu) : List Int := if qRight p q = true then (qPl p q).1 else []
def qTasks (p : Aren) (q : Qu) : List Int := (qPlaces p q).map fun i => (recAt p.1 i).2.1
def headD' (l : List Int) : Int := l.headD (-1)
def setN (rs : List Rec3) (i x : Int) : List Rec3 := rs.set i.toNat ((recAt rs i).1, (recAt rs i).2.1, x)
/-- the links of a row, laid one by one. -/
def laidR : List Rec3 → List Int → List Rec3
  | rs, [] => rs
  | rs, x :: l => laidR (setN rs x (headD' l)) l
def laidQ (l : List Int) : Qu := (headD' l, lastD l)
theorem setN_len (rs : List Rec3) (i x : Int) : (setN rs i x).length = rs.length := by simp [setN]
theorem laidR_len : ∀ (l : List Int) (rs : List Rec3), (laidR rs l).length = rs.length
  | [], _ => rfl
  | x :: l, rs => by show (laidR (setN rs x (headD' l)) l).length = _; rw [laidR_len l, setN_len]
def qPush (p : Aren) (q : Qu) (key task : Int) (front : Bool) : Aren × Qu × Int :=
  if qRight p q = false then (p, q, 1) else
  if (arTake p key task).2.2 ≠ 0 then (p, q, (arTake p key task).2.2) else
  ((laidR (arTake p key task).1.1 (if front = true then (arTake p key task).2.1 :: qPlaces p q else qPlaces p q ++ [(arTake p key task).2.1]), (arTake p key task).1.2),
    laidQ (if front = true then (arTake p key task).2.1 :: qPlaces p q else qPlaces p q ++ [(arTake p key task).2.1]), 0)
/-- a row but for one of its places. -/
def butL (l : List Int) (k : Nat) : List Int := l.take k ++ l.drop (k + 1)
def qBut (p : Aren) (q : Qu) (k : Nat) : Aren × Qu × Int :=
  if (arGive (laidR p.1 (butL (qPlaces p q) k), p.2) ((qPlaces p q).getD k 0)).2 ≠ 0 then (p, q, (arGive (laidR p.1 (butL (qPlaces p q) k), p.2) ((qPlaces p q).getD k 0)).2)
  else ((arGive (laidR p.1 (butL (qPlaces p q) k), p.2) ((qPlaces p q).getD k 0)).1, laidQ (butL (qPlaces p q) k), 0)
def qPop (p : Aren) (q : Qu) : Aren × Qu × Int × Int :=
  if qRight p q = false then (p, q, 0, 1) else if qTasks p q = [] then (p, q, 0, 7) else
  if (qBut p q 0).2.2 ≠ 0 then (p, q, 0, (qBut p q 0).2.2) else ((qBut p q 0).1, (qBut p q 0).2.1, (qTasks p q).headD 0, 0)
/-- the place of the first one that is equal, if there is one. -/
def findI (x : Int) : List Int → Option Nat
  | [] => none
  | y :: l => if y = x then some 0 else (findI x l).map (· + 1)
def qDrop (p : Aren) (q : Qu) (task : Int) : Aren × Qu × Int :=
  if qRight p q = false then (p, q, 1) else match findI task (qTasks p q) with
    | none => (p, q, 7)
    | some k => qBut p q k
theorem findI_none {x : Int} : ∀ {l : List Int}, findI x l = none ↔ x ∉ l
  | [] => by simp [findI]
  | y :: l => by
    unfold findI
    by_cases h : y = x
    · rw [if_pos h]; simp [h]
    · rw [if_neg h, Option.map_eq_none_iff, findI_none]; simp [Ne.symm h]
theorem findI_some {x : Int} : ∀ {l : List Int} {k : Nat}, l[k]? = some x → x ∉ l.take k → findI x l = some k
  | [], k, h, _ => by simp at h
  | y :: l, 0, h, _ => by simp at h; unfold findI; rw [if_pos h]
  | y :: l, k + 1, h, hn => by
    simp only [List.getElem?_cons_succ] at h
    simp only [List.take_succ_cons, List.mem_cons, not_or] at hn
    unfold findI
    rw [if_neg (Ne.symm hn.1), findI_some h hn.2]; rfl
theorem findI_spec {x : Int} : ∀ {l : List Int} {k : Nat}, findI x l = some k → l[k]? = some x ∧ x ∉ l.take k
  | [], k, h => by simp [findI] at h
  | y :: l, k, h => by
    unfold findI at h
    by_cases hy : y = x
    · rw [if_pos hy] at h; injection h with h; subst h; simp [hy]
    · rw [if_neg hy, Option.map_eq_some_iff] at h
      obtain ⟨j, hj, rfl⟩ := h
      obtain ⟨h1, h2⟩ := findI_spec hj
      refine ⟨by simpa using h1, ?_⟩
      simp only [List.take_succ_cons, List.mem_cons, not_or]
      exact ⟨Ne.symm hy, h2⟩
theorem qWalk_end {p : Aren} {f : Nat} {at_ : Int} {out : List Int} (hf : 0 < f) (h : at_ = -1) : qWalk p f at_ out = some out := by
  obtain ⟨g, rfl⟩ : ∃ g, f = g + 1 := ⟨f - 1, by omega⟩
  unfold qWalk; rw [if_pos h]
theorem qWalk_bad {p : Aren} {f : Nat} {at_ : Int} {out : List Int} (h0 : at_ ≠ -1) (h : badQ p out at_) : qWalk p f at_ out = none := by
  cases f with
  | zero => rfl
  | succ f => unfold qWalk; rw [if_neg h0, if_pos h]
theorem qWalk_step {p : Aren} {f : Nat} {at_ : Int} {out : List Int} (hf : 0 < f) (h0 : at_ ≠ -1) (h : ¬ badQ p out at_) : qWalk p f at_ out = qWalk p (f - 1) (recAt p.1 at_).2.2 (out ++ [at_]) := by
  obtain ⟨g, rfl⟩ : ∃ g, f = g + 1 := ⟨f - 1, by omega⟩
  conv => lhs; unfold qWalk
  rw [if_neg h0, if_neg h]; rfl
theorem not_badQ {p : Aren} {out : List Int} {at_ : Int} (h : ¬ badQ p out at_) : liveS p at_ = true ∧ 0 ≤ at_ ∧ at_ < (p.1.length : Int) ∧ at_ ∉ out := by
  unfold badQ at h
  simp only [not_or, Bool.not_eq_false] at h
  exact ⟨h.1, (live_bounds h.1).1, (live_bounds h.1).2, h.2⟩
theorem qWalk_places {p : Aren} : ∀ {f : Nat} {at_ : Int} {out l : List Int}, Places p.1.length out → qWalk p f at_ out = some l → Places p.1.length l
  | 0, _, _, _, _, h => by cases h
  | f + 1, at_, out, l, hp, h => by
    unfold qWalk at h
    split at h
    · injection h with h; subst h; exact hp
    · split at h
      · cases h
      · rename_i hb
        obtain ⟨_, g0, g1, g2⟩ := not_badQ hb
        exact qWalk_places (hp.app g0 g1 g2) h
theorem qWalk_live {p : Aren} : ∀ {f : Nat} {at_ : Int} {out l : List Int}, (∀ x ∈ out, liveS p x = true) → qWalk p f at_ out = some l → ∀ x ∈ l, liveS p x = true
  | 0, _, _, _, _, h => by cases h
  | f + 1, at_, out, l, hp, h => by
    unfold qWalk at h
    split at h
    · injection h with h; subst h; exact hp
    · split at h
      · cases h
      · rename_i hb
        refine qWalk_live ?_ h
        intro x hx
        rcases List.mem_append.1 hx with hx | hx
        · exact hp x hx
        · simp at hx; subst hx; exact (not_badQ hb).1
theorem qPl_places (p : Aren) (q : Qu) : Places p.1.length (qPl p q).1 := by
  unfold qPl
  split
  · exact Places.nil _
  · split
    · exact Places.nil _
    · rename_i h; exact qWalk_places (Places.nil _) h
theorem qPlaces_places (p : Aren) (q : Qu) : Places p.1.length (qPlaces p q) := by
  unfold qPlaces
  split
  · exact qPl_places p q
  · exact Places.nil _
theorem qPlaces_wrong {p : Aren} {q : Qu} (h : qRight p q = false) : qPlaces p q = [] := by unfold qPlaces; rw [h]; rfl
theorem qPlaces_right {p : Aren} {q : Qu} (h : qRight p q = true) : qPlaces p q = (qPl p q).1 := by unfold qPlaces; rw [if_pos h]
end Go.Proofs.Ytombfempdfdeoaa
