/- Plain mathematics of layer 8: whoever is pushed, popped and dropped, of an arena with one row; no condition but those in each theorem. -/
import Derived.Test.YtombfempdfdeoaaQueN
namespace Go.Proofs.Ytombfempdfdeoaa
set_option linter.unusedVariables false
set_option linter.unusedSimpArgs false
open Go.RowKit

/-- an arena of which each record is free, or of its one row. -/
structure QT (size : Nat) (p : Aren) (q : Qu) (own fl l : List Int) : Prop where
  ok : Ok p fl
  row : Row p q l
  all : ∀ x, liveS p x = true → x ∈ l
  owned : qTasks p q = own
  len : p.1.length = size
  sum : fl.length + own.length = size
theorem QT.olen {size : Nat} {p : Aren} {q : Qu} {own fl l : List Int} (h : QT size p q own fl l) : own.length = l.length := by
  rw [← h.owned, h.row.tasks h.ok.right, List.length_map]
theorem QT.first {n : Nat} (h : n ≤ 64) : arMake n = ((freshL 0 n, if n = 0 then -1 else 0), 0) ∧ QT n (freshL 0 n, if n = 0 then -1 else 0) (-1, -1) [] (upTo 0 n) [] := by
  obtain ⟨h1, h2⟩ := make_ok h
  have hrow : Row (freshL 0 n, if n = 0 then -1 else 0) (-1, -1) [] := ⟨rfl, by simp, List.nodup_nil, rfl⟩
  refine ⟨h1, h2, hrow, fun x hx => ?_, ?_, freshL_len n 0, by simp [upTo_len]⟩
  · obtain ⟨h0, h3, h4⟩ := (h2.live x).1 hx
    simp only [freshL_len] at h3
    exact absurd ((upTo_mem n 0 x).2 (by omega)) h4
  · rw [hrow.tasks h2.right]; rfl
theorem QT.push {size : Nat} {p : Aren} {q : Qu} {own fl l : List Int} (h : QT size p q own fl l) {key task : Int} (hk : 0 ≤ key) (ht : 0 ≤ task) (front : Bool) :
    (size ≤ own.length ∧ qPush p q key task front = (p, q, 6)) ∨ (own.length < size ∧ ∃ p2 q2 fl2 l2, qPush p q key task front = (p2, q2, 0) ∧ QT size p2 q2 (pushL own task front) fl2 l2) := by
  rcases push_ok h.ok h.row hk ht front with ⟨rfl, he⟩ | ⟨i, fl', p2, rfl, hi, hp⟩
  · left
    exact ⟨by have := h.sum; simp at this; omega, he⟩
  · right
    have hs := h.sum
    simp only [List.length_cons] at hs
    refine ⟨by omega, p2, _, fl', _, hp.eq, ⟨hp.ok, hp.row, fun x hx => ?_, by rw [hp.tasks, h.owned], by rw [hp.len, h.len], ?_⟩⟩
    · rw [pushL_mem]
      rcases (hp.live x).1 hx with h1 | h1
      · exact Or.inr (h.all x h1)
      · exact Or.inl h1
    · have : (pushL own task front).length = own.length + 1 := by unfold pushL; cases front <;> simp
      omega
theorem QT.but {size : Nat} {p : Aren} {q : Qu} {own fl l : List Int} (h : QT size p q own fl l) {k : Nat} (hk : k < own.length) :
    ∃ p2 q2 fl2 l2, qBut p q k = (p2, q2, 0) ∧ QT size p2 q2 (butL own k) fl2 l2 := by
  have hl := h.olen
  obtain ⟨p2, hb⟩ := but_ok h.ok h.row (k := k) (by omega) (fun y hy hn => absurd (h.all y hy) hn)
  refine ⟨p2, _, _, _, hb.eq, ⟨hb.ok, hb.row, fun x hx => ?_, by rw [hb.tasks, h.owned], by rw [hb.len, h.len], ?_⟩⟩
  · obtain ⟨h1, h2⟩ := (hb.live x).1 hx
    exact (butN_mem h.row.nodup (by omega)).2 ⟨h.all x h1, h2⟩
  · have h1 := butN_len hk
    have h2 := h.sum
    simp only [List.length_cons]
    omega
theorem QT.popn {size : Nat} {p : Aren} {q : Qu} {fl l : List Int} (h : QT size p q [] fl l) : qPop p q = (p, q, 0, 7) := by
  have hr := h.row.right h.ok.right
  unfold qPop
  rw [if_neg (by simp [hr]), if_pos h.owned]
theorem QT.pop {size : Nat} {p : Aren} {q : Qu} {t : Int} {own fl l : List Int} (h : QT size p q (t :: own) fl l) :
    ∃ p2 q2 fl2 l2, qPop p q = (p2, q2, t, 0) ∧ QT size p2 q2 own fl2 l2 := by
  have hr := h.row.right h.ok.right
  obtain ⟨p2, q2, fl2, l2, he, hq⟩ := h.but (k := 0) (by simp)
  refine ⟨p2, q2, fl2, l2, ?_, hq⟩
  unfold qPop
  rw [if_neg (by simp [hr]), if_neg (by rw [h.owned]; simp), he, if_neg (by simp), h.owned]
  rfl
theorem QT.dropn {size : Nat} {p : Aren} {q : Qu} {t : Int} {own fl l : List Int} (h : QT size p q own fl l) (ht : t ∉ own) : qDrop p q t = (p, q, 7) := by
  have hr := h.row.right h.ok.right
  unfold qDrop
  rw [if_neg (by simp [hr]), h.owned, findI_none.2 ht]
theorem QT.drop {size : Nat} {p : Aren} {q : Qu} {t : Int} {own fl l : List Int} (h : QT size p q own fl l) {k : Nat} (hk : findI t own = some k) :
    ∃ p2 q2 fl2 l2, qDrop p q t = (p2, q2, 0) ∧ QT size p2 q2 (butL own k) fl2 l2 := by
  have hr := h.row.right h.ok.right
  have hkl : k < own.length := by
    have := (findI_spec hk).1
    rcases Nat.lt_or_ge k own.length with h1 | h1
    · exact h1
    · rw [List.getElem?_eq_none h1] at this; cases this
  obtain ⟨p2, q2, fl2, l2, he, hq⟩ := h.but hkl
  refine ⟨p2, q2, fl2, l2, ?_, hq⟩
  unfold qDrop
  rw [if_neg (by simp [hr]), h.owned, hk]
  exact he
theorem findI_mem {x : Int} {l : List Int} : x ∈ l ↔ ∃ k, findI x l = some k := by
  constructor
  · intro h
    cases hf : findI x l with
    | none => exact absurd h (findI_none.1 hf)
    | some k => exact ⟨k, rfl⟩
  · rintro ⟨k, hk⟩
    exact List.mem_of_getElem? (findI_spec hk).1
theorem QT.done {size : Nat} {p : Aren} {q : Qu} {own fl l : List Int} (h : QT size p q own fl l) : qRight p q = true ∧ qTasks p q = own ∧ (freeS p).length + own.length = size := by
  refine ⟨h.row.right h.ok.right, h.owned, ?_⟩
  rw [h.ok.free]; exact h.sum
end Go.Proofs.Ytombfempdfdeoaa
