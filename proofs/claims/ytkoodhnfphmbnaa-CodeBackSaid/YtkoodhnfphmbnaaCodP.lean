/- What layer 13's walks lean on: how great what is read may be; no condition but those in each theorem. -/
import Derived.Test.YtkoodhnfphmbnaaCodO
namespace Go.Proofs.Ytkoodhnfphmbnaa
set_option linter.unusedVariables false
set_option linter.unusedSimpArgs false
open Go.RowKit
theorem read_small {bs : List Int} {at_ : Int} {q : Pg} {n e : Int} (h : readPg bs at_ = (q, n, e)) : q.code.length ≤ 60 ∧ q.kinds.length ≤ 8 ∧ q.sizes.length ≤ 8 := by
  by_cases he : e = 0
  · unfold readPg at h
    split at h
    · injection h with h1 h2; subst h1; exact ⟨by decide, by decide, by decide⟩
    · split at h
      · injection h with h1 h2; subst h1; exact ⟨by decide, by decide, by decide⟩
      · split at h
        · injection h with h1 h2; subst h1; exact ⟨by decide, by decide, by decide⟩
        · split at h
          · injection h with h1 h2; subst h1; exact ⟨by decide, by decide, by decide⟩
          · unfold endPg at h
            split at h
            · rename_i hr
              injection h with h1 h2
              have r := rightPg_iff.1 hr
              rw [h1] at r
              exact ⟨r.n60, r.k8, by rw [r.ks]; exact r.k8⟩
            · injection h with h1 h2; subst h1; exact ⟨by decide, by decide, by decide⟩
  · obtain ⟨_, rfl⟩ := read_err h he
    exact ⟨by decide, by decide, by decide⟩
theorem sameB_self (p : Pg) : sameB p p = true := decide_eq_true ⟨rfl, rfl, rfl, rfl, rfl, rfl⟩
end Go.Proofs.Ytkoodhnfphmbnaa
