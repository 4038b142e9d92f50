/- How words of layer 14 that came in are opened; frames' premises; no condition. -/
import Derived.Test.YtmgkmeppnhdhnaaOp
import Derived.Test.YtmgkmeppnhdhnaaCelA
namespace Go.Proofs.Ytmgkmeppnhdhnaa
set_option linter.unusedVariables false
set_option linter.unusedSimpArgs false
open Go.ChangeShapes Go.WideShapes Go.ChangeAt Go.RowKit

def wdF (x : Int) : List Value := [.int .u64 x]
theorem wdF_one (x : Int) : ∀ u ∈ wdF x, u.oneCell' = true := by
  intro u hu
  simp only [wdF, List.mem_cons, List.not_mem_nil, or_false] at hu
  rw [hu]; rfl
theorem u64_of_wf {x : Int} (h : (Lit.int .u64 x).wf = true) : ∃ X : Nat, x = X ∧ X < 18446744073709551616 := by
  have h1 : IntKind.u64.min = 0 := rfl
  have h2 : IntKind.u64.max = 18446744073709551615 := rfl
  simp only [Lit.wf, h1, h2, Bool.and_eq_true, decide_eq_true_eq] at h
  exact ⟨x.toNat, by omega, by omega⟩
theorem u8_of_wf {x : Int} (h : (Lit.int .u8 x).wf = true) : ∃ X : Nat, x = X ∧ X < 256 := by
  have h1 : IntKind.u8.min = 0 := rfl
  have h2 : IntKind.u8.max = 255 := rfl
  simp only [Lit.wf, h1, h2, Bool.and_eq_true, decide_eq_true_eq] at h
  exact ⟨x.toNat, by omega, by omega⟩
theorem wd_flat : ∀ (l : List Int), (∀ x ∈ l, (Lit.int .u64 x).wf = true) → l.flatMap wdF = U64s (l.map Int.toNat) ∧ ∀ v ∈ l.map Int.toNat, v < 18446744073709551616
  | [], _ => ⟨rfl, by simp⟩
  | x :: l, h => by
    obtain ⟨h1, h2⟩ := wd_flat l (fun y hy => h y (by simp [hy]))
    obtain ⟨X, e, hX⟩ := u64_of_wf (h x (by simp))
    subst e
    refine ⟨?_, ?_⟩
    · rw [List.flatMap_cons, h1]; rfl
    · intro v hv
      rcases List.mem_cons.1 hv with hv | hv
      · rw [hv]; exact hX
      · exact h2 v hv
section
variable {H : Type} {enc : TypeId × Value → H} {w : World} {base : Nat} {sp : Nat → Bool} {held : Bool} {r : Reach} {b0 : Nat} {v : Value} {d : DataW H} {p : List MemPlace}
theorem open_words (hv : Value.okWide Try.prog w r b0 22 v) (h : DataW.Trod enc Try.prog w base sp held 22 v d p) :
    ∃ A n c ws, v = .slice A n c ∧ (Ws w A n c ws ∧ ∀ v ∈ ws, v < 18446744073709551616) := by
  obtain ⟨A, n, c, l, rfl, A2, n2, c2, h1, hs⟩ := open_at_slice Try.underlying22 (opens_slice (k := 1) Try.underlying22 (by kernel_rfl) (by decide) (opens_int Try.underlying23)) hv h
  simp only [List.cons.injEq, and_true] at h1
  injection h1 with e1 e2 e3
  subst e1 e2 e3
  have hes := hs.es wdF (fun _ => rfl) wdF_one (fun _ _ _ h => h.1)
  have hall := hs.all (G := fun x => (Lit.int .u64 x).wf = true) (fun _ _ _ h => h.2)
  obtain ⟨f1, f2⟩ := wd_flat l hall
  rw [f1] at hes
  exact ⟨A, n, c, l.map Int.toNat, rfl, hes, f2⟩
end
end Go.Proofs.Ytmgkmeppnhdhnaa
