/- Laws of one's own for a region that draws its order: an invariant in place of all orders; over any program. -/
import Derived.Test.YtpkegfochfkkcaaFr
import Derived.Deep.RegionHeld3
namespace Go.Proofs.Ytpkegfochfkkcaa
set_option linter.unusedVariables false
set_option linter.unusedSimpArgs false
open Go.RowKit
section
variable {P : Program} {ops : Array Oper} {Q : Exit → Act → World → Prop} {md : Region.Mode} {S : World → Prop}
/-- whatever is told of a state whose rest is smaller may be used. -/
theorem inv_region {fuel : Nat} {listed : Array Bool} {a : Act} {w : World} (J : Act → Nat → Array Bool → Act → World → Prop) (h0 : J a fuel listed a w)
    (step : ∀ f l b u, J a f l b u → (∀ g k c v, g < f → J a g k c v → wpAnyH P md ops Q S g k c v) → wpAnyH P md ops Q S f l b u) : wpAnyH P md ops Q S fuel listed a w := by
  suffices h : ∀ n f, f ≤ n → ∀ l b u, J a f l b u → wpAnyH P md ops Q S f l b u from h fuel fuel (Nat.le_refl _) _ _ _ h0
  intro n
  induction n with
  | zero => intro f hf l b u hj; exact step f l b u hj (fun g k c v hg _ => by omega)
  | succ n ih => intro f hf l b u hj; exact step f l b u hj (fun g k c v hg hj2 => ih g (by omega) k c v hj2)
/-- whichever comes up next: what is told of those that may. -/
theorem inv_step {fuel : Nat} {listed : Array Bool} {a : Act} {w : World} {bad : Bool} (pred : Nat → Bool) (hall : (bad || (!(Region.ready md ops listed).isEmpty && (Region.ready md ops listed).all pred)) = true) (hb : bad = false)
    (h : ∀ i, pred i = true → wpOp P ops Q i (fun a' w' => S w' ∧ wpAnyH P md ops Q S fuel (listed.setIfInBounds i true) a' w') a w) : wpAnyH P md ops Q S (fuel + 1) listed a w := by
  rw [hb, Bool.false_or, Bool.and_eq_true] at hall
  obtain ⟨h1, h2⟩ := hall
  refine ⟨fun h0 => ?_, fun i hi => h i (List.all_eq_true.1 h2 i hi)⟩
  rw [h0] at h1; cases h1
theorem inv_arm {fuel : Nat} {listed : Array Bool} {a : Act} {w : World} {i : Nat} {o : Oper} (ho : ops[i]? = some o)
    (h : ∀ K' : Act → World → Prop, Shut (∀ a w, S w → (S w → wpAnyH P md ops Q S fuel (listed.setIfInBounds i true) a w) → K' a w) → if Region.wanted o (yielded ops a.tmps) = true then Oper.wp P o a w K' Q else K' (a.put o.dst undef) w) :
    wpOp P ops Q i (fun a' w' => S w' ∧ wpAnyH P md ops Q S fuel (listed.setIfInBounds i true) a' w') a w :=
  wpOp_step ho (fun K' hK => h K' (fun a w hS hW => hK a w ⟨hS, hW hS⟩))
theorem inv_imp {a b : Bool} (h : a = true → b = true) : (a && !b) = false := by
  cases a
  · rfl
  · rw [h rfl]; rfl
theorem inv_not {a : Bool} (h : ¬ a = true) : a = false := by simpa using h
theorem inv_or {a b : Bool} (h : a = false) (k : b = false) : (a || b) = false := by rw [h, k]; rfl
end
end Go.Proofs.Ytpkegfochfkkcaa
