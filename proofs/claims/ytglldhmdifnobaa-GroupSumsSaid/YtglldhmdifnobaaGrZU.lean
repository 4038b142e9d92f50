/- How a slice of small numbers that came in is opened; the walk of GroupSums in the shape that its frame wants; no condition. -/
import Derived.Test.YtglldhmdifnobaaGrU
import Derived.Test.YtglldhmdifnobaaOp
namespace Go.Proofs.Ytglldhmdifnobaa
set_option linter.unusedVariables false
set_option linter.unusedSimpArgs false
open Go.ChangeShapes Go.WideShapes Go.ChangeAt Go.RowKit
theorem i8_flat : ∀ l : List Int, l.flatMap (fun b => [Value.int .i8 b]) = l.map (Value.int .i8)
  | [] => rfl
  | x :: l => by rw [List.flatMap_cons, i8_flat l]; rfl
section
variable {H : Type} {enc : TypeId × Value → H} {w : World} {base : Nat} {sp : Nat → Bool} {held : Bool} {r : Reach} {b0 : Nat} {v : Value} {d : DataW H} {p : List MemPlace}
theorem open_int8s (hv : Value.okWide Try.prog w r b0 45 v) (h : DataW.Trod enc Try.prog w base sp held 45 v d p) : ∃ (A : Option Addr) (n c : Nat) (l : List Int), v = .slice A n c ∧ I8s w A n c l := by
  obtain ⟨A, n, c, l, rfl, A2, n2, c2, h1, hs⟩ := open_at_slice Try.underlying45 (opens_slice (k := 1) Try.underlying45 (by kernel_rfl) (by decide) (opens_int Try.underlying47)) hv h
  simp only [List.cons.injEq, and_true] at h1
  injection h1 with e1 e2 e3
  subst e1 e2 e3
  have hes := hs.es (fun b => [Value.int .i8 b]) (fun _ => rfl) (fun a u hu => by simp only [List.mem_singleton] at hu; subst hu; rfl) (fun _ _ _ h => h.1)
  have hall := hs.all (G := fun x => (Lit.int .i8 x).wf = true) (fun _ _ _ h => h.2)
  rw [i8_flat] at hes
  refine ⟨A, n, c, l, rfl, hes, fun x hx => ?_⟩
  have := hall x hx
  simp [Lit.wf, IntKind.min, IntKind.max, IntKind.signed, IntKind.bits] at this
  omega
end
theorem sums17_frame (A : Option Addr) (n c : Nat) (l : List Int) (w : World) (hx : I8s w A n c l) : Calls Try.prog 4 #[.slice A n c] w fun e w' => e = .returned (.bool true) ∧ Below w.heap.size w w' :=
  sums17_walk A n c l w hx
end Go.Proofs.Ytglldhmdifnobaa
