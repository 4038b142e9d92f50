/- How a slice of bools that came in is opened; the walk of RwTurns in the shape that its frame wants; no condition. -/
import Derived.Test.YtpkegfochfkkcaaRwX
import Derived.Test.YtpkegfochfkkcaaOp
namespace Go.Proofs.Ytpkegfochfkkcaa
set_option linter.unusedVariables false
set_option linter.unusedSimpArgs false
open Go.ChangeShapes Go.WideShapes Go.ChangeAt Go.RowKit
theorem bo_flat : ∀ l : List Bool, l.flatMap (fun b => [Value.bool b]) = l.map Value.bool
  | [] => rfl
  | x :: l => by rw [List.flatMap_cons, bo_flat l]; rfl
section
variable {H : Type} {enc : TypeId × Value → H} {w : World} {base : Nat} {sp : Nat → Bool} {held : Bool} {r : Reach} {b0 : Nat} {v : Value} {d : DataW H} {p : List MemPlace}
theorem open_bools (hv : Value.okWide Try.prog w r b0 52 v) (h : DataW.Trod enc Try.prog w base sp held 52 v d p) : ∃ (A : Option Addr) (n c : Nat) (bs : List Bool), v = .slice A n c ∧ Es w A n c 1 (bs.map Value.bool) := by
  obtain ⟨A, n, c, l, rfl, A2, n2, c2, h1, hs⟩ := open_at_slice Try.underlying52 (opens_slice (k := 1) Try.underlying52 (by kernel_rfl) (by decide) (opens_bool Try.underlying4)) hv h
  simp only [List.cons.injEq, and_true] at h1
  injection h1 with e1 e2 e3
  subst e1 e2 e3
  have hes := hs.es (fun b => [Value.bool b]) (fun _ => rfl) (fun a u hu => by simp only [List.mem_singleton] at hu; subst hu; rfl) (fun _ _ _ h => h)
  rw [bo_flat] at hes
  exact ⟨A, n, c, l, rfl, hes⟩
end
theorem turns16_frame (nn : Int) (A : Option Addr) (n c : Nat) (ps : List Int) (B : Option Addr) (m d : Nat) (bs : List Bool) (w : World) (hw : (Lit.int .u8 nn).wf = true) (hx : Bs w A n c ps) (hy : Es w B m d 1 (bs.map Value.bool)) :
    Calls Try.prog 6 #[.int .u8 nn, .slice A n c, .slice B m d] w fun e w' => e = .returned (.bool true) ∧ Below w.heap.size w w' :=
  turns16_walk nn A n c ps B m d bs w (bounds_u8 hw).1 (Int.lt_of_le_of_lt (bounds_u8 hw).2 (by decide)) hx hy
end Go.Proofs.Ytpkegfochfkkcaa
