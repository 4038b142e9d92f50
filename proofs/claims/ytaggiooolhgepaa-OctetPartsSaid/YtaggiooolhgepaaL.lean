/- How the arguments are opened; no condition but those in each theorem. -/
import Derived.Test.YtaggiooolhgepaaJ
import Derived.ProofKit
import Derived.OpenShut
import Derived.ShutString
import Derived.ChangeOld
namespace Go.Proofs.Ytaggiooolhgepaa
set_option linter.unusedVariables false
set_option linter.unusedSimpArgs false
open Go.ChangeShapes Go.WideShapes Go.ChangeAt Go.RowKit

/-- an array of integers by value, opened. -/
theorem open_iarr {H : Type} {enc : TypeId × Value → H} {P : Program} {W : World} {base : Nat} {sp : Nat → Bool} {held : Bool} {t e : TypeId} {n : Nat} {k : IntKind} (ht : P.underlying t = some (.array n e)) (he : P.underlying e = some (.int k)) (hce : P.cellsOf e = 1) (hC : P.cellsOf t = n)
    {r : Reach} {b0 : Nat} {v : Value} {d : DataW H} {p : List MemPlace} (hv : Value.okWide P W r b0 t v) (h : DataW.Trod enc P W base sp held t v d p) :
    ∃ xs : List Int, xs.length = n ∧ v = .agg (xs.map (Value.int k)).toArray ∧ ∀ x ∈ xs, (Lit.int k x).wf = true := by
  simp only [Value.okWide, ht] at hv
  obtain ⟨cs, rfl, hsz, _⟩ := hv
  obtain ⟨fuel, hf⟩ := h
  obtain ⟨ys, m, _, _, hcl, hyl, hel⟩ := DataW.trod_array ht hf
  simp only [Value.cells] at hel
  rw [hce] at hel
  have hall : ∀ i, i < n → ∃ x, cs.toList[i]? = some (.int k x) ∧ (Lit.int k x).wf = true := by
    intro i hi
    have h1 := hel i hi
    rw [List.getElem?_eq_getElem (by omega)] at h1
    obtain ⟨x, hx, _, wx⟩ := DataW.trod_int he h1
    refine ⟨x, ?_, wx⟩
    have : ((cs.toList.drop (i * 1)).take 1)[0]? = some (.int k x) := by rw [hx]; rfl
    simpa [List.getElem?_take, List.getElem?_drop] using this
  have hlen : cs.toList.length = n := by simpa using hsz.trans hC
  refine ⟨cs.toList.map (fun v => match v with | .int _ x => x | _ => 0), by simpa using hlen, ?_, ?_⟩
  · congr 1
    apply Array.ext'
    apply List.ext_getElem?
    intro i
    rcases Nat.lt_or_ge i n with hi | hi
    · obtain ⟨x, hx, _⟩ := hall i hi
      simp only [List.map_map, List.getElem?_map]
      rw [hx]; rfl
    · rw [List.getElem?_eq_none (by omega), List.getElem?_eq_none (by simp; omega)]
  · intro x hx
    obtain ⟨v, hv, rfl⟩ := List.mem_map.1 hx
    obtain ⟨i, hi, rfl⟩ := List.mem_iff_getElem.1 hv
    obtain ⟨x, hx2, wx⟩ := hall i (by omega)
    rw [List.getElem?_eq_getElem hi] at hx2
    injection hx2 with hx2
    rw [hx2]; exact wx

theorem list2 {α : Type} : ∀ {xs : List α}, xs.length = 2 → ∃ a b, xs = [a, b]
  | [a, b], _ => ⟨a, b, rfl⟩
theorem list3 {α : Type} : ∀ {xs : List α}, xs.length = 3 → ∃ a b c, xs = [a, b, c]
  | [a, b, c], _ => ⟨a, b, c, rfl⟩

theorem own : ownKnob Try.prog.godebug = none := by kernel_rfl
theorem laidOut : laidOutB Try.prog = true := by kernel_rfl

theorem ans_w (A : Option Addr) (n c : Nat) (bs : List Int) (x m : Int) (w : World) (hb : Bs w A n c bs) (hx : (Lit.int .u64 x).wf = true) (hm : (Lit.int .i64 m).wf = true) :
    Calls Try.prog 3 #[.slice A n c, .int .u64 x, .int .i64 m] w fun e w' => e = .returned (.bool true) ∧ Below w.heap.size w w' :=
  ans_walk A n c bs x m w hb (bounds_u64 hx).1 (bounds_u64 hx).2
theorem takes_w (A : Option Addr) (n c : Nat) (bs : List Int) (x m : Int) (w : World) (hb : Bs w A n c bs) (hx : (Lit.int .i64 x).wf = true) (hm : (Lit.int .i64 m).wf = true) :
    Calls Try.prog 4 #[.slice A n c, .int .i64 x, .int .i64 m] w fun e w' => e = .returned (.bool true) ∧ Below w.heap.size w w' :=
  takes_walk A n c bs x m w hb
theorem back_w (A : Option Addr) (n c : Nat) (bs : List Int) (x a b : Int) (w : World) (hb : Bs w A n c bs) (hx : (Lit.int .u64 x).wf = true) (ha : (Lit.int .u8 a).wf = true) (hb' : (Lit.int .u8 b).wf = true) :
    Calls Try.prog 5 #[.slice A n c, .int .u64 x, .agg #[.int .u8 a, .int .u8 b]] w fun e w' => e = .returned (.bool true) ∧ Below w.heap.size w w' :=
  back_walk A n c bs x a b w hb (bounds_u64 hx).1 (bounds_u64 hx).2 (bounds_u8 ha).1 (bounds_u8 ha).2
theorem parts_w (A : Option Addr) (n c : Nat) (bs : List Int) (a b : Int) (w : World) (hb : Bs w A n c bs) (ha : (Lit.int .u8 a).wf = true) (hb' : (Lit.int .u8 b).wf = true) :
    Calls Try.prog 6 #[.slice A n c, .agg #[.int .u8 a, .int .u8 b]] w fun e w' => e = .returned (.bool true) ∧ Below w.heap.size w w' :=
  parts_walk A n c bs a b w hb (bounds_u8 ha).1 (bounds_u8 ha).2 (bounds_u8 hb').1 (bounds_u8 hb').2
end Go.Proofs.Ytaggiooolhgepaa
