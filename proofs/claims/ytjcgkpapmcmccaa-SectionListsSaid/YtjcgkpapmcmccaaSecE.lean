/- What ends a reading is caught: the deferred closure's two contracts, caught's, Read's and List's closures; for bytes up to 16384. -/
import Derived.Test.YtjcgkpapmcmccaaSecD
import Derived.Defers
import Derived.Recover
namespace Go.Proofs.Ytjcgkpapmcmccaa
set_option linter.unusedVariables false
set_option linter.unusedSimpArgs false
open Go.RowKit

theorem results_cell {P : Program} {fn : Func} {tmps : Array Value} {a : Nat} {t : TypeId} {ad : Addr} {v : Value} {w : World} (h : fn.results = #[.cell a t]) (hp : tmps.getD a undef = .pointer (some ad))
    (hl : (loadVar t ad).run P w = .ok v w) : (results fn tmps).run P w = .ok v w := results_cell1 h hp hl
/-- an error's number in its variable. -/
theorem load_num {w : World} {tmps : Array Value} {b : Nat} {k : Int} (hc : w.cell? ⟨b, 0, none⟩ = some (.int .i64 k)) (hp : tmps.getD 2 undef = .pointer (some ⟨b, 0, none⟩)) :
    (results Try.f26 tmps).run Try.prog w = .ok (.int .i64 k) w := by
  refine results_cell1 (a := 2) (t := 26) (by kernel_rfl) hp ?_
  simp [go_sem, hc]
theorem catch_panicking (p : Addr) (e : Int) (x : Value) (w : World) (hc : w.cell? p = some x) (hz : w.frozen? p = false) :
    CallsD Try.prog 41 #[.pointer (some p)] (.panicking [PE e]) w fun z u' w' =>
      z = .returned (.tuple #[]) ∧ u' = .panicking [{ v := .iface 68 (.int .i64 e), recovered := true }] ∧ w' = w.setCell p (.int .i64 e) := by
  refine callsD_of_wpS Try.func41 rfl fun c₀ cs hu => ?_
  simp only [Try.ntmps41, List.size_toArray, List.length_cons, List.length_nil, Nat.reduceAdd, Nat.reduceSub, Array.replicate_succ, Array.replicate_zero, List.push_toArray, List.append_toArray, List.nil_append, List.cons_append]
  apply wpS_seq
  apply wpS_region
  simp [wpOpsS, go_sem, recoverD, hu, Try.ntmps41, Exit.thenS, PE]
  refine wpS_of_wp ?_
  have hta : ∀ W : World, (Instr.typeAssert (.iface 68 (.int .i64 e)) 20 68 true).run Try.prog W = .ok (.tuple #[.int .i64 e, .bool true]) W := fun _ => by kernel_rfl
  go_wp2
  simp [bodyPostS, results, Try.results41]
theorem catch_idle (p : Addr) (w : World) :
    CallsD Try.prog 41 #[.pointer (some p)] .returning w fun z u' w' => z = .returned (.tuple #[]) ∧ u' = .returning ∧ w' = w := by
  refine callsD_of_wpS Try.func41 rfl fun c₀ cs hu => ?_
  simp only [Try.ntmps41, List.size_toArray, List.length_cons, List.length_nil, Nat.reduceAdd, Nat.reduceSub, Array.replicate_succ, Array.replicate_zero, List.push_toArray, List.append_toArray, List.nil_append, List.cons_append]
  apply wpS_seq
  apply wpS_region
  simp [wpOpsS, go_sem, recoverD, hu, Try.ntmps41, Exit.thenS]
  refine wpS_of_wp ?_
  go_wp2
  cases c₀
  simp_all [bodyPostS, results, Try.results41]
theorem caught_ok (F : FuncId) (cap : Array Value) (w : World) (Q : World → Prop) (hen : ∀ W : World, (callFunc F cap).run Try.prog W = .ok (.enter F cap) W)
    (h : Calls Try.prog F cap (w.alloc (.cells #[.int .i64 0] 26)) fun e w' => e = .returned (.tuple #[]) ∧ w'.heap[w.heap.size]? = some (.cells #[.int .i64 0] 26) ∧ Q w') :
    Calls Try.prog 26 #[.func (.func F) #[] cap] w fun e w' => e = .returned (.int .i64 0) ∧ ∃ w1, Q w1 ∧ w' = w1.setCell ⟨w.heap.size, 0, none⟩ (.int .i64 0) := by
  have hmf : ∀ (fn : Fn) (first cap : Array Value) (w : World), (Instr.makeFunc fn first cap).run Try.prog w = .ok (.func fn first cap) w := fun _ _ _ _ => rfl
  go_enter_defers Try.func26, Try.ntmps26
  go_wp2_with fail
  refine h.mono ?_; rintro e w' ⟨rfl, he, hq⟩
  have hc := cell_of_row w' w.heap.size 0 _ _ (0, 0) he
  have hz := row_z he 0
  have HQ := Lib.hid hq; clear he hq h hen
  go_wp2
  refine leaves_cons (f := 41) (args := #[.pointer (some ⟨w.heap.size, 0, none⟩)]) (by simp) (by simp [go_sem]) ?_
  refine (catch_idle _ _).mono ?_
  rintro e u' w'' ⟨rfl, rfl, rfl⟩
  refine ⟨_, load_num (w := w'.setCell ⟨w.heap.size, 0, none⟩ (.int .i64 0)) (World.cell?_setCell_same _ _ _ hc) (by rfl), rfl, w', HQ.out, rfl⟩
theorem caught_err (F : FuncId) (cap : Array Value) (w : World) (k : Int) (Q : World → Prop) (hen : ∀ W : World, (callFunc F cap).run Try.prog W = .ok (.enter F cap) W)
    (h : Calls Try.prog F cap (w.alloc (.cells #[.int .i64 0] 26)) fun e w' => e = .panicked [PE k] ∧ w'.heap[w.heap.size]? = some (.cells #[.int .i64 0] 26) ∧ Q w') :
    Calls Try.prog 26 #[.func (.func F) #[] cap] w fun e w' => e = .returned (.int .i64 k) ∧ ∃ w1, Q w1 ∧ w' = w1.setCell ⟨w.heap.size, 0, none⟩ (.int .i64 k) := by
  have hmf : ∀ (fn : Fn) (first cap : Array Value) (w : World), (Instr.makeFunc fn first cap).run Try.prog w = .ok (.func fn first cap) w := fun _ _ _ _ => rfl
  go_enter_defers Try.func26, Try.ntmps26
  go_wp2_with fail
  refine h.mono ?_; rintro e w' ⟨rfl, he, hq⟩
  have hc := cell_of_row w' w.heap.size 0 _ _ (0, 0) he
  have hz := row_z he 0
  have HQ := Lib.hid hq; clear he hq h hen
  go_wp2
  refine leaves_cons (f := 41) (args := #[.pointer (some ⟨w.heap.size, 0, none⟩)]) (by simp) (by simp [go_sem]) ?_
  refine (catch_panicking _ k _ _ hc hz).mono ?_
  rintro e u' w'' ⟨rfl, rfl, rfl⟩
  refine ⟨_, load_num (w := w'.setCell ⟨w.heap.size, 0, none⟩ (.int .i64 k)) (World.cell?_setCell_same _ _ _ hc) (by rfl), rfl, w', HQ.out, rfl⟩
end Go.Proofs.Ytjcgkpapmcmccaa
