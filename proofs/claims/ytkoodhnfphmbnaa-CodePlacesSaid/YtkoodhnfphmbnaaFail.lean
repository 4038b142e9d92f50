/- What ends a reading, and how it is caught; words on memory for worlds in which one old block may have turned; over any world. -/
import Derived.Test.YtkoodhnfphmbnaaK
import Derived.Defers
import Derived.Recover
namespace Go.Proofs.Ytkoodhnfphmbnaa
set_option linter.unusedVariables false
set_option linter.unusedSimpArgs false
open Go.RowKit
/-- what a reading panics with. -/
def PE (e : Int) : PanicEntry := { v := .iface 71 (.int .i64 e), recovered := false }

section
variable {w w' w2 : World} {A : Option Addr} {n c : Nat} {bs : List Int} {r : Nat} {k : Int}
theorem grown_setCell (w : World) (r o : Nat) (v : Value) : w.grownBy (w.setCell ⟨r, o, none⟩ v) (some r) :=
  ⟨rfl, rfl, rfl, by simp [World.setCell], fun k hk hne => Below.heap_setCell _ _ _ _ (fun e => hne (by rw [e]))⟩
theorem grown_new {w w2 : World} {row : Option Nat} (h : w.grownBy w2 row) {b : Nat} (hb : w.heap.size ≤ b) (o : Nat) (v : Value) : w.grownBy (w2.setCell ⟨b, o, none⟩ v) row :=
  ⟨h.os, h.tape, h.output, by simpa [World.setCell] using h.size, fun k hk hne => (Below.heap_setCell _ _ _ _ (by simp only; omega)).trans (h.block k hk hne)⟩
theorem grown_alloc {w w2 : World} {row : Option Nat} (h : w.grownBy w2 row) (o : Obj) : w.grownBy (w2.alloc o) row :=
  ⟨h.os, h.tape, h.output, by have := h.size; simp; omega, fun k hk hne => (Below.heap_alloc _ _ _ (by have := h.size; omega)).trans (h.block k hk hne)⟩
theorem grown_drew {w w2 : World} {row : Option Nat} (h : w.grownBy w2 row) : w.grownBy w2.drew row := ⟨h.os, h.tape, h.output, h.size, h.block⟩
theorem grown_below {row : Option Nat} (h : Below w.heap.size w w') : w.grownBy w' row := ⟨h.os, h.tape, h.output, h.size, fun k hk _ => h.block k hk⟩
theorem grown_trans {row : Option Nat} (h : w.grownBy w' row) (g : w'.grownBy w2 row) : w.grownBy w2 row :=
  ⟨g.os.trans h.os, g.tape.trans h.tape, g.output.trans h.output, Nat.le_trans h.size g.size, fun k hk hne => (g.block k (by have := h.size; omega) hne).trans (h.block k hk hne)⟩
theorem below_grown {base : Nat} {w0 : World} (h : Below base w0 w) (g : w.grownBy w' (some r)) (hr : base ≤ r) (hb : base ≤ w.heap.size) : Below base w0 w' := h.grown g hb fun k hk => by injection hk; omega
/-- .. in any block but the one that was written. -/
theorem Bs.grownF {row : Option Nat} (hb : Bs w A n c bs) (g : w.grownBy w' row) (hne : 0 < n → ∀ a, A = some a → some a.block ≠ row) : Bs w' A n c bs :=
  ⟨hb.len, hb.cap, hb.byte, fun hn => by
    obtain ⟨b, off, e, hl, hc⟩ := hb.mem hn
    exact ⟨b, off, e, by have := g.size; omega, fun i hi => g.cell (hc i hi) (by have := hne hn _ e; exact this)⟩⟩
end
theorem heap_pair {w : World} {b : Nat} {x y : Value} {T : TypeId} (h : w.heap[b]? = some (.cells #[x, y] T)) (u v : Value) : ((w.setCell ⟨b, 0, none⟩ u).setCell ⟨b, 1, none⟩ v).heap[b]? = some (.cells #[u, v] T) := by
  simp only [World.setCell, Array.getElem?_modify]
  rw [if_pos trivial, if_pos trivial, h]
  rfl
theorem heap_snd {w : World} {b : Nat} {x y : Value} {T : TypeId} (h : w.heap[b]? = some (.cells #[x, y] T)) (v : Value) : (w.setCell ⟨b, 1, none⟩ v).heap[b]? = some (.cells #[x, v] T) := by
  simp only [World.setCell, Array.getElem?_modify]
  rw [if_pos trivial, h]
  rfl
theorem heap_lt {w : World} {b : Nat} {o : Obj} (h : w.heap[b]? = some o) : b < w.heap.size := by
  obtain ⟨h1, _⟩ := Array.getElem?_eq_some_iff.1 h; exact h1
theorem pair0 {w : World} {b : Nat} {x y : Value} {T : TypeId} (h : w.heap[b]? = some (.cells #[x, y] T)) : w.cell? ⟨b, 0, none⟩ = some x := by rw [cell_of_row w _ 0 _ _ (0, 0) h]; rfl
theorem pair1 {w : World} {b : Nat} {x y : Value} {T : TypeId} (h : w.heap[b]? = some (.cells #[x, y] T)) : w.cell? ⟨b, 1, none⟩ = some y := by rw [cell_of_row w _ 1 _ _ (0, 0) h]; rfl
theorem row_z {w : World} {b : Nat} {cs : Array Value} {T : TypeId} (h : w.heap[b]? = some (.cells cs T)) (o : Nat) : w.frozen? ⟨b, o, none⟩ = false := by unfold World.frozen?; rw [h]; simp
/-- a reading ends: by the error's panic. -/
theorem end_any (e : Int) (w : World) : Calls Try.prog 51 #[.int .i64 e] w fun x w' => x = .panicked [PE e] ∧ w' = w := by
  go_enter Try.func51, Try.ntmps51
  go_wp2
  exact ⟨rfl, rfl, rfl⟩
theorem must_ok (w : World) : Calls Try.prog 55 #[.int .i64 0] w fun x w' => x = .returned (.tuple #[]) ∧ w' = w := by
  go_enter Try.func55, Try.ntmps55
  go_wp2
  go_end0
  exact ⟨rfl, rfl⟩
theorem must_err (e : Int) (h : e ≠ 0) (w : World) : Calls Try.prog 55 #[.int .i64 e] w fun x w' => x = .panicked [PE e] ∧ w' = w := by
  have hd : (e != 0) = true := by simpa using h
  go_enter Try.func55, Try.ntmps55
  go_wp2_with (go_at_call 51; refine (end_any _ _).mono ?_; rintro x w' ⟨rfl, rfl⟩)
  exact ⟨rfl, rfl, rfl⟩
theorem results_cell {P : Program} {fn : Func} {tmps : Array Value} {a : Nat} {t : TypeId} {ad : Addr} {v : Value} {w : World} (h : fn.results = #[.cell a t]) (hp : tmps.getD a undef = .pointer (some ad))
    (hl : (loadVar t ad).run P w = .ok v w) : (results fn tmps).run P w = .ok v w := by
  unfold results
  rw [h]
  have hp2 : tmps[a]?.getD undef = .pointer (some ad) := by simpa using hp
  simp only [List.mapM_toArray, List.mapM_cons, List.mapM_nil]
  simp [Sem.run_bind, hp2]
  exact hl
/-- an error's number in its variable. -/
theorem load_num {w : World} {tmps : Array Value} {b : Nat} {k : Int} (hc : w.cell? ⟨b, 0, none⟩ = some (.int .i64 k)) (hp : tmps.getD 2 undef = .pointer (some ⟨b, 0, none⟩)) :
    (results Try.f36 tmps).run Try.prog w = .ok (.int .i64 k) w := by
  refine results_cell (a := 2) (t := 29) (by kernel_rfl) hp ?_
  simp [go_sem, hc]
theorem catch_panicking (p : Addr) (e : Int) (x : Value) (w : World) (hc : w.cell? p = some x) (hz : w.frozen? p = false) :
    CallsD Try.prog 47 #[.pointer (some p)] (.panicking [PE e]) w fun z u' w' =>
      z = .returned (.tuple #[]) ∧ u' = .panicking [{ v := .iface 71 (.int .i64 e), recovered := true }] ∧ w' = w.setCell p (.int .i64 e) := by
  refine callsD_of_wpS Try.func47 rfl fun c₀ cs hu => ?_
  simp only [Try.ntmps47, List.size_toArray, List.length_cons, List.length_nil, Nat.reduceAdd, Nat.reduceSub, Array.replicate_succ, Array.replicate_zero, List.push_toArray, List.append_toArray, List.nil_append, List.cons_append]
  apply wpS_seq
  apply wpS_region
  simp [wpOpsS, go_sem, recoverD, hu, Try.ntmps47, Exit.thenS, PE]
  refine wpS_of_wp ?_
  have hta : ∀ W : World, (Instr.typeAssert (.iface 71 (.int .i64 e)) 20 71 true).run Try.prog W = .ok (.tuple #[.int .i64 e, .bool true]) W := fun _ => by kernel_rfl
  go_wp2
  simp [bodyPostS, results, Try.results47]
theorem catch_idle (p : Addr) (w : World) :
    CallsD Try.prog 47 #[.pointer (some p)] .returning w fun z u' w' => z = .returned (.tuple #[]) ∧ u' = .returning ∧ w' = w := by
  refine callsD_of_wpS Try.func47 rfl fun c₀ cs hu => ?_
  simp only [Try.ntmps47, List.size_toArray, List.length_cons, List.length_nil, Nat.reduceAdd, Nat.reduceSub, Array.replicate_succ, Array.replicate_zero, List.push_toArray, List.append_toArray, List.nil_append, List.cons_append]
  apply wpS_seq
  apply wpS_region
  simp [wpOpsS, go_sem, recoverD, hu, Try.ntmps47, Exit.thenS]
  refine wpS_of_wp ?_
  go_wp2
  cases c₀
  simp_all [bodyPostS, results, Try.results47]
theorem caught_ok (F : FuncId) (cap : Array Value) (w : World) (Q : World → Prop) (hen : ∀ W : World, (callFunc F cap).run Try.prog W = .ok (.enter F cap) W)
    (h : Calls Try.prog F cap (w.alloc (.cells #[.int .i64 0] 29)) fun e w' => e = .returned (.tuple #[]) ∧ w'.heap[w.heap.size]? = some (.cells #[.int .i64 0] 29) ∧ Q w') :
    Calls Try.prog 36 #[.func (.func F) #[] cap] w fun e w' => e = .returned (.int .i64 0) ∧ ∃ w1, Q w1 ∧ w' = w1.setCell ⟨w.heap.size, 0, none⟩ (.int .i64 0) := by
  have hmf : ∀ (fn : Fn) (first cap : Array Value) (w : World), (Instr.makeFunc fn first cap).run Try.prog w = .ok (.func fn first cap) w := fun _ _ _ _ => rfl
  go_enter_defers Try.func36, Try.ntmps36
  go_wp2_with fail
  refine h.mono ?_; rintro e w' ⟨rfl, he, hq⟩
  have hc := cell_of_row w' w.heap.size 0 _ _ (0, 0) he
  have hz := row_z he 0
  have HQ := Lib.hid hq; clear he hq h hen
  go_wp2
  refine leaves_cons (f := 47) (args := #[.pointer (some ⟨w.heap.size, 0, none⟩)]) (by simp) (by simp [go_sem]) ?_
  refine (catch_idle _ _).mono ?_
  rintro e u' w'' ⟨rfl, rfl, rfl⟩
  refine ⟨_, load_num (w := w'.setCell ⟨w.heap.size, 0, none⟩ (.int .i64 0)) (World.cell?_setCell_same _ _ _ hc) (by rfl), rfl, w', HQ.out, rfl⟩
theorem caught_err (F : FuncId) (cap : Array Value) (w : World) (k : Int) (Q : World → Prop) (hen : ∀ W : World, (callFunc F cap).run Try.prog W = .ok (.enter F cap) W)
    (h : Calls Try.prog F cap (w.alloc (.cells #[.int .i64 0] 29)) fun e w' => e = .panicked [PE k] ∧ w'.heap[w.heap.size]? = some (.cells #[.int .i64 0] 29) ∧ Q w') :
    Calls Try.prog 36 #[.func (.func F) #[] cap] w fun e w' => e = .returned (.int .i64 k) ∧ ∃ w1, Q w1 ∧ w' = w1.setCell ⟨w.heap.size, 0, none⟩ (.int .i64 k) := by
  have hmf : ∀ (fn : Fn) (first cap : Array Value) (w : World), (Instr.makeFunc fn first cap).run Try.prog w = .ok (.func fn first cap) w := fun _ _ _ _ => rfl
  go_enter_defers Try.func36, Try.ntmps36
  go_wp2_with fail
  refine h.mono ?_; rintro e w' ⟨rfl, he, hq⟩
  have hc := cell_of_row w' w.heap.size 0 _ _ (0, 0) he
  have hz := row_z he 0
  have HQ := Lib.hid hq; clear he hq h hen
  go_wp2
  refine leaves_cons (f := 47) (args := #[.pointer (some ⟨w.heap.size, 0, none⟩)]) (by simp) (by simp [go_sem]) ?_
  refine (catch_panicking _ k _ _ hc hz).mono ?_
  rintro e u' w'' ⟨rfl, rfl, rfl⟩
  refine ⟨_, load_num (w := w'.setCell ⟨w.heap.size, 0, none⟩ (.int .i64 k)) (World.cell?_setCell_same _ _ _ hc) (by rfl), rfl, w', HQ.out, rfl⟩
theorem results_css {P : Program} {fn : Func} {tmps : Array Value} {a b c : Nat} {t : TypeId} {ad : Addr} {v : Value} {w : World} (h : fn.results = #[.cell a t, .tmp b, .tmp c]) (hp : tmps.getD a undef = .pointer (some ad))
    (hl : (loadVar t ad).run P w = .ok v w) : (results fn tmps).run P w = .ok (.tuple #[v, tmps.getD b undef, tmps.getD c undef]) w := by
  unfold results
  rw [h]
  have hp2 : tmps[a]?.getD undef = .pointer (some ad) := by simpa using hp
  simp only [List.mapM_toArray, List.mapM_cons, List.mapM_nil]
  simp [Sem.run_bind, hp2]
  rw [show (Sem.run P (asAddr (Value.pointer (some ad))) w) = Result.ok ad w from rfl]
  simp [hl]

end Go.Proofs.Ytkoodhnfphmbnaa
