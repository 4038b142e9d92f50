/- What the landed code's own reader answers, or panics with: number, count, instruction; for bytes up to 16384. -/
import Derived.Test.YtkoodhnfphmbnaaCodK
import Derived.Test.YtkoodhnfphmbnaaCodF
import Derived.Test.YtkoodhnfphmbnaaFail
import Derived.LoopTactic
import Derived.Deep.RegionHeld3
import Derived.BigQuiet
import Derived.Deep.QuietTactic
namespace Go.Proofs.Ytkoodhnfphmbnaa
set_option linter.unusedVariables false
set_option linter.unusedSimpArgs false
open Go.RowKit
/-- block r holds a reader: its bytes, and how far they are read. -/
def Rc (w : World) (r : Nat) (A : Option Addr) (n c : Nat) (k : Int) : Prop := w.heap[r]? = some (.cells #[.slice A n c, .int .i64 k] 59)
section
variable {w w' w2 : World} {A : Option Addr} {n c : Nat} {bs : List Int} {r : Nat} {k : Int}
theorem Rc.lt (h : Rc w r A n c k) : r < w.heap.size := by
  rcases Nat.lt_or_ge r w.heap.size with h2 | h2
  · exact h2
  · unfold Rc at h; rw [Array.getElem?_eq_none h2] at h; cases h
theorem Rc.cell0 (h : Rc w r A n c k) : w.cell? ⟨r, 0, none⟩ = some (.slice A n c) := by rw [cell_of_row w r 0 _ _ (0, 0) h]; rfl
theorem Rc.cell1 (h : Rc w r A n c k) : w.cell? ⟨r, 1, none⟩ = some (.int .i64 k) := by rw [cell_of_row w r 1 _ _ (0, 0) h]; rfl
theorem Rc.below {w' : World} (h : Rc w r A n c k) (hb : Below w.heap.size w w') : Rc w' r A n c k := (hb.block r h.lt).trans h
theorem Rc.drew (h : Rc w r A n c k) : Rc w.drew r A n c k := h
theorem Rc.drewN (h : Rc w r A n c k) (m : Nat) : Rc (w.drewN m) r A n c k := h
theorem Rc.frozen (h : Rc w r A n c k) (o : Nat) : w.frozen? ⟨r, o, none⟩ = false := by
  unfold World.frozen?; rw [show w.heap[r]? = _ from h]; simp
theorem Rc.setCell (h : Rc w r A n c k) (k' : Int) : Rc (w.setCell ⟨r, 1, none⟩ (.int .i64 k')) r A n c k' := by
  unfold Rc
  simp only [World.setCell, Array.getElem?_modify]
  rw [if_pos trivial, show w.heap[r]? = _ from h]
  rfl
/-- bytes and a reader do not lie in one block. -/
theorem Rc.apart (h : Rc w r A n c k) {A2 : Option Addr} {n2 c2 : Nat} {xs : List Int} (hb : Bs w A2 n2 c2 xs) (hn : 0 < n2) : ∃ b off, A2 = some ⟨b, off, none⟩ ∧ b < w.heap.size ∧ b ≠ r ∧ ∀ i, i < n2 → w.cell? ⟨b, off + i, none⟩ = some (.int .u8 (xs.getD i 0)) := by
  obtain ⟨b, off, e, hl, hc⟩ := hb.mem hn
  refine ⟨b, off, e, hl, ?_, hc⟩
  intro he
  subst he
  have h1 := hc 0 hn
  rw [cell_of_row w b (off + 0) _ _ (0, 0) h] at h1
  rcases off with _ | _ | off <;> simp at h1
theorem Bs.grownC (hb : Bs w A n c bs) {A2 : Option Addr} {n2 c2 : Nat} (h : Rc w r A2 n2 c2 k) (g : w.grownBy w' (some r)) : Bs w' A n c bs :=
  ⟨hb.len, hb.cap, hb.byte, fun hn => by
    obtain ⟨b, off, e, hl, hne, hc⟩ := h.apart hb hn
    exact ⟨b, off, e, by have := g.size; omega, fun i hi => g.cell (hc i hi) (by simpa using hne)⟩⟩
end
/-- numbers, one part behind the other. -/
theorem many_add (bs : List Int) : ∀ (a b : Nat) (at_ : Int) (out : List Int), manyS bs (a + b) at_ out = if (manyS bs a at_ out).2.2 ≠ 0 then ([], 0, (manyS bs a at_ out).2.2) else manyS bs b (manyS bs a at_ out).2.1 (manyS bs a at_ out).1
  | 0, b, at_, out => by simp [manyS]
  | a + 1, b, at_, out => by
    rw [show a + 1 + b = (a + b) + 1 by omega]
    obtain ⟨x, nx, er⟩ : Int × Int × Int := readIntS bs at_
    cases hr : readIntS bs at_ with
    | mk x p =>
      obtain ⟨nx, er⟩ := p
      by_cases he : er = 0
      · subst he
        rw [many_go hr, many_go hr]; exact many_add bs a b nx (out ++ [x])
      · rw [many_bad hr he, many_bad hr he]; simp [he]
theorem many_to {bs : List Int} {a b : Nat} {at_ at1 : Int} {out l : List Int} (h : manyS bs a at_ out = (l, at1, 0)) : manyS bs (a + b) at_ out = manyS bs b at1 l := by rw [many_add, h]; simp
theorem many_stop {bs : List Int} {a b : Nat} {at_ : Int} {out : List Int} {e : Int} (h : manyS bs a at_ out = ([], 0, e)) (he : e ≠ 0) : manyS bs (a + b) at_ out = ([], 0, e) := by rw [many_add, h]; simp [he]
theorem many_none (bs : List Int) (at_ : Int) (out : List Int) : manyS bs 0 at_ out = (out, at_, 0) := rfl
set_option maxRecDepth 100000 in
set_option maxHeartbeats 4000000 in
theorem num_ok (r : Nat) (E : Option Addr) (u v : Nat) (bs : List Int) (k x k' : Int) (w : World) (hb : Bs w E u v bs) (hr : Rc w r E u v k) (hn : u ≤ 16384) (h : readIntS bs k = (x, k', 0)) :
    Calls Try.prog 50 #[.pointer (some ⟨r, 0, none⟩)] w (fun e w' => e = .returned (.int .i64 x) ∧ Rc w' r E u v k' ∧ w.grownBy w' (some r)) := by
  have c0 := hr.cell0; have c1 := hr.cell1
  have HL := Lib.hid hr.lt
  have C0 := Lib.hid c0; have C1 := Lib.hid c1
  have HR := Lib.hid hr; have HB := Lib.hid hb; have HT := Lib.hid h
  clear hb hr h c0 c1
  go_enter Try.func50, Try.ntmps50
  go_wp2
  refine wp_region_noPanic ?_
  refine wp_region_held_drew (S := (fun wv => Below w.heap.size w wv)) (by kernel_rfl) ((Below.refl w.heap.size w).drew) (fun hS => ?_)
  refine wpAnyH_take (i := 0) (oi := ⟨some 7, .move (.tmp 0), 73, "bytes.go:77", #[], none⟩) (v := ?_) rfl (by kernel_rfl) (by kernel_rfl) (by kernel_rfl) (fun _ _ _ h => h) (Or.inl ⟨by rfl, ?_⟩) hS ?_
  rotate_left
  · intro wv _; go_simp; try with_reducible rfl
  try simp only [Act.put, List.setIfInBounds_toArray, List.set_cons_zero, List.set_cons_succ]
  refine wpAnyH_take (i := 1) (oi := ⟨some 8, .nilCheck (.tmp 7), 0, "bytes.go:77", #[⟨0, .data⟩], none⟩) (v := ?_) rfl (by kernel_rfl) (by kernel_rfl) (by kernel_rfl) (fun _ _ _ h => h) (Or.inl ⟨by rfl, ?_⟩) hS ?_
  rotate_left
  · intro wv _; go_simp; try with_reducible rfl
  try simp only [Act.put, List.setIfInBounds_toArray, List.set_cons_zero, List.set_cons_succ]
  refine wpAnyH_take (i := 2) (oi := ⟨some 9, .fieldAddr 59 (.tmp 8) 0, 0, "bytes.go:77", #[⟨1, .data⟩], none⟩) (v := ?_) rfl (by kernel_rfl) (by kernel_rfl) (by kernel_rfl) (fun _ _ _ h => h) (Or.inl ⟨by rfl, ?_⟩) hS ?_
  rotate_left
  · intro wv _; go_simp; try with_reducible rfl
  try simp only [Act.put, List.setIfInBounds_toArray, List.set_cons_zero, List.set_cons_succ]
  refine wpAnyH_take (i := 3) (oi := ⟨some 10, .load 28 (.tmp 9), 28, "bytes.go:77", #[⟨2, .data⟩], none⟩) (v := ?_) rfl (by kernel_rfl) (by kernel_rfl) (by kernel_rfl) (fun _ _ _ h => h) (Or.inl ⟨by rfl, ?_⟩) hS ?_
  rotate_left
  · intro wv hS; have hrun := (hS.cell (p := ⟨_, _, none⟩) HL.out).trans C0.out; go_simp; try with_reducible rfl
  try simp only [Act.put, List.setIfInBounds_toArray, List.set_cons_zero, List.set_cons_succ]
  refine wpAnyH_take (i := 4) (oi := ⟨some 11, .move (.tmp 0), 73, "bytes.go:77", #[], none⟩) (v := ?_) rfl (by kernel_rfl) (by kernel_rfl) (by kernel_rfl) (fun _ _ _ h => h) (Or.inl ⟨by rfl, ?_⟩) hS ?_
  rotate_left
  · intro wv _; go_simp; try with_reducible rfl
  try simp only [Act.put, List.setIfInBounds_toArray, List.set_cons_zero, List.set_cons_succ]
  refine wpAnyH_take (i := 5) (oi := ⟨some 12, .nilCheck (.tmp 11), 0, "bytes.go:77", #[⟨4, .data⟩], none⟩) (v := ?_) rfl (by kernel_rfl) (by kernel_rfl) (by kernel_rfl) (fun _ _ _ h => h) (Or.inl ⟨by rfl, ?_⟩) hS ?_
  rotate_left
  · intro wv _; go_simp; try with_reducible rfl
  try simp only [Act.put, List.setIfInBounds_toArray, List.set_cons_zero, List.set_cons_succ]
  refine wpAnyH_take (i := 6) (oi := ⟨some 13, .fieldAddr 59 (.tmp 12) 1, 0, "bytes.go:77", #[⟨5, .data⟩], none⟩) (v := ?_) rfl (by kernel_rfl) (by kernel_rfl) (by kernel_rfl) (fun _ _ _ h => h) (Or.inl ⟨by rfl, ?_⟩) hS ?_
  rotate_left
  · intro wv _; go_simp; try with_reducible rfl
  try simp only [Act.put, List.setIfInBounds_toArray, List.set_cons_zero, List.set_cons_succ]
  refine wpAnyH_take (i := 7) (oi := ⟨some 14, .load 3 (.tmp 13), 3, "bytes.go:77", #[⟨6, .data⟩], none⟩) (v := ?_) rfl (by kernel_rfl) (by kernel_rfl) (by kernel_rfl) (fun _ _ _ h => h) (Or.inl ⟨by rfl, ?_⟩) hS ?_
  rotate_left
  · intro wv hS; have hrun := (hS.cell (p := ⟨_, _, none⟩) HL.out).trans C1.out; go_simp; try with_reducible rfl
  try simp only [Act.put, List.setIfInBounds_toArray, List.set_cons_zero, List.set_cons_succ]
  refine wpAnyH_ready (rs := [8]) (by kernel_rfl) (by simp) (AllReadyH.cons (o := ⟨some 15, .call { callee := .value (.func 54), args := #[.tmp 10, .tmp 14], argTypes := #[28, 3] }, 78, "bytes.go:77", #[⟨3, .data⟩, ⟨7, .data⟩], none⟩) rfl (fun K hK => ?_) AllReadyH.nil)
  go_simp
  refine (varReadInt_any E u v bs k _ (HB.out.below hS) hn).mono ?_; rw [HT.out]; rintro e w1 ⟨rfl, hw1⟩
  have HW1 := Lib.hid (show Below w.heap.size w w1 from hw1 ▸ hS)
  replace hS := HW1.out
  clear hw1
  go_wp2_with fail
  refine Shut.out hK _ _ hS (fun _ => ?_)
  clear hK K
  try simp only [Act.put, List.setIfInBounds_toArray, List.set_cons_zero, List.set_cons_succ]
  refine wpAnyH_take (i := 9) (oi := ⟨some 6, .move (.tmp 15), 78, "bytes.go:77", #[⟨8, .data⟩], none⟩) (v := ?_) rfl (by kernel_rfl) (by kernel_rfl) (by kernel_rfl) (fun _ _ _ h => h) (Or.inl ⟨by rfl, ?_⟩) hS ?_
  rotate_left
  · intro wv _; go_simp; try with_reducible rfl
  try simp only [Act.put, List.setIfInBounds_toArray, List.set_cons_zero, List.set_cons_succ]
  refine wpAnyH_take (i := 10) (oi := ⟨some 16, .extract (.tmp 6) 0, 2, "bytes.go:77", #[⟨9, .data⟩], none⟩) (v := ?_) rfl (by kernel_rfl) (by kernel_rfl) (by kernel_rfl) (fun _ _ _ h => h) (Or.inl ⟨by rfl, ?_⟩) hS ?_
  rotate_left
  · intro wv _; go_simp; try with_reducible rfl
  try simp only [Act.put, List.setIfInBounds_toArray, List.set_cons_zero, List.set_cons_succ]
  refine wpAnyH_take (i := 11) (oi := ⟨some 17, .extract (.tmp 6) 1, 3, "bytes.go:77", #[⟨9, .data⟩, ⟨13, .gcOnly .lateStores⟩], none⟩) (v := ?_) rfl (by kernel_rfl) (by kernel_rfl) (by kernel_rfl) (fun _ _ _ h => h) (Or.inl ⟨by rfl, ?_⟩) hS ?_
  rotate_left
  · intro wv _; go_simp; try with_reducible rfl
  try simp only [Act.put, List.setIfInBounds_toArray, List.set_cons_zero, List.set_cons_succ]
  refine wpAnyH_take (i := 12) (oi := ⟨some 18, .extract (.tmp 6) 2, 29, "bytes.go:77", #[⟨9, .data⟩, ⟨14, .gcOnly .lateStores⟩], none⟩) (v := ?_) rfl (by kernel_rfl) (by kernel_rfl) (by kernel_rfl) (fun _ _ _ h => h) (Or.inl ⟨by rfl, ?_⟩) hS ?_
  rotate_left
  · intro wv _; go_simp; try with_reducible rfl
  try simp only [Act.put, List.setIfInBounds_toArray, List.set_cons_zero, List.set_cons_succ]
  refine wpAnyH_take (i := 13) (oi := ⟨some 3, .assign (.tmp 16), 2, "bytes.go:77", #[⟨10, .data⟩, ⟨8, .chain⟩, ⟨0, .phase⟩, ⟨1, .phase⟩, ⟨2, .phase⟩, ⟨3, .phase⟩, ⟨4, .phase⟩, ⟨5, .phase⟩, ⟨6, .phase⟩, ⟨7, .phase⟩, ⟨8, .phase⟩, ⟨9, .phase⟩, ⟨10, .phase⟩, ⟨11, .textOnly .lateStores⟩, ⟨12, .textOnly .lateStores⟩], none⟩) (v := ?_) rfl (by kernel_rfl) (by kernel_rfl) (by kernel_rfl) (fun _ _ _ h => h) (Or.inl ⟨by rfl, ?_⟩) hS ?_
  rotate_left
  · intro wv _; go_simp; try with_reducible rfl
  try simp only [Act.put, List.setIfInBounds_toArray, List.set_cons_zero, List.set_cons_succ]
  refine wpAnyH_take (i := 14) (oi := ⟨some 4, .assign (.tmp 17), 3, "bytes.go:77", #[⟨11, .data⟩, ⟨13, .chain⟩, ⟨0, .phase⟩, ⟨1, .phase⟩, ⟨2, .phase⟩, ⟨3, .phase⟩, ⟨4, .phase⟩, ⟨5, .phase⟩, ⟨6, .phase⟩, ⟨7, .phase⟩, ⟨8, .phase⟩, ⟨9, .phase⟩, ⟨10, .phase⟩, ⟨11, .phase⟩, ⟨12, .textOnly .lateStores⟩, ⟨13, .phase⟩], none⟩) (v := ?_) rfl (by kernel_rfl) (by kernel_rfl) (by kernel_rfl) (fun _ _ _ h => h) (Or.inl ⟨by rfl, ?_⟩) hS ?_
  rotate_left
  · intro wv _; go_simp; try with_reducible rfl
  try simp only [Act.put, List.setIfInBounds_toArray, List.set_cons_zero, List.set_cons_succ]
  refine wpAnyH_take (i := 15) (oi := ⟨some 5, .assign (.tmp 18), 29, "bytes.go:77", #[⟨12, .data⟩, ⟨14, .chain⟩, ⟨0, .phase⟩, ⟨1, .phase⟩, ⟨2, .phase⟩, ⟨3, .phase⟩, ⟨4, .phase⟩, ⟨5, .phase⟩, ⟨6, .phase⟩, ⟨7, .phase⟩, ⟨8, .phase⟩, ⟨9, .phase⟩, ⟨10, .phase⟩, ⟨11, .phase⟩, ⟨12, .phase⟩, ⟨13, .phase⟩, ⟨14, .phase⟩], none⟩) (v := ?_) rfl (by kernel_rfl) (by kernel_rfl) (by kernel_rfl) (fun _ _ _ h => h) (Or.inl ⟨by rfl, ?_⟩) hS ?_
  rotate_left
  · intro wv _; go_simp; try with_reducible rfl
  try simp only [Act.put, List.setIfInBounds_toArray, List.set_cons_zero, List.set_cons_succ]
  refine wpAnyH_done (by kernel_rfl) ?_ _
  refine NoPanic.normal ?_
  have HR1 := Lib.hid (HR.out.below HW1.out)
  have hz := HR1.out.frozen 1
  have hc := HR1.out.cell1
  go_wp2_with (go_at_call 55; refine (must_ok _).mono ?_; rintro e w2 ⟨rfl, rfl⟩)
  go_ret
  exact ⟨rfl, HR1.out.setCell k', grown_trans (grown_below HW1.out) (grown_setCell _ _ _ _)⟩
set_option maxRecDepth 100000 in
set_option maxHeartbeats 4000000 in
theorem num_err (r : Nat) (E : Option Addr) (u v : Nat) (bs : List Int) (k : Int) (p : Int × Int × Int) (w : World) (hb : Bs w E u v bs) (hr : Rc w r E u v k) (hn : u ≤ 16384) (h : readIntS bs k = p) (he : p.2.2 ≠ 0) :
    Calls Try.prog 50 #[.pointer (some ⟨r, 0, none⟩)] w (fun e w' => e = .panicked [PE p.2.2] ∧ w.grownBy w' (some r)) := by
  have c0 := hr.cell0; have c1 := hr.cell1
  have HL := Lib.hid hr.lt
  have C0 := Lib.hid c0; have C1 := Lib.hid c1
  have HR := Lib.hid hr; have HB := Lib.hid hb; have HT := Lib.hid h
  have HE := Lib.hid he
  obtain ⟨x, k', e0⟩ := p
  clear he
  clear hb hr h c0 c1
  go_enter Try.func50, Try.ntmps50
  go_wp2
  refine wp_region_noPanic ?_
  refine wp_region_held_drew (S := (fun wv => Below w.heap.size w wv)) (by kernel_rfl) ((Below.refl w.heap.size w).drew) (fun hS => ?_)
  refine wpAnyH_take (i := 0) (oi := ⟨some 7, .move (.tmp 0), 73, "bytes.go:77", #[], none⟩) (v := ?_) rfl (by kernel_rfl) (by kernel_rfl) (by kernel_rfl) (fun _ _ _ h => h) (Or.inl ⟨by rfl, ?_⟩) hS ?_
  rotate_left
  · intro wv _; go_simp; try with_reducible rfl
  try simp only [Act.put, List.setIfInBounds_toArray, List.set_cons_zero, List.set_cons_succ]
  refine wpAnyH_take (i := 1) (oi := ⟨some 8, .nilCheck (.tmp 7), 0, "bytes.go:77", #[⟨0, .data⟩], none⟩) (v := ?_) rfl (by kernel_rfl) (by kernel_rfl) (by kernel_rfl) (fun _ _ _ h => h) (Or.inl ⟨by rfl, ?_⟩) hS ?_
  rotate_left
  · intro wv _; go_simp; try with_reducible rfl
  try simp only [Act.put, List.setIfInBounds_toArray, List.set_cons_zero, List.set_cons_succ]
  refine wpAnyH_take (i := 2) (oi := ⟨some 9, .fieldAddr 59 (.tmp 8) 0, 0, "bytes.go:77", #[⟨1, .data⟩], none⟩) (v := ?_) rfl (by kernel_rfl) (by kernel_rfl) (by kernel_rfl) (fun _ _ _ h => h) (Or.inl ⟨by rfl, ?_⟩) hS ?_
  rotate_left
  · intro wv _; go_simp; try with_reducible rfl
  try simp only [Act.put, List.setIfInBounds_toArray, List.set_cons_zero, List.set_cons_succ]
  refine wpAnyH_take (i := 3) (oi := ⟨some 10, .load 28 (.tmp 9), 28, "bytes.go:77", #[⟨2, .data⟩], none⟩) (v := ?_) rfl (by kernel_rfl) (by kernel_rfl) (by kernel_rfl) (fun _ _ _ h => h) (Or.inl ⟨by rfl, ?_⟩) hS ?_
  rotate_left
  · intro wv hS; have hrun := (hS.cell (p := ⟨_, _, none⟩) HL.out).trans C0.out; go_simp; try with_reducible rfl
  try simp only [Act.put, List.setIfInBounds_toArray, List.set_cons_zero, List.set_cons_succ]
  refine wpAnyH_take (i := 4) (oi := ⟨some 11, .move (.tmp 0), 73, "bytes.go:77", #[], none⟩) (v := ?_) rfl (by kernel_rfl) (by kernel_rfl) (by kernel_rfl) (fun _ _ _ h => h) (Or.inl ⟨by rfl, ?_⟩) hS ?_
  rotate_left
  · intro wv _; go_simp; try with_reducible rfl
  try simp only [Act.put, List.setIfInBounds_toArray, List.set_cons_zero, List.set_cons_succ]
  refine wpAnyH_take (i := 5) (oi := ⟨some 12, .nilCheck (.tmp 11), 0, "bytes.go:77", #[⟨4, .data⟩], none⟩) (v := ?_) rfl (by kernel_rfl) (by kernel_rfl) (by kernel_rfl) (fun _ _ _ h => h) (Or.inl ⟨by rfl, ?_⟩) hS ?_
  rotate_left
  · intro wv _; go_simp; try with_reducible rfl
  try simp only [Act.put, List.setIfInBounds_toArray, List.set_cons_zero, List.set_cons_succ]
  refine wpAnyH_take (i := 6) (oi := ⟨some 13, .fieldAddr 59 (.tmp 12) 1, 0, "bytes.go:77", #[⟨5, .data⟩], none⟩) (v := ?_) rfl (by kernel_rfl) (by kernel_rfl) (by kernel_rfl) (fun _ _ _ h => h) (Or.inl ⟨by rfl, ?_⟩) hS ?_
  rotate_left
  · intro wv _; go_simp; try with_reducible rfl
  try simp only [Act.put, List.setIfInBounds_toArray, List.set_cons_zero, List.set_cons_succ]
  refine wpAnyH_take (i := 7) (oi := ⟨some 14, .load 3 (.tmp 13), 3, "bytes.go:77", #[⟨6, .data⟩], none⟩) (v := ?_) rfl (by kernel_rfl) (by kernel_rfl) (by kernel_rfl) (fun _ _ _ h => h) (Or.inl ⟨by rfl, ?_⟩) hS ?_
  rotate_left
  · intro wv hS; have hrun := (hS.cell (p := ⟨_, _, none⟩) HL.out).trans C1.out; go_simp; try with_reducible rfl
  try simp only [Act.put, List.setIfInBounds_toArray, List.set_cons_zero, List.set_cons_succ]
  refine wpAnyH_ready (rs := [8]) (by kernel_rfl) (by simp) (AllReadyH.cons (o := ⟨some 15, .call { callee := .value (.func 54), args := #[.tmp 10, .tmp 14], argTypes := #[28, 3] }, 78, "bytes.go:77", #[⟨3, .data⟩, ⟨7, .data⟩], none⟩) rfl (fun K hK => ?_) AllReadyH.nil)
  go_simp
  refine (varReadInt_any E u v bs k _ (HB.out.below hS) hn).mono ?_; rw [HT.out]; rintro e w1 ⟨rfl, hw1⟩
  have HW1 := Lib.hid (show Below w.heap.size w w1 from hw1 ▸ hS)
  replace hS := HW1.out
  clear hw1
  go_wp2_with fail
  refine Shut.out hK _ _ hS (fun _ => ?_)
  clear hK K
  try simp only [Act.put, List.setIfInBounds_toArray, List.set_cons_zero, List.set_cons_succ]
  refine wpAnyH_take (i := 9) (oi := ⟨some 6, .move (.tmp 15), 78, "bytes.go:77", #[⟨8, .data⟩], none⟩) (v := ?_) rfl (by kernel_rfl) (by kernel_rfl) (by kernel_rfl) (fun _ _ _ h => h) (Or.inl ⟨by rfl, ?_⟩) hS ?_
  rotate_left
  · intro wv _; go_simp; try with_reducible rfl
  try simp only [Act.put, List.setIfInBounds_toArray, List.set_cons_zero, List.set_cons_succ]
  refine wpAnyH_take (i := 10) (oi := ⟨some 16, .extract (.tmp 6) 0, 2, "bytes.go:77", #[⟨9, .data⟩], none⟩) (v := ?_) rfl (by kernel_rfl) (by kernel_rfl) (by kernel_rfl) (fun _ _ _ h => h) (Or.inl ⟨by rfl, ?_⟩) hS ?_
  rotate_left
  · intro wv _; go_simp; try with_reducible rfl
  try simp only [Act.put, List.setIfInBounds_toArray, List.set_cons_zero, List.set_cons_succ]
  refine wpAnyH_take (i := 11) (oi := ⟨some 17, .extract (.tmp 6) 1, 3, "bytes.go:77", #[⟨9, .data⟩, ⟨13, .gcOnly .lateStores⟩], none⟩) (v := ?_) rfl (by kernel_rfl) (by kernel_rfl) (by kernel_rfl) (fun _ _ _ h => h) (Or.inl ⟨by rfl, ?_⟩) hS ?_
  rotate_left
  · intro wv _; go_simp; try with_reducible rfl
  try simp only [Act.put, List.setIfInBounds_toArray, List.set_cons_zero, List.set_cons_succ]
  refine wpAnyH_take (i := 12) (oi := ⟨some 18, .extract (.tmp 6) 2, 29, "bytes.go:77", #[⟨9, .data⟩, ⟨14, .gcOnly .lateStores⟩], none⟩) (v := ?_) rfl (by kernel_rfl) (by kernel_rfl) (by kernel_rfl) (fun _ _ _ h => h) (Or.inl ⟨by rfl, ?_⟩) hS ?_
  rotate_left
  · intro wv _; go_simp; try with_reducible rfl
  try simp only [Act.put, List.setIfInBounds_toArray, List.set_cons_zero, List.set_cons_succ]
  refine wpAnyH_take (i := 13) (oi := ⟨some 3, .assign (.tmp 16), 2, "bytes.go:77", #[⟨10, .data⟩, ⟨8, .chain⟩, ⟨0, .phase⟩, ⟨1, .phase⟩, ⟨2, .phase⟩, ⟨3, .phase⟩, ⟨4, .phase⟩, ⟨5, .phase⟩, ⟨6, .phase⟩, ⟨7, .phase⟩, ⟨8, .phase⟩, ⟨9, .phase⟩, ⟨10, .phase⟩, ⟨11, .textOnly .lateStores⟩, ⟨12, .textOnly .lateStores⟩], none⟩) (v := ?_) rfl (by kernel_rfl) (by kernel_rfl) (by kernel_rfl) (fun _ _ _ h => h) (Or.inl ⟨by rfl, ?_⟩) hS ?_
  rotate_left
  · intro wv _; go_simp; try with_reducible rfl
  try simp only [Act.put, List.setIfInBounds_toArray, List.set_cons_zero, List.set_cons_succ]
  refine wpAnyH_take (i := 14) (oi := ⟨some 4, .assign (.tmp 17), 3, "bytes.go:77", #[⟨11, .data⟩, ⟨13, .chain⟩, ⟨0, .phase⟩, ⟨1, .phase⟩, ⟨2, .phase⟩, ⟨3, .phase⟩, ⟨4, .phase⟩, ⟨5, .phase⟩, ⟨6, .phase⟩, ⟨7, .phase⟩, ⟨8, .phase⟩, ⟨9, .phase⟩, ⟨10, .phase⟩, ⟨11, .phase⟩, ⟨12, .textOnly .lateStores⟩, ⟨13, .phase⟩], none⟩) (v := ?_) rfl (by kernel_rfl) (by kernel_rfl) (by kernel_rfl) (fun _ _ _ h => h) (Or.inl ⟨by rfl, ?_⟩) hS ?_
  rotate_left
  · intro wv _; go_simp; try with_reducible rfl
  try simp only [Act.put, List.setIfInBounds_toArray, List.set_cons_zero, List.set_cons_succ]
  refine wpAnyH_take (i := 15) (oi := ⟨some 5, .assign (.tmp 18), 29, "bytes.go:77", #[⟨12, .data⟩, ⟨14, .chain⟩, ⟨0, .phase⟩, ⟨1, .phase⟩, ⟨2, .phase⟩, ⟨3, .phase⟩, ⟨4, .phase⟩, ⟨5, .phase⟩, ⟨6, .phase⟩, ⟨7, .phase⟩, ⟨8, .phase⟩, ⟨9, .phase⟩, ⟨10, .phase⟩, ⟨11, .phase⟩, ⟨12, .phase⟩, ⟨13, .phase⟩, ⟨14, .phase⟩], none⟩) (v := ?_) rfl (by kernel_rfl) (by kernel_rfl) (by kernel_rfl) (fun _ _ _ h => h) (Or.inl ⟨by rfl, ?_⟩) hS ?_
  rotate_left
  · intro wv _; go_simp; try with_reducible rfl
  try simp only [Act.put, List.setIfInBounds_toArray, List.set_cons_zero, List.set_cons_succ]
  refine wpAnyH_done (by kernel_rfl) ?_ _
  refine NoPanic.normal ?_
  go_wp2_with (go_at_call 55; refine (must_err _ HE.out _).mono ?_; rintro e w2 ⟨rfl, rfl⟩)
  exact ⟨rfl, rfl, grown_below HW1.out⟩
end Go.Proofs.Ytkoodhnfphmbnaa
