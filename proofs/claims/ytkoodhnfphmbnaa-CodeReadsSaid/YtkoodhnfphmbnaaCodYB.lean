/- What the landed code's own reader answers, or panics with: a count, an instruction; for bytes up to 16384. -/
import Derived.Test.YtkoodhnfphmbnaaCodY
namespace Go.Proofs.Ytkoodhnfphmbnaa
set_option linter.unusedVariables false
set_option linter.unusedSimpArgs false
open Go.RowKit
/-- a call's own variables, from block q on; below q nothing but the reader's block r is turned. -/
structure Fg (r : Nat) (w0 w : World) (q : Nat) (L : List Obj) : Prop where
  blk : ∀ i o, L[i]? = some o → w.heap[q + i]? = some o
  g : w0.grownBy w (some r)
  sz : q + L.length ≤ w.heap.size
  q0 : q = w0.heap.size
  rq : r < q
section
variable {r : Nat} {w0 w w' : World} {q : Nat} {L : List Obj}
theorem Fg.of_fr (h : Fr w0 w q L) (hr : r < q) : Fg r w0 w q L := ⟨h.blk, grown_below h.out, h.sz, h.q0, hr⟩
theorem Fg.num (h : Fg r w0 w q L) (g : w.grownBy w' (some r)) : Fg r w0 w' q L := by
  have hz := h.sz; have hr := h.rq
  refine ⟨fun i o hi => ?_, grown_trans h.g g, Nat.le_trans h.sz g.size, h.q0, h.rq⟩
  have h1 := h.blk i o hi
  rw [g.block (q + i) (blk_lt h1) (by simp; omega)]; exact h1
theorem Fg.step (h : Fg r w0 w q L) (hb : Below w.heap.size w w') : Fg r w0 w' q L := h.num (grown_below hb)
theorem Fg.cell (h : Fg r w0 w q L) (i j : Nat) {b : Nat} {cs : List Value} {T : TypeId} {v : Value} (hi : L[i]? = some (.cells cs.toArray T)) (hb : b = q + i) (hj : cs[j]? = some v) : w.cell? ⟨b, j, none⟩ = some v := by
  subst hb
  rw [blk_cell (h.blk i _ hi) j]
  simpa using hj
theorem Fg.frozen (h : Fg r w0 w q L) (i j : Nat) {b : Nat} {cs : List Value} {T : TypeId} (hi : L[i]? = some (.cells cs.toArray T)) (hb : b = q + i) : w.frozen? ⟨b, j, none⟩ = false := by
  subst hb
  exact blk_frozen (h.blk i _ hi) j
theorem Fg.set (h : Fg r w0 w q L) (i j : Nat) {b : Nat} {cs : List Value} {T : TypeId} (hi : L[i]? = some (.cells cs.toArray T)) (hb : b = q + i) (v : Value) :
    Fg r w0 (w.setCell ⟨b, j, none⟩ v) q (L.set i (.cells (cs.set j v).toArray T)) := by
  subst hb
  refine ⟨fun k o hk => ?_, grown_new h.g (by have := h.q0; omega) j v, by simpa [World.setCell] using h.sz, h.q0, h.rq⟩
  by_cases e : k = i
  · subst e
    have hl : k < L.length := by
      rcases Nat.lt_or_ge k L.length with h1 | h1
      · exact h1
      · rw [List.getElem?_eq_none h1] at hi; cases hi
    rw [List.getElem?_set_self hl] at hk
    injection hk with hk; subst hk
    exact blk_set (h.blk k _ hi) v
  · rw [List.getElem?_set_ne (Ne.symm e)] at hk
    rw [Below.heap_setCell _ _ _ _ (by simp only; omega)]
    exact h.blk k o hk
theorem Fg.drew (h : Fg r w0 w q L) : Fg r w0 w.drew q L := ⟨h.blk, grown_drew h.g, h.sz, h.q0, h.rq⟩
theorem Fg.load {w0 w : World} {q : Nat} {L : List Obj} (h : Fg r w0 w q L) (i : Nat) {b : Nat} {cs : List Value} {T : TypeId} {fs : Array Field} (hi : L[i]? = some (.cells cs.toArray T)) (hb : b = q + i)
    (hu : Try.prog.underlying T = some (.struct fs)) (hk : (Try.prog.info? T).map (·.size) = some cs.toArray.size) : (loadVar T ⟨b, 0, none⟩).run Try.prog w = .ok (.agg cs.toArray) w := by
  subst hb
  exact run_loadVar_row (P := Try.prog) w (q + i) T T cs.toArray (0, 0) _ (h.blk i _ hi) hu (by rfl) hk
end
theorem Rc.other {w : World} {r : Nat} {A : Option Addr} {n c : Nat} {k : Int} (h : Rc w r A n c k) {b : Nat} (hne : b ≠ r) (j : Nat) (x : Value) : Rc (w.setCell ⟨b, j, none⟩ x) r A n c k := by
  show _ = _
  rw [Below.heap_setCell _ _ _ _ (by simp only; exact Ne.symm hne)]; exact h
set_option maxRecDepth 100000 in
set_option maxHeartbeats 4000000 in
theorem count_ok (r : Nat) (E : Option Addr) (u v : Nat) (bs : List Int) (k most : Int) (c : Nat) (k' : Int) (w : World) (hb : Bs w E u v bs) (hr : Rc w r E u v k) (hn : u ≤ 16384) (h : readIntS bs k = ((c : Int), k', 0)) (hc : (c : Int) ≤ most) :
    Calls Try.prog 48 #[.pointer (some ⟨r, 0, none⟩), .int .i64 most] w (fun e w' => e = .returned (.int .i64 (c : Int)) ∧ Rc w' r E u v k' ∧ w.grownBy w' (some r)) := by
  have N := Lib.hid (num_ok r E u v bs k c k' w hb hr hn h)
  have FF := fun (W : World) => from_any 0 (c : Int) most W
  rw [fromB_iff.2 ⟨by omega, hc⟩] at FF
  replace FF := Lib.hid FF
  clear hb hr h hc
  go_enter Try.func48, Try.ntmps48
  go_wp2_with fail
  refine N.out.mono ?_
  rintro e w1 ⟨rfl, hr1, hg⟩
  have HR1 := Lib.hid hr1; have HG := Lib.hid hg
  clear hr1 hg N
  go_wp2_with fail
  refine (FF.out _).mono ?_
  rintro e w2 ⟨rfl, rfl⟩
  go_wp2
  go_ret
  exact ⟨rfl, HR1.out, HG.out⟩
set_option maxRecDepth 100000 in
set_option maxHeartbeats 4000000 in
theorem count_long (r : Nat) (E : Option Addr) (u v : Nat) (bs : List Int) (k most x : Int) (k' : Int) (w : World) (hb : Bs w E u v bs) (hr : Rc w r E u v k) (hn : u ≤ 16384) (h : readIntS bs k = (x, k', 0)) (hc : x < 0 ∨ most < x) :
    Calls Try.prog 48 #[.pointer (some ⟨r, 0, none⟩), .int .i64 most] w (fun e w' => e = .panicked [PE 4] ∧ w.grownBy w' (some r)) := by
  have N := Lib.hid (num_ok r E u v bs k x k' w hb hr hn h)
  have FF := fun (W : World) => from_any 0 x most W
  rw [show fromB 0 x most = false from by cases hf : fromB 0 x most; rfl; exact absurd (fromB_iff.1 hf) (by omega)] at FF
  replace FF := Lib.hid FF
  clear hb hr h hc
  go_enter Try.func48, Try.ntmps48
  go_wp2_with fail
  refine N.out.mono ?_
  rintro e w1 ⟨rfl, hr1, hg⟩
  have HR1 := Lib.hid hr1; have HG := Lib.hid hg
  clear hr1 hg N
  go_wp2_with fail
  refine (FF.out _).mono ?_
  rintro e w2 ⟨rfl, rfl⟩
  go_wp2_with fail
  refine (end_any _ _).mono ?_
  rintro e w3 ⟨rfl, rfl⟩
  exact ⟨rfl, rfl, HG.out⟩
set_option maxRecDepth 100000 in
set_option maxHeartbeats 4000000 in
theorem count_err (r : Nat) (E : Option Addr) (u v : Nat) (bs : List Int) (k most : Int) (p : Int × Int × Int) (w : World) (hb : Bs w E u v bs) (hr : Rc w r E u v k) (hn : u ≤ 16384) (h : readIntS bs k = p) (he : p.2.2 ≠ 0) :
    Calls Try.prog 48 #[.pointer (some ⟨r, 0, none⟩), .int .i64 most] w (fun e w' => e = .panicked [PE p.2.2] ∧ w.grownBy w' (some r)) := by
  have N := Lib.hid (num_err r E u v bs k p w hb hr hn h he)
  clear hb hr h he
  go_enter Try.func48, Try.ntmps48
  go_wp2_with fail
  refine N.out.mono ?_
  rintro e w1 ⟨rfl, hg⟩
  exact ⟨rfl, rfl, hg⟩
set_option maxRecDepth 100000 in
set_option maxHeartbeats 4000000 in
theorem instr_ok (r : Nat) (E : Option Addr) (u v : Nat) (bs : List Int) (k x1 k1 x2 k2 x3 k3 x4 k4 : Int) (w : World) (hb : Bs w E u v bs) (hr : Rc w r E u v k) (hn : u ≤ 16384) (h1 : readIntS bs k = (x1, k1, 0)) (h2 : readIntS bs k1 = (x2, k2, 0)) (h3 : readIntS bs k2 = (x3, k3, 0)) (h4 : readIntS bs k3 = (x4, k4, 0)) :
    Calls Try.prog 49 #[.pointer (some ⟨r, 0, none⟩)] w (fun e w' => e = .returned (.agg #[.int .i64 x1, .int .i64 x2, .int .i64 x3, .int .i64 x4]) ∧ Rc w' r E u v k4 ∧ w.grownBy w' (some r)) := by
  have HB := Lib.hid hb; have HR := Lib.hid hr; have HRL := Lib.hid hr.lt
  have N1 := Lib.hid (fun (W : World) (b : Bs W E u v bs) (c : Rc W r E u v k) => num_ok r E u v bs k x1 k1 W b c hn h1)
  have N2 := Lib.hid (fun (W : World) (b : Bs W E u v bs) (c : Rc W r E u v k1) => num_ok r E u v bs k1 x2 k2 W b c hn h2)
  have N3 := Lib.hid (fun (W : World) (b : Bs W E u v bs) (c : Rc W r E u v k2) => num_ok r E u v bs k2 x3 k3 W b c hn h3)
  have N4 := Lib.hid (fun (W : World) (b : Bs W E u v bs) (c : Rc W r E u v k3) => num_ok r E u v bs k3 x4 k4 W b c hn h4)
  clear hb hr hn h1 h2 h3 h4
  obtain ⟨v1, hv1⟩ : ∃ W, w.alloc (.cells #[.int .i64 0, .int .i64 0, .int .i64 0, .int .i64 0] 40) = W := ⟨_, rfl⟩
  have fr1 : Fr w v1 w.heap.size [.cells #[.int .i64 0, .int .i64 0, .int .i64 0, .int .i64 0] 40] := hv1 ▸ Fr.first w _
  have z1 : v1.heap.size = w.heap.size + 1 := by rw [← hv1, Fr.size1]
  obtain ⟨v2, hv2⟩ : ∃ W, v1.alloc (.cells #[.int .i64 0, .int .i64 0, .int .i64 0, .int .i64 0] 40) = W := ⟨_, rfl⟩
  have fr2 : Fr w v2 w.heap.size [.cells #[.int .i64 0, .int .i64 0, .int .i64 0, .int .i64 0] 40, .cells #[.int .i64 0, .int .i64 0, .int .i64 0, .int .i64 0] 40] := hv2 ▸ fr1.more z1 _
  have z2 : v2.heap.size = w.heap.size + 2 := by rw [← hv2, Fr.size1, z1]
  generalize hq : w.heap.size = q at *
  have FR := Lib.hid fr2
  clear fr1 fr2
  have RD := Lib.hid (HR.out.below FR.out.out)
  replace FR := Lib.hid (Fg.of_fr (r := r) FR.out HRL.out)
  go_enter Try.func49, Try.ntmps49
  have c00 : v2.cell? ⟨q, 0, none⟩ = some (.int .i64 0) := FR.out.cell 0 0 rfl rfl rfl
  have f00 : v2.frozen? ⟨q, 0, none⟩ = false := FR.out.frozen 0 0 rfl rfl
  have c01 : v2.cell? ⟨q, 1, none⟩ = some (.int .i64 0) := FR.out.cell 0 1 rfl rfl rfl
  have f01 : v2.frozen? ⟨q, 1, none⟩ = false := FR.out.frozen 0 1 rfl rfl
  have c02 : v2.cell? ⟨q, 2, none⟩ = some (.int .i64 0) := FR.out.cell 0 2 rfl rfl rfl
  have f02 : v2.frozen? ⟨q, 2, none⟩ = false := FR.out.frozen 0 2 rfl rfl
  have c03 : v2.cell? ⟨q, 3, none⟩ = some (.int .i64 0) := FR.out.cell 0 3 rfl rfl rfl
  have f03 : v2.frozen? ⟨q, 3, none⟩ = false := FR.out.frozen 0 3 rfl rfl
  have c10 : v2.cell? ⟨q + 1, 0, none⟩ = some (.int .i64 0) := FR.out.cell 1 0 rfl rfl rfl
  have f10 : v2.frozen? ⟨q + 1, 0, none⟩ = false := FR.out.frozen 1 0 rfl rfl
  have c11 : v2.cell? ⟨q + 1, 1, none⟩ = some (.int .i64 0) := FR.out.cell 1 1 rfl rfl rfl
  have f11 : v2.frozen? ⟨q + 1, 1, none⟩ = false := FR.out.frozen 1 1 rfl rfl
  have c12 : v2.cell? ⟨q + 1, 2, none⟩ = some (.int .i64 0) := FR.out.cell 1 2 rfl rfl rfl
  have f12 : v2.frozen? ⟨q + 1, 2, none⟩ = false := FR.out.frozen 1 2 rfl rfl
  have c13 : v2.cell? ⟨q + 1, 3, none⟩ = some (.int .i64 0) := FR.out.cell 1 3 rfl rfl rfl
  have f13 : v2.frozen? ⟨q + 1, 3, none⟩ = false := FR.out.frozen 1 3 rfl rfl
  go_wp2_with fail
  refine (N1.out _ (HB.out.grownC HR.out FR.out.g) RD.out).mono ?_
  rintro e w3 ⟨rfl, hrd, hg⟩
  clear c00 f00 c01 f01 c02 f02 c03 f03 c10 f10 c11 f11 c12 f12 c13 f13
  replace FR := Lib.hid (FR.out.num hg)
  replace RD := Lib.hid hrd
  clear hrd hg hv1 hv2 z1 z2
  have pc10 : w3.cell? ⟨q + 1, 0, none⟩ = some (.int .i64 0) := FR.out.cell 1 0 rfl rfl rfl
  have pf10 : w3.frozen? ⟨q + 1, 0, none⟩ = false := FR.out.frozen 1 0 rfl rfl
  have pc11 : w3.cell? ⟨q + 1, 1, none⟩ = some (.int .i64 0) := FR.out.cell 1 1 rfl rfl rfl
  have pf11 : w3.frozen? ⟨q + 1, 1, none⟩ = false := FR.out.frozen 1 1 rfl rfl
  have pc12 : w3.cell? ⟨q + 1, 2, none⟩ = some (.int .i64 0) := FR.out.cell 1 2 rfl rfl rfl
  have pf12 : w3.frozen? ⟨q + 1, 2, none⟩ = false := FR.out.frozen 1 2 rfl rfl
  have pc13 : w3.cell? ⟨q + 1, 3, none⟩ = some (.int .i64 0) := FR.out.cell 1 3 rfl rfl rfl
  have pf13 : w3.frozen? ⟨q + 1, 3, none⟩ = false := FR.out.frozen 1 3 rfl rfl
  obtain ⟨w4, hw4⟩ : ∃ W, w3.setCell ⟨q + 1, 0, none⟩ (.int .i64 x1) = W := ⟨_, rfl⟩
  replace RD := Lib.hid (show Rc w4 r E u v k1 from hw4 ▸ RD.out.other (by have := FR.out.rq; omega) _ _)
  replace FR := Lib.hid (show Fg r w w4 q [.cells #[.int .i64 0, .int .i64 0, .int .i64 0, .int .i64 0] 40, .cells #[.int .i64 x1, .int .i64 0, .int .i64 0, .int .i64 0] 40] from hw4 ▸ FR.out.set 1 0 rfl rfl (.int .i64 x1))
  have c00 : w4.cell? ⟨q, 0, none⟩ = some (.int .i64 0) := FR.out.cell 0 0 rfl rfl rfl
  have f00 : w4.frozen? ⟨q, 0, none⟩ = false := FR.out.frozen 0 0 rfl rfl
  have c01 : w4.cell? ⟨q, 1, none⟩ = some (.int .i64 0) := FR.out.cell 0 1 rfl rfl rfl
  have f01 : w4.frozen? ⟨q, 1, none⟩ = false := FR.out.frozen 0 1 rfl rfl
  have c02 : w4.cell? ⟨q, 2, none⟩ = some (.int .i64 0) := FR.out.cell 0 2 rfl rfl rfl
  have f02 : w4.frozen? ⟨q, 2, none⟩ = false := FR.out.frozen 0 2 rfl rfl
  have c03 : w4.cell? ⟨q, 3, none⟩ = some (.int .i64 0) := FR.out.cell 0 3 rfl rfl rfl
  have f03 : w4.frozen? ⟨q, 3, none⟩ = false := FR.out.frozen 0 3 rfl rfl
  have c10 : w4.cell? ⟨q + 1, 0, none⟩ = some (.int .i64 x1) := FR.out.cell 1 0 rfl rfl rfl
  have f10 : w4.frozen? ⟨q + 1, 0, none⟩ = false := FR.out.frozen 1 0 rfl rfl
  have c11 : w4.cell? ⟨q + 1, 1, none⟩ = some (.int .i64 0) := FR.out.cell 1 1 rfl rfl rfl
  have f11 : w4.frozen? ⟨q + 1, 1, none⟩ = false := FR.out.frozen 1 1 rfl rfl
  have c12 : w4.cell? ⟨q + 1, 2, none⟩ = some (.int .i64 0) := FR.out.cell 1 2 rfl rfl rfl
  have f12 : w4.frozen? ⟨q + 1, 2, none⟩ = false := FR.out.frozen 1 2 rfl rfl
  have c13 : w4.cell? ⟨q + 1, 3, none⟩ = some (.int .i64 0) := FR.out.cell 1 3 rfl rfl rfl
  have f13 : w4.frozen? ⟨q + 1, 3, none⟩ = false := FR.out.frozen 1 3 rfl rfl
  go_wp2_with fail
  refine (N2.out _ (HB.out.grownC HR.out FR.out.g) RD.out).mono ?_
  rintro e w5 ⟨rfl, hrd, hg⟩
  clear c00 f00 c01 f01 c02 f02 c03 f03 c10 f10 c11 f11 c12 f12 c13 f13
  replace FR := Lib.hid (FR.out.num hg)
  replace RD := Lib.hid hrd
  clear hrd hg
  have pc10 : w5.cell? ⟨q + 1, 0, none⟩ = some (.int .i64 x1) := FR.out.cell 1 0 rfl rfl rfl
  have pf10 : w5.frozen? ⟨q + 1, 0, none⟩ = false := FR.out.frozen 1 0 rfl rfl
  have pc11 : w5.cell? ⟨q + 1, 1, none⟩ = some (.int .i64 0) := FR.out.cell 1 1 rfl rfl rfl
  have pf11 : w5.frozen? ⟨q + 1, 1, none⟩ = false := FR.out.frozen 1 1 rfl rfl
  have pc12 : w5.cell? ⟨q + 1, 2, none⟩ = some (.int .i64 0) := FR.out.cell 1 2 rfl rfl rfl
  have pf12 : w5.frozen? ⟨q + 1, 2, none⟩ = false := FR.out.frozen 1 2 rfl rfl
  have pc13 : w5.cell? ⟨q + 1, 3, none⟩ = some (.int .i64 0) := FR.out.cell 1 3 rfl rfl rfl
  have pf13 : w5.frozen? ⟨q + 1, 3, none⟩ = false := FR.out.frozen 1 3 rfl rfl
  obtain ⟨w6, hw6⟩ : ∃ W, w5.setCell ⟨q + 1, 1, none⟩ (.int .i64 x2) = W := ⟨_, rfl⟩
  replace RD := Lib.hid (show Rc w6 r E u v k2 from hw6 ▸ RD.out.other (by have := FR.out.rq; omega) _ _)
  replace FR := Lib.hid (show Fg r w w6 q [.cells #[.int .i64 0, .int .i64 0, .int .i64 0, .int .i64 0] 40, .cells #[.int .i64 x1, .int .i64 x2, .int .i64 0, .int .i64 0] 40] from hw6 ▸ FR.out.set 1 1 rfl rfl (.int .i64 x2))
  have c00 : w6.cell? ⟨q, 0, none⟩ = some (.int .i64 0) := FR.out.cell 0 0 rfl rfl rfl
  have f00 : w6.frozen? ⟨q, 0, none⟩ = false := FR.out.frozen 0 0 rfl rfl
  have c01 : w6.cell? ⟨q, 1, none⟩ = some (.int .i64 0) := FR.out.cell 0 1 rfl rfl rfl
  have f01 : w6.frozen? ⟨q, 1, none⟩ = false := FR.out.frozen 0 1 rfl rfl
  have c02 : w6.cell? ⟨q, 2, none⟩ = some (.int .i64 0) := FR.out.cell 0 2 rfl rfl rfl
  have f02 : w6.frozen? ⟨q, 2, none⟩ = false := FR.out.frozen 0 2 rfl rfl
  have c03 : w6.cell? ⟨q, 3, none⟩ = some (.int .i64 0) := FR.out.cell 0 3 rfl rfl rfl
  have f03 : w6.frozen? ⟨q, 3, none⟩ = false := FR.out.frozen 0 3 rfl rfl
  have c10 : w6.cell? ⟨q + 1, 0, none⟩ = some (.int .i64 x1) := FR.out.cell 1 0 rfl rfl rfl
  have f10 : w6.frozen? ⟨q + 1, 0, none⟩ = false := FR.out.frozen 1 0 rfl rfl
  have c11 : w6.cell? ⟨q + 1, 1, none⟩ = some (.int .i64 x2) := FR.out.cell 1 1 rfl rfl rfl
  have f11 : w6.frozen? ⟨q + 1, 1, none⟩ = false := FR.out.frozen 1 1 rfl rfl
  have c12 : w6.cell? ⟨q + 1, 2, none⟩ = some (.int .i64 0) := FR.out.cell 1 2 rfl rfl rfl
  have f12 : w6.frozen? ⟨q + 1, 2, none⟩ = false := FR.out.frozen 1 2 rfl rfl
  have c13 : w6.cell? ⟨q + 1, 3, none⟩ = some (.int .i64 0) := FR.out.cell 1 3 rfl rfl rfl
  have f13 : w6.frozen? ⟨q + 1, 3, none⟩ = false := FR.out.frozen 1 3 rfl rfl
  go_wp2_with fail
  refine (N3.out _ (HB.out.grownC HR.out FR.out.g) RD.out).mono ?_
  rintro e w7 ⟨rfl, hrd, hg⟩
  clear c00 f00 c01 f01 c02 f02 c03 f03 c10 f10 c11 f11 c12 f12 c13 f13
  replace FR := Lib.hid (FR.out.num hg)
  replace RD := Lib.hid hrd
  clear hrd hg
  have pc10 : w7.cell? ⟨q + 1, 0, none⟩ = some (.int .i64 x1) := FR.out.cell 1 0 rfl rfl rfl
  have pf10 : w7.frozen? ⟨q + 1, 0, none⟩ = false := FR.out.frozen 1 0 rfl rfl
  have pc11 : w7.cell? ⟨q + 1, 1, none⟩ = some (.int .i64 x2) := FR.out.cell 1 1 rfl rfl rfl
  have pf11 : w7.frozen? ⟨q + 1, 1, none⟩ = false := FR.out.frozen 1 1 rfl rfl
  have pc12 : w7.cell? ⟨q + 1, 2, none⟩ = some (.int .i64 0) := FR.out.cell 1 2 rfl rfl rfl
  have pf12 : w7.frozen? ⟨q + 1, 2, none⟩ = false := FR.out.frozen 1 2 rfl rfl
  have pc13 : w7.cell? ⟨q + 1, 3, none⟩ = some (.int .i64 0) := FR.out.cell 1 3 rfl rfl rfl
  have pf13 : w7.frozen? ⟨q + 1, 3, none⟩ = false := FR.out.frozen 1 3 rfl rfl
  obtain ⟨w8, hw8⟩ : ∃ W, w7.setCell ⟨q + 1, 2, none⟩ (.int .i64 x3) = W := ⟨_, rfl⟩
  replace RD := Lib.hid (show Rc w8 r E u v k3 from hw8 ▸ RD.out.other (by have := FR.out.rq; omega) _ _)
  replace FR := Lib.hid (show Fg r w w8 q [.cells #[.int .i64 0, .int .i64 0, .int .i64 0, .int .i64 0] 40, .cells #[.int .i64 x1, .int .i64 x2, .int .i64 x3, .int .i64 0] 40] from hw8 ▸ FR.out.set 1 2 rfl rfl (.int .i64 x3))
  have c00 : w8.cell? ⟨q, 0, none⟩ = some (.int .i64 0) := FR.out.cell 0 0 rfl rfl rfl
  have f00 : w8.frozen? ⟨q, 0, none⟩ = false := FR.out.frozen 0 0 rfl rfl
  have c01 : w8.cell? ⟨q, 1, none⟩ = some (.int .i64 0) := FR.out.cell 0 1 rfl rfl rfl
  have f01 : w8.frozen? ⟨q, 1, none⟩ = false := FR.out.frozen 0 1 rfl rfl
  have c02 : w8.cell? ⟨q, 2, none⟩ = some (.int .i64 0) := FR.out.cell 0 2 rfl rfl rfl
  have f02 : w8.frozen? ⟨q, 2, none⟩ = false := FR.out.frozen 0 2 rfl rfl
  have c03 : w8.cell? ⟨q, 3, none⟩ = some (.int .i64 0) := FR.out.cell 0 3 rfl rfl rfl
  have f03 : w8.frozen? ⟨q, 3, none⟩ = false := FR.out.frozen 0 3 rfl rfl
  have c10 : w8.cell? ⟨q + 1, 0, none⟩ = some (.int .i64 x1) := FR.out.cell 1 0 rfl rfl rfl
  have f10 : w8.frozen? ⟨q + 1, 0, none⟩ = false := FR.out.frozen 1 0 rfl rfl
  have c11 : w8.cell? ⟨q + 1, 1, none⟩ = some (.int .i64 x2) := FR.out.cell 1 1 rfl rfl rfl
  have f11 : w8.frozen? ⟨q + 1, 1, none⟩ = false := FR.out.frozen 1 1 rfl rfl
  have c12 : w8.cell? ⟨q + 1, 2, none⟩ = some (.int .i64 x3) := FR.out.cell 1 2 rfl rfl rfl
  have f12 : w8.frozen? ⟨q + 1, 2, none⟩ = false := FR.out.frozen 1 2 rfl rfl
  have c13 : w8.cell? ⟨q + 1, 3, none⟩ = some (.int .i64 0) := FR.out.cell 1 3 rfl rfl rfl
  have f13 : w8.frozen? ⟨q + 1, 3, none⟩ = false := FR.out.frozen 1 3 rfl rfl
  go_wp2_with fail
  refine (N4.out _ (HB.out.grownC HR.out FR.out.g) RD.out).mono ?_
  rintro e w9 ⟨rfl, hrd, hg⟩
  clear c00 f00 c01 f01 c02 f02 c03 f03 c10 f10 c11 f11 c12 f12 c13 f13
  replace FR := Lib.hid (FR.out.num hg)
  replace RD := Lib.hid hrd
  clear hrd hg
  have pc10 : w9.cell? ⟨q + 1, 0, none⟩ = some (.int .i64 x1) := FR.out.cell 1 0 rfl rfl rfl
  have pf10 : w9.frozen? ⟨q + 1, 0, none⟩ = false := FR.out.frozen 1 0 rfl rfl
  have pc11 : w9.cell? ⟨q + 1, 1, none⟩ = some (.int .i64 x2) := FR.out.cell 1 1 rfl rfl rfl
  have pf11 : w9.frozen? ⟨q + 1, 1, none⟩ = false := FR.out.frozen 1 1 rfl rfl
  have pc12 : w9.cell? ⟨q + 1, 2, none⟩ = some (.int .i64 x3) := FR.out.cell 1 2 rfl rfl rfl
  have pf12 : w9.frozen? ⟨q + 1, 2, none⟩ = false := FR.out.frozen 1 2 rfl rfl
  have pc13 : w9.cell? ⟨q + 1, 3, none⟩ = some (.int .i64 0) := FR.out.cell 1 3 rfl rfl rfl
  have pf13 : w9.frozen? ⟨q + 1, 3, none⟩ = false := FR.out.frozen 1 3 rfl rfl
  obtain ⟨w10, hw10⟩ : ∃ W, w9.setCell ⟨q + 1, 3, none⟩ (.int .i64 x4) = W := ⟨_, rfl⟩
  replace RD := Lib.hid (show Rc w10 r E u v k4 from hw10 ▸ RD.out.other (by have := FR.out.rq; omega) _ _)
  replace FR := Lib.hid (show Fg r w w10 q [.cells #[.int .i64 0, .int .i64 0, .int .i64 0, .int .i64 0] 40, .cells #[.int .i64 x1, .int .i64 x2, .int .i64 x3, .int .i64 x4] 40] from hw10 ▸ FR.out.set 1 3 rfl rfl (.int .i64 x4))
  have c00 : w10.cell? ⟨q, 0, none⟩ = some (.int .i64 0) := FR.out.cell 0 0 rfl rfl rfl
  have f00 : w10.frozen? ⟨q, 0, none⟩ = false := FR.out.frozen 0 0 rfl rfl
  have c01 : w10.cell? ⟨q, 1, none⟩ = some (.int .i64 0) := FR.out.cell 0 1 rfl rfl rfl
  have f01 : w10.frozen? ⟨q, 1, none⟩ = false := FR.out.frozen 0 1 rfl rfl
  have c02 : w10.cell? ⟨q, 2, none⟩ = some (.int .i64 0) := FR.out.cell 0 2 rfl rfl rfl
  have f02 : w10.frozen? ⟨q, 2, none⟩ = false := FR.out.frozen 0 2 rfl rfl
  have c03 : w10.cell? ⟨q, 3, none⟩ = some (.int .i64 0) := FR.out.cell 0 3 rfl rfl rfl
  have f03 : w10.frozen? ⟨q, 3, none⟩ = false := FR.out.frozen 0 3 rfl rfl
  have c10 : w10.cell? ⟨q + 1, 0, none⟩ = some (.int .i64 x1) := FR.out.cell 1 0 rfl rfl rfl
  have f10 : w10.frozen? ⟨q + 1, 0, none⟩ = false := FR.out.frozen 1 0 rfl rfl
  have c11 : w10.cell? ⟨q + 1, 1, none⟩ = some (.int .i64 x2) := FR.out.cell 1 1 rfl rfl rfl
  have f11 : w10.frozen? ⟨q + 1, 1, none⟩ = false := FR.out.frozen 1 1 rfl rfl
  have c12 : w10.cell? ⟨q + 1, 2, none⟩ = some (.int .i64 x3) := FR.out.cell 1 2 rfl rfl rfl
  have f12 : w10.frozen? ⟨q + 1, 2, none⟩ = false := FR.out.frozen 1 2 rfl rfl
  have c13 : w10.cell? ⟨q + 1, 3, none⟩ = some (.int .i64 x4) := FR.out.cell 1 3 rfl rfl rfl
  have f13 : w10.frozen? ⟨q + 1, 3, none⟩ = false := FR.out.frozen 1 3 rfl rfl
  go_wp2
  have FZ : Fg r w ((((w10.setCell ⟨q, 0, none⟩ (.int .i64 x1)).setCell ⟨q, 1, none⟩ (.int .i64 x2)).setCell ⟨q, 2, none⟩ (.int .i64 x3)).setCell ⟨q, 3, none⟩ (.int .i64 x4)) q [.cells #[.int .i64 x1, .int .i64 x2, .int .i64 x3, .int .i64 x4] 40, .cells #[.int .i64 x1, .int .i64 x2, .int .i64 x3, .int .i64 x4] 40] := ((((FR.out.set 0 0 rfl rfl (.int .i64 x1)).set 0 1 rfl rfl (.int .i64 x2)).set 0 2 rfl rfl (.int .i64 x3)).set 0 3 rfl rfl (.int .i64 x4))
  refine bodyPost_ret (results_cell Try.results49 (by rfl) (FZ.load 0 rfl rfl Try.underlying40 (by kernel_rfl))) rfl ?_
  exact ⟨rfl, (((RD.out.other (by have := FR.out.rq; omega) _ _).other (by have := FR.out.rq; omega) _ _).other (by have := FR.out.rq; omega) _ _).other (by have := FR.out.rq; omega) _ _, FZ.g⟩
set_option maxRecDepth 100000 in
set_option maxHeartbeats 4000000 in
theorem instr_err1 (r : Nat) (E : Option Addr) (u v : Nat) (bs : List Int) (k  : Int) (p : Int × Int × Int) (w : World) (hb : Bs w E u v bs) (hr : Rc w r E u v k) (hn : u ≤ 16384) (hp : readIntS bs k = p) (he : p.2.2 ≠ 0) :
    Calls Try.prog 49 #[.pointer (some ⟨r, 0, none⟩)] w (fun e w' => e = .panicked [PE p.2.2] ∧ w.grownBy w' (some r)) := by
  have HB := Lib.hid hb; have HR := Lib.hid hr; have HRL := Lib.hid hr.lt
  have N1 := Lib.hid (fun (W : World) (b : Bs W E u v bs) (c : Rc W r E u v k) => num_err r E u v bs k p W b c hn hp he)
  clear hb hr hn  hp he
  obtain ⟨v1, hv1⟩ : ∃ W, w.alloc (.cells #[.int .i64 0, .int .i64 0, .int .i64 0, .int .i64 0] 40) = W := ⟨_, rfl⟩
  have fr1 : Fr w v1 w.heap.size [.cells #[.int .i64 0, .int .i64 0, .int .i64 0, .int .i64 0] 40] := hv1 ▸ Fr.first w _
  have z1 : v1.heap.size = w.heap.size + 1 := by rw [← hv1, Fr.size1]
  obtain ⟨v2, hv2⟩ : ∃ W, v1.alloc (.cells #[.int .i64 0, .int .i64 0, .int .i64 0, .int .i64 0] 40) = W := ⟨_, rfl⟩
  have fr2 : Fr w v2 w.heap.size [.cells #[.int .i64 0, .int .i64 0, .int .i64 0, .int .i64 0] 40, .cells #[.int .i64 0, .int .i64 0, .int .i64 0, .int .i64 0] 40] := hv2 ▸ fr1.more z1 _
  have z2 : v2.heap.size = w.heap.size + 2 := by rw [← hv2, Fr.size1, z1]
  generalize hq : w.heap.size = q at *
  have FR := Lib.hid fr2
  clear fr1 fr2
  have RD := Lib.hid (HR.out.below FR.out.out)
  replace FR := Lib.hid (Fg.of_fr (r := r) FR.out HRL.out)
  go_enter Try.func49, Try.ntmps49
  have c00 : v2.cell? ⟨q, 0, none⟩ = some (.int .i64 0) := FR.out.cell 0 0 rfl rfl rfl
  have f00 : v2.frozen? ⟨q, 0, none⟩ = false := FR.out.frozen 0 0 rfl rfl
  have c01 : v2.cell? ⟨q, 1, none⟩ = some (.int .i64 0) := FR.out.cell 0 1 rfl rfl rfl
  have f01 : v2.frozen? ⟨q, 1, none⟩ = false := FR.out.frozen 0 1 rfl rfl
  have c02 : v2.cell? ⟨q, 2, none⟩ = some (.int .i64 0) := FR.out.cell 0 2 rfl rfl rfl
  have f02 : v2.frozen? ⟨q, 2, none⟩ = false := FR.out.frozen 0 2 rfl rfl
  have c03 : v2.cell? ⟨q, 3, none⟩ = some (.int .i64 0) := FR.out.cell 0 3 rfl rfl rfl
  have f03 : v2.frozen? ⟨q, 3, none⟩ = false := FR.out.frozen 0 3 rfl rfl
  have c10 : v2.cell? ⟨q + 1, 0, none⟩ = some (.int .i64 0) := FR.out.cell 1 0 rfl rfl rfl
  have f10 : v2.frozen? ⟨q + 1, 0, none⟩ = false := FR.out.frozen 1 0 rfl rfl
  have c11 : v2.cell? ⟨q + 1, 1, none⟩ = some (.int .i64 0) := FR.out.cell 1 1 rfl rfl rfl
  have f11 : v2.frozen? ⟨q + 1, 1, none⟩ = false := FR.out.frozen 1 1 rfl rfl
  have c12 : v2.cell? ⟨q + 1, 2, none⟩ = some (.int .i64 0) := FR.out.cell 1 2 rfl rfl rfl
  have f12 : v2.frozen? ⟨q + 1, 2, none⟩ = false := FR.out.frozen 1 2 rfl rfl
  have c13 : v2.cell? ⟨q + 1, 3, none⟩ = some (.int .i64 0) := FR.out.cell 1 3 rfl rfl rfl
  have f13 : v2.frozen? ⟨q + 1, 3, none⟩ = false := FR.out.frozen 1 3 rfl rfl
  go_wp2_with fail
  refine (N1.out _ (HB.out.grownC HR.out FR.out.g) RD.out).mono ?_
  rintro e w3 ⟨rfl, hg⟩
  exact ⟨rfl, rfl, grown_trans FR.out.g hg⟩
set_option maxRecDepth 100000 in
set_option maxHeartbeats 4000000 in
theorem instr_err2 (r : Nat) (E : Option Addr) (u v : Nat) (bs : List Int) (k x1 k1 : Int) (p : Int × Int × Int) (w : World) (hb : Bs w E u v bs) (hr : Rc w r E u v k) (hn : u ≤ 16384) (h1 : readIntS bs k = (x1, k1, 0)) (hp : readIntS bs k1 = p) (he : p.2.2 ≠ 0) :
    Calls Try.prog 49 #[.pointer (some ⟨r, 0, none⟩)] w (fun e w' => e = .panicked [PE p.2.2] ∧ w.grownBy w' (some r)) := by
  have HB := Lib.hid hb; have HR := Lib.hid hr; have HRL := Lib.hid hr.lt
  have N1 := Lib.hid (fun (W : World) (b : Bs W E u v bs) (c : Rc W r E u v k) => num_ok r E u v bs k x1 k1 W b c hn h1)
  have N2 := Lib.hid (fun (W : World) (b : Bs W E u v bs) (c : Rc W r E u v k1) => num_err r E u v bs k1 p W b c hn hp he)
  clear hb hr hn h1 hp he
  obtain ⟨v1, hv1⟩ : ∃ W, w.alloc (.cells #[.int .i64 0, .int .i64 0, .int .i64 0, .int .i64 0] 40) = W := ⟨_, rfl⟩
  have fr1 : Fr w v1 w.heap.size [.cells #[.int .i64 0, .int .i64 0, .int .i64 0, .int .i64 0] 40] := hv1 ▸ Fr.first w _
  have z1 : v1.heap.size = w.heap.size + 1 := by rw [← hv1, Fr.size1]
  obtain ⟨v2, hv2⟩ : ∃ W, v1.alloc (.cells #[.int .i64 0, .int .i64 0, .int .i64 0, .int .i64 0] 40) = W := ⟨_, rfl⟩
  have fr2 : Fr w v2 w.heap.size [.cells #[.int .i64 0, .int .i64 0, .int .i64 0, .int .i64 0] 40, .cells #[.int .i64 0, .int .i64 0, .int .i64 0, .int .i64 0] 40] := hv2 ▸ fr1.more z1 _
  have z2 : v2.heap.size = w.heap.size + 2 := by rw [← hv2, Fr.size1, z1]
  generalize hq : w.heap.size = q at *
  have FR := Lib.hid fr2
  clear fr1 fr2
  have RD := Lib.hid (HR.out.below FR.out.out)
  replace FR := Lib.hid (Fg.of_fr (r := r) FR.out HRL.out)
  go_enter Try.func49, Try.ntmps49
  have c00 : v2.cell? ⟨q, 0, none⟩ = some (.int .i64 0) := FR.out.cell 0 0 rfl rfl rfl
  have f00 : v2.frozen? ⟨q, 0, none⟩ = false := FR.out.frozen 0 0 rfl rfl
  have c01 : v2.cell? ⟨q, 1, none⟩ = some (.int .i64 0) := FR.out.cell 0 1 rfl rfl rfl
  have f01 : v2.frozen? ⟨q, 1, none⟩ = false := FR.out.frozen 0 1 rfl rfl
  have c02 : v2.cell? ⟨q, 2, none⟩ = some (.int .i64 0) := FR.out.cell 0 2 rfl rfl rfl
  have f02 : v2.frozen? ⟨q, 2, none⟩ = false := FR.out.frozen 0 2 rfl rfl
  have c03 : v2.cell? ⟨q, 3, none⟩ = some (.int .i64 0) := FR.out.cell 0 3 rfl rfl rfl
  have f03 : v2.frozen? ⟨q, 3, none⟩ = false := FR.out.frozen 0 3 rfl rfl
  have c10 : v2.cell? ⟨q + 1, 0, none⟩ = some (.int .i64 0) := FR.out.cell 1 0 rfl rfl rfl
  have f10 : v2.frozen? ⟨q + 1, 0, none⟩ = false := FR.out.frozen 1 0 rfl rfl
  have c11 : v2.cell? ⟨q + 1, 1, none⟩ = some (.int .i64 0) := FR.out.cell 1 1 rfl rfl rfl
  have f11 : v2.frozen? ⟨q + 1, 1, none⟩ = false := FR.out.frozen 1 1 rfl rfl
  have c12 : v2.cell? ⟨q + 1, 2, none⟩ = some (.int .i64 0) := FR.out.cell 1 2 rfl rfl rfl
  have f12 : v2.frozen? ⟨q + 1, 2, none⟩ = false := FR.out.frozen 1 2 rfl rfl
  have c13 : v2.cell? ⟨q + 1, 3, none⟩ = some (.int .i64 0) := FR.out.cell 1 3 rfl rfl rfl
  have f13 : v2.frozen? ⟨q + 1, 3, none⟩ = false := FR.out.frozen 1 3 rfl rfl
  go_wp2_with fail
  refine (N1.out _ (HB.out.grownC HR.out FR.out.g) RD.out).mono ?_
  rintro e w3 ⟨rfl, hrd, hg⟩
  clear c00 f00 c01 f01 c02 f02 c03 f03 c10 f10 c11 f11 c12 f12 c13 f13
  replace FR := Lib.hid (FR.out.num hg)
  replace RD := Lib.hid hrd
  clear hrd hg hv1 hv2 z1 z2
  have pc10 : w3.cell? ⟨q + 1, 0, none⟩ = some (.int .i64 0) := FR.out.cell 1 0 rfl rfl rfl
  have pf10 : w3.frozen? ⟨q + 1, 0, none⟩ = false := FR.out.frozen 1 0 rfl rfl
  have pc11 : w3.cell? ⟨q + 1, 1, none⟩ = some (.int .i64 0) := FR.out.cell 1 1 rfl rfl rfl
  have pf11 : w3.frozen? ⟨q + 1, 1, none⟩ = false := FR.out.frozen 1 1 rfl rfl
  have pc12 : w3.cell? ⟨q + 1, 2, none⟩ = some (.int .i64 0) := FR.out.cell 1 2 rfl rfl rfl
  have pf12 : w3.frozen? ⟨q + 1, 2, none⟩ = false := FR.out.frozen 1 2 rfl rfl
  have pc13 : w3.cell? ⟨q + 1, 3, none⟩ = some (.int .i64 0) := FR.out.cell 1 3 rfl rfl rfl
  have pf13 : w3.frozen? ⟨q + 1, 3, none⟩ = false := FR.out.frozen 1 3 rfl rfl
  obtain ⟨w4, hw4⟩ : ∃ W, w3.setCell ⟨q + 1, 0, none⟩ (.int .i64 x1) = W := ⟨_, rfl⟩
  replace RD := Lib.hid (show Rc w4 r E u v k1 from hw4 ▸ RD.out.other (by have := FR.out.rq; omega) _ _)
  replace FR := Lib.hid (show Fg r w w4 q [.cells #[.int .i64 0, .int .i64 0, .int .i64 0, .int .i64 0] 40, .cells #[.int .i64 x1, .int .i64 0, .int .i64 0, .int .i64 0] 40] from hw4 ▸ FR.out.set 1 0 rfl rfl (.int .i64 x1))
  have c00 : w4.cell? ⟨q, 0, none⟩ = some (.int .i64 0) := FR.out.cell 0 0 rfl rfl rfl
  have f00 : w4.frozen? ⟨q, 0, none⟩ = false := FR.out.frozen 0 0 rfl rfl
  have c01 : w4.cell? ⟨q, 1, none⟩ = some (.int .i64 0) := FR.out.cell 0 1 rfl rfl rfl
  have f01 : w4.frozen? ⟨q, 1, none⟩ = false := FR.out.frozen 0 1 rfl rfl
  have c02 : w4.cell? ⟨q, 2, none⟩ = some (.int .i64 0) := FR.out.cell 0 2 rfl rfl rfl
  have f02 : w4.frozen? ⟨q, 2, none⟩ = false := FR.out.frozen 0 2 rfl rfl
  have c03 : w4.cell? ⟨q, 3, none⟩ = some (.int .i64 0) := FR.out.cell 0 3 rfl rfl rfl
  have f03 : w4.frozen? ⟨q, 3, none⟩ = false := FR.out.frozen 0 3 rfl rfl
  have c10 : w4.cell? ⟨q + 1, 0, none⟩ = some (.int .i64 x1) := FR.out.cell 1 0 rfl rfl rfl
  have f10 : w4.frozen? ⟨q + 1, 0, none⟩ = false := FR.out.frozen 1 0 rfl rfl
  have c11 : w4.cell? ⟨q + 1, 1, none⟩ = some (.int .i64 0) := FR.out.cell 1 1 rfl rfl rfl
  have f11 : w4.frozen? ⟨q + 1, 1, none⟩ = false := FR.out.frozen 1 1 rfl rfl
  have c12 : w4.cell? ⟨q + 1, 2, none⟩ = some (.int .i64 0) := FR.out.cell 1 2 rfl rfl rfl
  have f12 : w4.frozen? ⟨q + 1, 2, none⟩ = false := FR.out.frozen 1 2 rfl rfl
  have c13 : w4.cell? ⟨q + 1, 3, none⟩ = some (.int .i64 0) := FR.out.cell 1 3 rfl rfl rfl
  have f13 : w4.frozen? ⟨q + 1, 3, none⟩ = false := FR.out.frozen 1 3 rfl rfl
  go_wp2_with fail
  refine (N2.out _ (HB.out.grownC HR.out FR.out.g) RD.out).mono ?_
  rintro e w5 ⟨rfl, hg⟩
  exact ⟨rfl, rfl, grown_trans FR.out.g hg⟩
set_option maxRecDepth 100000 in
set_option maxHeartbeats 4000000 in
theorem instr_err3 (r : Nat) (E : Option Addr) (u v : Nat) (bs : List Int) (k x1 k1 x2 k2 : Int) (p : Int × Int × Int) (w : World) (hb : Bs w E u v bs) (hr : Rc w r E u v k) (hn : u ≤ 16384) (h1 : readIntS bs k = (x1, k1, 0)) (h2 : readIntS bs k1 = (x2, k2, 0)) (hp : readIntS bs k2 = p) (he : p.2.2 ≠ 0) :
    Calls Try.prog 49 #[.pointer (some ⟨r, 0, none⟩)] w (fun e w' => e = .panicked [PE p.2.2] ∧ w.grownBy w' (some r)) := by
  have HB := Lib.hid hb; have HR := Lib.hid hr; have HRL := Lib.hid hr.lt
  have N1 := Lib.hid (fun (W : World) (b : Bs W E u v bs) (c : Rc W r E u v k) => num_ok r E u v bs k x1 k1 W b c hn h1)
  have N2 := Lib.hid (fun (W : World) (b : Bs W E u v bs) (c : Rc W r E u v k1) => num_ok r E u v bs k1 x2 k2 W b c hn h2)
  have N3 := Lib.hid (fun (W : World) (b : Bs W E u v bs) (c : Rc W r E u v k2) => num_err r E u v bs k2 p W b c hn hp he)
  clear hb hr hn h1 h2 hp he
  obtain ⟨v1, hv1⟩ : ∃ W, w.alloc (.cells #[.int .i64 0, .int .i64 0, .int .i64 0, .int .i64 0] 40) = W := ⟨_, rfl⟩
  have fr1 : Fr w v1 w.heap.size [.cells #[.int .i64 0, .int .i64 0, .int .i64 0, .int .i64 0] 40] := hv1 ▸ Fr.first w _
  have z1 : v1.heap.size = w.heap.size + 1 := by rw [← hv1, Fr.size1]
  obtain ⟨v2, hv2⟩ : ∃ W, v1.alloc (.cells #[.int .i64 0, .int .i64 0, .int .i64 0, .int .i64 0] 40) = W := ⟨_, rfl⟩
  have fr2 : Fr w v2 w.heap.size [.cells #[.int .i64 0, .int .i64 0, .int .i64 0, .int .i64 0] 40, .cells #[.int .i64 0, .int .i64 0, .int .i64 0, .int .i64 0] 40] := hv2 ▸ fr1.more z1 _
  have z2 : v2.heap.size = w.heap.size + 2 := by rw [← hv2, Fr.size1, z1]
  generalize hq : w.heap.size = q at *
  have FR := Lib.hid fr2
  clear fr1 fr2
  have RD := Lib.hid (HR.out.below FR.out.out)
  replace FR := Lib.hid (Fg.of_fr (r := r) FR.out HRL.out)
  go_enter Try.func49, Try.ntmps49
  have c00 : v2.cell? ⟨q, 0, none⟩ = some (.int .i64 0) := FR.out.cell 0 0 rfl rfl rfl
  have f00 : v2.frozen? ⟨q, 0, none⟩ = false := FR.out.frozen 0 0 rfl rfl
  have c01 : v2.cell? ⟨q, 1, none⟩ = some (.int .i64 0) := FR.out.cell 0 1 rfl rfl rfl
  have f01 : v2.frozen? ⟨q, 1, none⟩ = false := FR.out.frozen 0 1 rfl rfl
  have c02 : v2.cell? ⟨q, 2, none⟩ = some (.int .i64 0) := FR.out.cell 0 2 rfl rfl rfl
  have f02 : v2.frozen? ⟨q, 2, none⟩ = false := FR.out.frozen 0 2 rfl rfl
  have c03 : v2.cell? ⟨q, 3, none⟩ = some (.int .i64 0) := FR.out.cell 0 3 rfl rfl rfl
  have f03 : v2.frozen? ⟨q, 3, none⟩ = false := FR.out.frozen 0 3 rfl rfl
  have c10 : v2.cell? ⟨q + 1, 0, none⟩ = some (.int .i64 0) := FR.out.cell 1 0 rfl rfl rfl
  have f10 : v2.frozen? ⟨q + 1, 0, none⟩ = false := FR.out.frozen 1 0 rfl rfl
  have c11 : v2.cell? ⟨q + 1, 1, none⟩ = some (.int .i64 0) := FR.out.cell 1 1 rfl rfl rfl
  have f11 : v2.frozen? ⟨q + 1, 1, none⟩ = false := FR.out.frozen 1 1 rfl rfl
  have c12 : v2.cell? ⟨q + 1, 2, none⟩ = some (.int .i64 0) := FR.out.cell 1 2 rfl rfl rfl
  have f12 : v2.frozen? ⟨q + 1, 2, none⟩ = false := FR.out.frozen 1 2 rfl rfl
  have c13 : v2.cell? ⟨q + 1, 3, none⟩ = some (.int .i64 0) := FR.out.cell 1 3 rfl rfl rfl
  have f13 : v2.frozen? ⟨q + 1, 3, none⟩ = false := FR.out.frozen 1 3 rfl rfl
  go_wp2_with fail
  refine (N1.out _ (HB.out.grownC HR.out FR.out.g) RD.out).mono ?_
  rintro e w3 ⟨rfl, hrd, hg⟩
  clear c00 f00 c01 f01 c02 f02 c03 f03 c10 f10 c11 f11 c12 f12 c13 f13
  replace FR := Lib.hid (FR.out.num hg)
  replace RD := Lib.hid hrd
  clear hrd hg hv1 hv2 z1 z2
  have pc10 : w3.cell? ⟨q + 1, 0, none⟩ = some (.int .i64 0) := FR.out.cell 1 0 rfl rfl rfl
  have pf10 : w3.frozen? ⟨q + 1, 0, none⟩ = false := FR.out.frozen 1 0 rfl rfl
  have pc11 : w3.cell? ⟨q + 1, 1, none⟩ = some (.int .i64 0) := FR.out.cell 1 1 rfl rfl rfl
  have pf11 : w3.frozen? ⟨q + 1, 1, none⟩ = false := FR.out.frozen 1 1 rfl rfl
  have pc12 : w3.cell? ⟨q + 1, 2, none⟩ = some (.int .i64 0) := FR.out.cell 1 2 rfl rfl rfl
  have pf12 : w3.frozen? ⟨q + 1, 2, none⟩ = false := FR.out.frozen 1 2 rfl rfl
  have pc13 : w3.cell? ⟨q + 1, 3, none⟩ = some (.int .i64 0) := FR.out.cell 1 3 rfl rfl rfl
  have pf13 : w3.frozen? ⟨q + 1, 3, none⟩ = false := FR.out.frozen 1 3 rfl rfl
  obtain ⟨w4, hw4⟩ : ∃ W, w3.setCell ⟨q + 1, 0, none⟩ (.int .i64 x1) = W := ⟨_, rfl⟩
  replace RD := Lib.hid (show Rc w4 r E u v k1 from hw4 ▸ RD.out.other (by have := FR.out.rq; omega) _ _)
  replace FR := Lib.hid (show Fg r w w4 q [.cells #[.int .i64 0, .int .i64 0, .int .i64 0, .int .i64 0] 40, .cells #[.int .i64 x1, .int .i64 0, .int .i64 0, .int .i64 0] 40] from hw4 ▸ FR.out.set 1 0 rfl rfl (.int .i64 x1))
  have c00 : w4.cell? ⟨q, 0, none⟩ = some (.int .i64 0) := FR.out.cell 0 0 rfl rfl rfl
  have f00 : w4.frozen? ⟨q, 0, none⟩ = false := FR.out.frozen 0 0 rfl rfl
  have c01 : w4.cell? ⟨q, 1, none⟩ = some (.int .i64 0) := FR.out.cell 0 1 rfl rfl rfl
  have f01 : w4.frozen? ⟨q, 1, none⟩ = false := FR.out.frozen 0 1 rfl rfl
  have c02 : w4.cell? ⟨q, 2, none⟩ = some (.int .i64 0) := FR.out.cell 0 2 rfl rfl rfl
  have f02 : w4.frozen? ⟨q, 2, none⟩ = false := FR.out.frozen 0 2 rfl rfl
  have c03 : w4.cell? ⟨q, 3, none⟩ = some (.int .i64 0) := FR.out.cell 0 3 rfl rfl rfl
  have f03 : w4.frozen? ⟨q, 3, none⟩ = false := FR.out.frozen 0 3 rfl rfl
  have c10 : w4.cell? ⟨q + 1, 0, none⟩ = some (.int .i64 x1) := FR.out.cell 1 0 rfl rfl rfl
  have f10 : w4.frozen? ⟨q + 1, 0, none⟩ = false := FR.out.frozen 1 0 rfl rfl
  have c11 : w4.cell? ⟨q + 1, 1, none⟩ = some (.int .i64 0) := FR.out.cell 1 1 rfl rfl rfl
  have f11 : w4.frozen? ⟨q + 1, 1, none⟩ = false := FR.out.frozen 1 1 rfl rfl
  have c12 : w4.cell? ⟨q + 1, 2, none⟩ = some (.int .i64 0) := FR.out.cell 1 2 rfl rfl rfl
  have f12 : w4.frozen? ⟨q + 1, 2, none⟩ = false := FR.out.frozen 1 2 rfl rfl
  have c13 : w4.cell? ⟨q + 1, 3, none⟩ = some (.int .i64 0) := FR.out.cell 1 3 rfl rfl rfl
  have f13 : w4.frozen? ⟨q + 1, 3, none⟩ = false := FR.out.frozen 1 3 rfl rfl
  go_wp2_with fail
  refine (N2.out _ (HB.out.grownC HR.out FR.out.g) RD.out).mono ?_
  rintro e w5 ⟨rfl, hrd, hg⟩
  clear c00 f00 c01 f01 c02 f02 c03 f03 c10 f10 c11 f11 c12 f12 c13 f13
  replace FR := Lib.hid (FR.out.num hg)
  replace RD := Lib.hid hrd
  clear hrd hg
  have pc10 : w5.cell? ⟨q + 1, 0, none⟩ = some (.int .i64 x1) := FR.out.cell 1 0 rfl rfl rfl
  have pf10 : w5.frozen? ⟨q + 1, 0, none⟩ = false := FR.out.frozen 1 0 rfl rfl
  have pc11 : w5.cell? ⟨q + 1, 1, none⟩ = some (.int .i64 0) := FR.out.cell 1 1 rfl rfl rfl
  have pf11 : w5.frozen? ⟨q + 1, 1, none⟩ = false := FR.out.frozen 1 1 rfl rfl
  have pc12 : w5.cell? ⟨q + 1, 2, none⟩ = some (.int .i64 0) := FR.out.cell 1 2 rfl rfl rfl
  have pf12 : w5.frozen? ⟨q + 1, 2, none⟩ = false := FR.out.frozen 1 2 rfl rfl
  have pc13 : w5.cell? ⟨q + 1, 3, none⟩ = some (.int .i64 0) := FR.out.cell 1 3 rfl rfl rfl
  have pf13 : w5.frozen? ⟨q + 1, 3, none⟩ = false := FR.out.frozen 1 3 rfl rfl
  obtain ⟨w6, hw6⟩ : ∃ W, w5.setCell ⟨q + 1, 1, none⟩ (.int .i64 x2) = W := ⟨_, rfl⟩
  replace RD := Lib.hid (show Rc w6 r E u v k2 from hw6 ▸ RD.out.other (by have := FR.out.rq; omega) _ _)
  replace FR := Lib.hid (show Fg r w w6 q [.cells #[.int .i64 0, .int .i64 0, .int .i64 0, .int .i64 0] 40, .cells #[.int .i64 x1, .int .i64 x2, .int .i64 0, .int .i64 0] 40] from hw6 ▸ FR.out.set 1 1 rfl rfl (.int .i64 x2))
  have c00 : w6.cell? ⟨q, 0, none⟩ = some (.int .i64 0) := FR.out.cell 0 0 rfl rfl rfl
  have f00 : w6.frozen? ⟨q, 0, none⟩ = false := FR.out.frozen 0 0 rfl rfl
  have c01 : w6.cell? ⟨q, 1, none⟩ = some (.int .i64 0) := FR.out.cell 0 1 rfl rfl rfl
  have f01 : w6.frozen? ⟨q, 1, none⟩ = false := FR.out.frozen 0 1 rfl rfl
  have c02 : w6.cell? ⟨q, 2, none⟩ = some (.int .i64 0) := FR.out.cell 0 2 rfl rfl rfl
  have f02 : w6.frozen? ⟨q, 2, none⟩ = false := FR.out.frozen 0 2 rfl rfl
  have c03 : w6.cell? ⟨q, 3, none⟩ = some (.int .i64 0) := FR.out.cell 0 3 rfl rfl rfl
  have f03 : w6.frozen? ⟨q, 3, none⟩ = false := FR.out.frozen 0 3 rfl rfl
  have c10 : w6.cell? ⟨q + 1, 0, none⟩ = some (.int .i64 x1) := FR.out.cell 1 0 rfl rfl rfl
  have f10 : w6.frozen? ⟨q + 1, 0, none⟩ = false := FR.out.frozen 1 0 rfl rfl
  have c11 : w6.cell? ⟨q + 1, 1, none⟩ = some (.int .i64 x2) := FR.out.cell 1 1 rfl rfl rfl
  have f11 : w6.frozen? ⟨q + 1, 1, none⟩ = false := FR.out.frozen 1 1 rfl rfl
  have c12 : w6.cell? ⟨q + 1, 2, none⟩ = some (.int .i64 0) := FR.out.cell 1 2 rfl rfl rfl
  have f12 : w6.frozen? ⟨q + 1, 2, none⟩ = false := FR.out.frozen 1 2 rfl rfl
  have c13 : w6.cell? ⟨q + 1, 3, none⟩ = some (.int .i64 0) := FR.out.cell 1 3 rfl rfl rfl
  have f13 : w6.frozen? ⟨q + 1, 3, none⟩ = false := FR.out.frozen 1 3 rfl rfl
  go_wp2_with fail
  refine (N3.out _ (HB.out.grownC HR.out FR.out.g) RD.out).mono ?_
  rintro e w7 ⟨rfl, hg⟩
  exact ⟨rfl, rfl, grown_trans FR.out.g hg⟩
set_option maxRecDepth 100000 in
set_option maxHeartbeats 4000000 in
theorem instr_err4 (r : Nat) (E : Option Addr) (u v : Nat) (bs : List Int) (k x1 k1 x2 k2 x3 k3 : Int) (p : Int × Int × Int) (w : World) (hb : Bs w E u v bs) (hr : Rc w r E u v k) (hn : u ≤ 16384) (h1 : readIntS bs k = (x1, k1, 0)) (h2 : readIntS bs k1 = (x2, k2, 0)) (h3 : readIntS bs k2 = (x3, k3, 0)) (hp : readIntS bs k3 = p) (he : p.2.2 ≠ 0) :
    Calls Try.prog 49 #[.pointer (some ⟨r, 0, none⟩)] w (fun e w' => e = .panicked [PE p.2.2] ∧ w.grownBy w' (some r)) := by
  have HB := Lib.hid hb; have HR := Lib.hid hr; have HRL := Lib.hid hr.lt
  have N1 := Lib.hid (fun (W : World) (b : Bs W E u v bs) (c : Rc W r E u v k) => num_ok r E u v bs k x1 k1 W b c hn h1)
  have N2 := Lib.hid (fun (W : World) (b : Bs W E u v bs) (c : Rc W r E u v k1) => num_ok r E u v bs k1 x2 k2 W b c hn h2)
  have N3 := Lib.hid (fun (W : World) (b : Bs W E u v bs) (c : Rc W r E u v k2) => num_ok r E u v bs k2 x3 k3 W b c hn h3)
  have N4 := Lib.hid (fun (W : World) (b : Bs W E u v bs) (c : Rc W r E u v k3) => num_err r E u v bs k3 p W b c hn hp he)
  clear hb hr hn h1 h2 h3 hp he
  obtain ⟨v1, hv1⟩ : ∃ W, w.alloc (.cells #[.int .i64 0, .int .i64 0, .int .i64 0, .int .i64 0] 40) = W := ⟨_, rfl⟩
  have fr1 : Fr w v1 w.heap.size [.cells #[.int .i64 0, .int .i64 0, .int .i64 0, .int .i64 0] 40] := hv1 ▸ Fr.first w _
  have z1 : v1.heap.size = w.heap.size + 1 := by rw [← hv1, Fr.size1]
  obtain ⟨v2, hv2⟩ : ∃ W, v1.alloc (.cells #[.int .i64 0, .int .i64 0, .int .i64 0, .int .i64 0] 40) = W := ⟨_, rfl⟩
  have fr2 : Fr w v2 w.heap.size [.cells #[.int .i64 0, .int .i64 0, .int .i64 0, .int .i64 0] 40, .cells #[.int .i64 0, .int .i64 0, .int .i64 0, .int .i64 0] 40] := hv2 ▸ fr1.more z1 _
  have z2 : v2.heap.size = w.heap.size + 2 := by rw [← hv2, Fr.size1, z1]
  generalize hq : w.heap.size = q at *
  have FR := Lib.hid fr2
  clear fr1 fr2
  have RD := Lib.hid (HR.out.below FR.out.out)
  replace FR := Lib.hid (Fg.of_fr (r := r) FR.out HRL.out)
  go_enter Try.func49, Try.ntmps49
  have c00 : v2.cell? ⟨q, 0, none⟩ = some (.int .i64 0) := FR.out.cell 0 0 rfl rfl rfl
  have f00 : v2.frozen? ⟨q, 0, none⟩ = false := FR.out.frozen 0 0 rfl rfl
  have c01 : v2.cell? ⟨q, 1, none⟩ = some (.int .i64 0) := FR.out.cell 0 1 rfl rfl rfl
  have f01 : v2.frozen? ⟨q, 1, none⟩ = false := FR.out.frozen 0 1 rfl rfl
  have c02 : v2.cell? ⟨q, 2, none⟩ = some (.int .i64 0) := FR.out.cell 0 2 rfl rfl rfl
  have f02 : v2.frozen? ⟨q, 2, none⟩ = false := FR.out.frozen 0 2 rfl rfl
  have c03 : v2.cell? ⟨q, 3, none⟩ = some (.int .i64 0) := FR.out.cell 0 3 rfl rfl rfl
  have f03 : v2.frozen? ⟨q, 3, none⟩ = false := FR.out.frozen 0 3 rfl rfl
  have c10 : v2.cell? ⟨q + 1, 0, none⟩ = some (.int .i64 0) := FR.out.cell 1 0 rfl rfl rfl
  have f10 : v2.frozen? ⟨q + 1, 0, none⟩ = false := FR.out.frozen 1 0 rfl rfl
  have c11 : v2.cell? ⟨q + 1, 1, none⟩ = some (.int .i64 0) := FR.out.cell 1 1 rfl rfl rfl
  have f11 : v2.frozen? ⟨q + 1, 1, none⟩ = false := FR.out.frozen 1 1 rfl rfl
  have c12 : v2.cell? ⟨q + 1, 2, none⟩ = some (.int .i64 0) := FR.out.cell 1 2 rfl rfl rfl
  have f12 : v2.frozen? ⟨q + 1, 2, none⟩ = false := FR.out.frozen 1 2 rfl rfl
  have c13 : v2.cell? ⟨q + 1, 3, none⟩ = some (.int .i64 0) := FR.out.cell 1 3 rfl rfl rfl
  have f13 : v2.frozen? ⟨q + 1, 3, none⟩ = false := FR.out.frozen 1 3 rfl rfl
  go_wp2_with fail
  refine (N1.out _ (HB.out.grownC HR.out FR.out.g) RD.out).mono ?_
  rintro e w3 ⟨rfl, hrd, hg⟩
  clear c00 f00 c01 f01 c02 f02 c03 f03 c10 f10 c11 f11 c12 f12 c13 f13
  replace FR := Lib.hid (FR.out.num hg)
  replace RD := Lib.hid hrd
  clear hrd hg hv1 hv2 z1 z2
  have pc10 : w3.cell? ⟨q + 1, 0, none⟩ = some (.int .i64 0) := FR.out.cell 1 0 rfl rfl rfl
  have pf10 : w3.frozen? ⟨q + 1, 0, none⟩ = false := FR.out.frozen 1 0 rfl rfl
  have pc11 : w3.cell? ⟨q + 1, 1, none⟩ = some (.int .i64 0) := FR.out.cell 1 1 rfl rfl rfl
  have pf11 : w3.frozen? ⟨q + 1, 1, none⟩ = false := FR.out.frozen 1 1 rfl rfl
  have pc12 : w3.cell? ⟨q + 1, 2, none⟩ = some (.int .i64 0) := FR.out.cell 1 2 rfl rfl rfl
  have pf12 : w3.frozen? ⟨q + 1, 2, none⟩ = false := FR.out.frozen 1 2 rfl rfl
  have pc13 : w3.cell? ⟨q + 1, 3, none⟩ = some (.int .i64 0) := FR.out.cell 1 3 rfl rfl rfl
  have pf13 : w3.frozen? ⟨q + 1, 3, none⟩ = false := FR.out.frozen 1 3 rfl rfl
  obtain ⟨w4, hw4⟩ : ∃ W, w3.setCell ⟨q + 1, 0, none⟩ (.int .i64 x1) = W := ⟨_, rfl⟩
  replace RD := Lib.hid (show Rc w4 r E u v k1 from hw4 ▸ RD.out.other (by have := FR.out.rq; omega) _ _)
  replace FR := Lib.hid (show Fg r w w4 q [.cells #[.int .i64 0, .int .i64 0, .int .i64 0, .int .i64 0] 40, .cells #[.int .i64 x1, .int .i64 0, .int .i64 0, .int .i64 0] 40] from hw4 ▸ FR.out.set 1 0 rfl rfl (.int .i64 x1))
  have c00 : w4.cell? ⟨q, 0, none⟩ = some (.int .i64 0) := FR.out.cell 0 0 rfl rfl rfl
  have f00 : w4.frozen? ⟨q, 0, none⟩ = false := FR.out.frozen 0 0 rfl rfl
  have c01 : w4.cell? ⟨q, 1, none⟩ = some (.int .i64 0) := FR.out.cell 0 1 rfl rfl rfl
  have f01 : w4.frozen? ⟨q, 1, none⟩ = false := FR.out.frozen 0 1 rfl rfl
  have c02 : w4.cell? ⟨q, 2, none⟩ = some (.int .i64 0) := FR.out.cell 0 2 rfl rfl rfl
  have f02 : w4.frozen? ⟨q, 2, none⟩ = false := FR.out.frozen 0 2 rfl rfl
  have c03 : w4.cell? ⟨q, 3, none⟩ = some (.int .i64 0) := FR.out.cell 0 3 rfl rfl rfl
  have f03 : w4.frozen? ⟨q, 3, none⟩ = false := FR.out.frozen 0 3 rfl rfl
  have c10 : w4.cell? ⟨q + 1, 0, none⟩ = some (.int .i64 x1) := FR.out.cell 1 0 rfl rfl rfl
  have f10 : w4.frozen? ⟨q + 1, 0, none⟩ = false := FR.out.frozen 1 0 rfl rfl
  have c11 : w4.cell? ⟨q + 1, 1, none⟩ = some (.int .i64 0) := FR.out.cell 1 1 rfl rfl rfl
  have f11 : w4.frozen? ⟨q + 1, 1, none⟩ = false := FR.out.frozen 1 1 rfl rfl
  have c12 : w4.cell? ⟨q + 1, 2, none⟩ = some (.int .i64 0) := FR.out.cell 1 2 rfl rfl rfl
  have f12 : w4.frozen? ⟨q + 1, 2, none⟩ = false := FR.out.frozen 1 2 rfl rfl
  have c13 : w4.cell? ⟨q + 1, 3, none⟩ = some (.int .i64 0) := FR.out.cell 1 3 rfl rfl rfl
  have f13 : w4.frozen? ⟨q + 1, 3, none⟩ = false := FR.out.frozen 1 3 rfl rfl
  go_wp2_with fail
  refine (N2.out _ (HB.out.grownC HR.out FR.out.g) RD.out).mono ?_
  rintro e w5 ⟨rfl, hrd, hg⟩
  clear c00 f00 c01 f01 c02 f02 c03 f03 c10 f10 c11 f11 c12 f12 c13 f13
  replace FR := Lib.hid (FR.out.num hg)
  replace RD := Lib.hid hrd
  clear hrd hg
  have pc10 : w5.cell? ⟨q + 1, 0, none⟩ = some (.int .i64 x1) := FR.out.cell 1 0 rfl rfl rfl
  have pf10 : w5.frozen? ⟨q + 1, 0, none⟩ = false := FR.out.frozen 1 0 rfl rfl
  have pc11 : w5.cell? ⟨q + 1, 1, none⟩ = some (.int .i64 0) := FR.out.cell 1 1 rfl rfl rfl
  have pf11 : w5.frozen? ⟨q + 1, 1, none⟩ = false := FR.out.frozen 1 1 rfl rfl
  have pc12 : w5.cell? ⟨q + 1, 2, none⟩ = some (.int .i64 0) := FR.out.cell 1 2 rfl rfl rfl
  have pf12 : w5.frozen? ⟨q + 1, 2, none⟩ = false := FR.out.frozen 1 2 rfl rfl
  have pc13 : w5.cell? ⟨q + 1, 3, none⟩ = some (.int .i64 0) := FR.out.cell 1 3 rfl rfl rfl
  have pf13 : w5.frozen? ⟨q + 1, 3, none⟩ = false := FR.out.frozen 1 3 rfl rfl
  obtain ⟨w6, hw6⟩ : ∃ W, w5.setCell ⟨q + 1, 1, none⟩ (.int .i64 x2) = W := ⟨_, rfl⟩
  replace RD := Lib.hid (show Rc w6 r E u v k2 from hw6 ▸ RD.out.other (by have := FR.out.rq; omega) _ _)
  replace FR := Lib.hid (show Fg r w w6 q [.cells #[.int .i64 0, .int .i64 0, .int .i64 0, .int .i64 0] 40, .cells #[.int .i64 x1, .int .i64 x2, .int .i64 0, .int .i64 0] 40] from hw6 ▸ FR.out.set 1 1 rfl rfl (.int .i64 x2))
  have c00 : w6.cell? ⟨q, 0, none⟩ = some (.int .i64 0) := FR.out.cell 0 0 rfl rfl rfl
  have f00 : w6.frozen? ⟨q, 0, none⟩ = false := FR.out.frozen 0 0 rfl rfl
  have c01 : w6.cell? ⟨q, 1, none⟩ = some (.int .i64 0) := FR.out.cell 0 1 rfl rfl rfl
  have f01 : w6.frozen? ⟨q, 1, none⟩ = false := FR.out.frozen 0 1 rfl rfl
  have c02 : w6.cell? ⟨q, 2, none⟩ = some (.int .i64 0) := FR.out.cell 0 2 rfl rfl rfl
  have f02 : w6.frozen? ⟨q, 2, none⟩ = false := FR.out.frozen 0 2 rfl rfl
  have c03 : w6.cell? ⟨q, 3, none⟩ = some (.int .i64 0) := FR.out.cell 0 3 rfl rfl rfl
  have f03 : w6.frozen? ⟨q, 3, none⟩ = false := FR.out.frozen 0 3 rfl rfl
  have c10 : w6.cell? ⟨q + 1, 0, none⟩ = some (.int .i64 x1) := FR.out.cell 1 0 rfl rfl rfl
  have f10 : w6.frozen? ⟨q + 1, 0, none⟩ = false := FR.out.frozen 1 0 rfl rfl
  have c11 : w6.cell? ⟨q + 1, 1, none⟩ = some (.int .i64 x2) := FR.out.cell 1 1 rfl rfl rfl
  have f11 : w6.frozen? ⟨q + 1, 1, none⟩ = false := FR.out.frozen 1 1 rfl rfl
  have c12 : w6.cell? ⟨q + 1, 2, none⟩ = some (.int .i64 0) := FR.out.cell 1 2 rfl rfl rfl
  have f12 : w6.frozen? ⟨q + 1, 2, none⟩ = false := FR.out.frozen 1 2 rfl rfl
  have c13 : w6.cell? ⟨q + 1, 3, none⟩ = some (.int .i64 0) := FR.out.cell 1 3 rfl rfl rfl
  have f13 : w6.frozen? ⟨q + 1, 3, none⟩ = false := FR.out.frozen 1 3 rfl rfl
  go_wp2_with fail
  refine (N3.out _ (HB.out.grownC HR.out FR.out.g) RD.out).mono ?_
  rintro e w7 ⟨rfl, hrd, hg⟩
  clear c00 f00 c01 f01 c02 f02 c03 f03 c10 f10 c11 f11 c12 f12 c13 f13
  replace FR := Lib.hid (FR.out.num hg)
  replace RD := Lib.hid hrd
  clear hrd hg
  have pc10 : w7.cell? ⟨q + 1, 0, none⟩ = some (.int .i64 x1) := FR.out.cell 1 0 rfl rfl rfl
  have pf10 : w7.frozen? ⟨q + 1, 0, none⟩ = false := FR.out.frozen 1 0 rfl rfl
  have pc11 : w7.cell? ⟨q + 1, 1, none⟩ = some (.int .i64 x2) := FR.out.cell 1 1 rfl rfl rfl
  have pf11 : w7.frozen? ⟨q + 1, 1, none⟩ = false := FR.out.frozen 1 1 rfl rfl
  have pc12 : w7.cell? ⟨q + 1, 2, none⟩ = some (.int .i64 0) := FR.out.cell 1 2 rfl rfl rfl
  have pf12 : w7.frozen? ⟨q + 1, 2, none⟩ = false := FR.out.frozen 1 2 rfl rfl
  have pc13 : w7.cell? ⟨q + 1, 3, none⟩ = some (.int .i64 0) := FR.out.cell 1 3 rfl rfl rfl
  have pf13 : w7.frozen? ⟨q + 1, 3, none⟩ = false := FR.out.frozen 1 3 rfl rfl
  obtain ⟨w8, hw8⟩ : ∃ W, w7.setCell ⟨q + 1, 2, none⟩ (.int .i64 x3) = W := ⟨_, rfl⟩
  replace RD := Lib.hid (show Rc w8 r E u v k3 from hw8 ▸ RD.out.other (by have := FR.out.rq; omega) _ _)
  replace FR := Lib.hid (show Fg r w w8 q [.cells #[.int .i64 0, .int .i64 0, .int .i64 0, .int .i64 0] 40, .cells #[.int .i64 x1, .int .i64 x2, .int .i64 x3, .int .i64 0] 40] from hw8 ▸ FR.out.set 1 2 rfl rfl (.int .i64 x3))
  have c00 : w8.cell? ⟨q, 0, none⟩ = some (.int .i64 0) := FR.out.cell 0 0 rfl rfl rfl
  have f00 : w8.frozen? ⟨q, 0, none⟩ = false := FR.out.frozen 0 0 rfl rfl
  have c01 : w8.cell? ⟨q, 1, none⟩ = some (.int .i64 0) := FR.out.cell 0 1 rfl rfl rfl
  have f01 : w8.frozen? ⟨q, 1, none⟩ = false := FR.out.frozen 0 1 rfl rfl
  have c02 : w8.cell? ⟨q, 2, none⟩ = some (.int .i64 0) := FR.out.cell 0 2 rfl rfl rfl
  have f02 : w8.frozen? ⟨q, 2, none⟩ = false := FR.out.frozen 0 2 rfl rfl
  have c03 : w8.cell? ⟨q, 3, none⟩ = some (.int .i64 0) := FR.out.cell 0 3 rfl rfl rfl
  have f03 : w8.frozen? ⟨q, 3, none⟩ = false := FR.out.frozen 0 3 rfl rfl
  have c10 : w8.cell? ⟨q + 1, 0, none⟩ = some (.int .i64 x1) := FR.out.cell 1 0 rfl rfl rfl
  have f10 : w8.frozen? ⟨q + 1, 0, none⟩ = false := FR.out.frozen 1 0 rfl rfl
  have c11 : w8.cell? ⟨q + 1, 1, none⟩ = some (.int .i64 x2) := FR.out.cell 1 1 rfl rfl rfl
  have f11 : w8.frozen? ⟨q + 1, 1, none⟩ = false := FR.out.frozen 1 1 rfl rfl
  have c12 : w8.cell? ⟨q + 1, 2, none⟩ = some (.int .i64 x3) := FR.out.cell 1 2 rfl rfl rfl
  have f12 : w8.frozen? ⟨q + 1, 2, none⟩ = false := FR.out.frozen 1 2 rfl rfl
  have c13 : w8.cell? ⟨q + 1, 3, none⟩ = some (.int .i64 0) := FR.out.cell 1 3 rfl rfl rfl
  have f13 : w8.frozen? ⟨q + 1, 3, none⟩ = false := FR.out.frozen 1 3 rfl rfl
  go_wp2_with fail
  refine (N4.out _ (HB.out.grownC HR.out FR.out.g) RD.out).mono ?_
  rintro e w9 ⟨rfl, hg⟩
  exact ⟨rfl, rfl, grown_trans FR.out.g hg⟩
end Go.Proofs.Ytkoodhnfphmbnaa
