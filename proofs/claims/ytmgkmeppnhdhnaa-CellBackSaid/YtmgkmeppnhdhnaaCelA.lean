/- Layer 14: cells: what the document's words come to; words as cells of memory; what Words and the document's own Load answer; for lists of up to 16384. -/
import Derived.Test.YtmgkmeppnhdhnaaAreG
import Derived.Test.YtmgkmeppnhdhnaaFr
namespace Go.Proofs.Ytmgkmeppnhdhnaa
set_option linter.unusedVariables false
set_option linter.unusedSimpArgs false
open Go.RowKit
/-- words as cells. -/
def U64s (ws : List Nat) : List Value := ws.map fun v : Nat => .int .u64 (v : Int)
theorem U64s_one (ws : List Nat) : ∀ u ∈ U64s ws, u.oneCell' = true := by
  intro u hu
  obtain ⟨v, _, rfl⟩ := List.mem_map.1 hu
  rfl
theorem U64s_app (a b : List Nat) : U64s (a ++ b) = U64s a ++ U64s b := List.map_append
theorem U64s_len (a : List Nat) : (U64s a).length = a.length := List.length_map _
/-- the slice '.slice A n c' reads as the words ws. -/
def Ws (w : World) (A : Option Addr) (n c : Nat) (ws : List Nat) : Prop := Es w A n c 1 (U64s ws)
theorem Ws.len {w : World} {A : Option Addr} {n c : Nat} {ws : List Nat} (h : Ws w A n c ws) : ws.length = n := by
  have := Es.len h; rw [U64s_len] at this; omega
theorem Ws.look {w : World} {A : Option Addr} {n c : Nat} {ws : List Nat} (h : Ws w A n c ws) (i : Nat) (hi : i < n) :
    ∃ b off x, A = some ⟨b, off, none⟩ ∧ b < w.heap.size ∧ w.cell? ⟨b, off + i, none⟩ = some (.int .u64 ((x : Nat) : Int)) ∧ ws.drop i = x :: ws.drop (i + 1) := by
  obtain ⟨b, off, e, hb, hc⟩ := Es.mem h (by omega)
  have hl : i < ws.length := by have := h.len; omega
  refine ⟨b, off, ws[i], e, hb, hc i _ ?_, drop_at hl⟩
  unfold U64s
  rw [List.getElem?_map, List.getElem?_eq_getElem hl]
  rfl
def M64_ : Nat := 18446744073709551616
def isC (ws : List Nat) (i : Int) : Prop := 0 ≤ i ∧ i < (ws.length : Int)
instance (ws : List Nat) (i : Int) : Decidable (isC ws i) := by unfold isC; infer_instance
def loadC (ws : List Nat) (i : Int) : Nat × Bool := if isC ws i then (ws.getD i.toNat 0, true) else (0, false)
def storeC (ws : List Nat) (i : Int) (x : Nat) : List Nat × Bool := if isC ws i then (ws.set i.toNat x, true) else ([], false)
def swapC (ws : List Nat) (i : Int) (old x : Nat) : List Nat × Bool × Bool := if isC ws i then (if ws.getD i.toNat 0 = old then (ws.set i.toNat x, true, true) else (ws, false, true)) else ([], false, false)
def moreC (ws : List Nat) (i : Int) (by_ : Nat) : List Nat × Nat × Bool := if isC ws i then (ws.set i.toNat ((ws.getD i.toNat 0 + by_) % M64_), (ws.getD i.toNat 0 + by_) % M64_, true) else ([], 0, false)
def LdP (w : World) (r : Nat × Bool) (e : Ending) (w' : World) : Prop := e = .returned (.tuple #[.int .u64 (r.1 : Int), .bool r.2]) ∧ Below w.heap.size w w'
def StP (w : World) (r : List Nat × Bool) (e : Ending) (w' : World) : Prop := ∃ A n c, e = .returned (.tuple #[.slice A n c, .bool r.2]) ∧ Ws w' A n c r.1 ∧ Below w.heap.size w w'
def SwP (w : World) (r : List Nat × Bool × Bool) (e : Ending) (w' : World) : Prop := ∃ A n c, e = .returned (.tuple #[.slice A n c, .bool r.2.1, .bool r.2.2]) ∧ Ws w' A n c r.1 ∧ Below w.heap.size w w'
def MoP (w : World) (r : List Nat × Nat × Bool) (e : Ending) (w' : World) : Prop := ∃ A n c, e = .returned (.tuple #[.slice A n c, .int .u64 (r.2.1 : Int), .bool r.2.2]) ∧ Ws w' A n c r.1 ∧ Below w.heap.size w w'
def YesW (w : World) (b : Bool) (e : Ending) (w' : World) : Prop := e = .returned (.bool b) ∧ Below w.heap.size w w'
theorem Ws.at {w : World} {A : Option Addr} {n c : Nat} {ws : List Nat} (h : Ws w A n c ws) (i : Nat) (hi : i < n) : ∃ b off, A = some ⟨b, off, none⟩ ∧ b < w.heap.size ∧ w.cell? ⟨b, off + i, none⟩ = some (.int .u64 ((ws.getD i 0 : Nat) : Int)) := by
  obtain ⟨b, off, x, e, hb, hc, hd⟩ := h.look i hi
  refine ⟨b, off, e, hb, ?_⟩
  have hl : i < ws.length := by have := h.len; omega
  rw [List.drop_eq_getElem_cons hl] at hd
  injection hd with h1 h2
  rw [List.getD_eq_getElem?_getD, List.getElem?_eq_getElem hl]
  show _ = some (Value.int .u64 ((ws[i] : Nat) : Int))
  rw [h1]; exact hc
theorem info64_ : (Try.prog.info? 23).map (fun i => (i.zero, i.size, i.bytes)) = some (some (.int .u64 0), 1, 8) := by kernel_rfl
theorem szWs (W : World) : (sizeOf (Try.prog.elem 22)).run Try.prog W = .ok 1 W := by kernel_rfl
theorem unWs : Try.prog.underlying 22 = some (.slice (Try.prog.elem 22)) := by kernel_rfl
theorem app_ws (W : World) (base : Nat) (v : Value) (n : Nat) (T : List Nat) (hown : W.ownsRow base 23 1 v n (U64s T)) (A : Option Addr) (m c : Nat) (xs : List Nat) (h : Ws W A m c xs) (hn : n + m ≤ 40000) (hb : base ≤ W.heap.size) :
    ∃ A' c' w', (Builtin.append_ #[22, 22] 22 #[v, .slice A m c]).run Try.prog W = .ok (.slice A' (n + m) c') w' ∧ w'.ownsRow base 23 1 (.slice A' (n + m) c') (n + m) (U64s (T ++ xs)) ∧ W.grownBy w' v.ownBlock := by
  obtain ⟨i5, hi5, hz0, hz1, hz2⟩ := info_of info64_
  obtain ⟨v', w', hr, h2, h3, h4⟩ := eapp_own (P := Try.prog) W base 22 22 23 i5 _ 1 _ Try.underlying22 hi5 hz0 hz1 hz2 rfl (by decide) v n _ hown A m c _ h (by unfold maxLen; omega) (by omega) hb
  rw [← U64s_app] at h2
  obtain ⟨A', c', rfl, hb'⟩ := Es.of_own h2 (U64s_one _)
  exact ⟨A', c', w', hr, h2, h3⟩
theorem lit_ws (W : World) {base : Nat} (hb : base ≤ W.heap.size) : (W.alloc (.cells #[] 23)).ownsRow base 23 1 (.slice (some ⟨W.heap.size, 0, none⟩) 0 0) 0 (U64s []) := World.ownsRow_lit W #[] 0 hb (by unfold maxLen; omega) (by simp)
theorem ws_blk {w : World} {b x : Nat} (h : w.heap[b]? = some (.cells #[.int .u64 (x : Int)] 23)) : Ws w (some ⟨b, 0, none⟩) 1 1 [x] := by
  refine ⟨rfl, Nat.le_refl _, U64s_one _, fun _ => ⟨b, 0, rfl, blk_lt h, fun j v hj => ?_⟩⟩
  rw [Nat.zero_add, blk_cell h]; simpa [U64s] using hj
theorem ws_own {w : World} {base n d : Nat} {B : Option Addr} {l : List Nat} (h : w.ownsRow base 23 1 (.slice B n d) n (U64s l)) : Ws w B n d l := by
  obtain ⟨B', d', he, hrs⟩ := Es.of_own h (U64s_one _)
  injection he with he1 he2 he3; subst he1; subst he3; exact hrs
theorem wrap_more {v y z : Nat} (hz : (v + y) % M64_ = z) : IntKind.u64.wrap ((v : Int) + (y : Int)) = (z : Int) := by
  have e1 : IntKind.u64.wrap ((v : Int) + (y : Int)) = ((v : Int) + (y : Int)) % 18446744073709551616 := by simp [IntKind.wrap, IntKind.bits, IntKind.signed]
  rw [e1, ← hz]; unfold M64_; omega
theorem set_three {l : List Nat} {k x : Nat} (hk : k < l.length) : l.take k ++ [x] ++ l.drop (k + 1) = l.set k x := by
  rw [List.set_eq_take_append_cons_drop, if_pos hk]; simp
theorem wsl_take {P : Program} {w : World} {A : Option Addr} {n c : Nat} {xs : List Nat} (h : Ws w A n c xs) (t : TypeId) (ht : P.underlying t = some (.slice (P.elem t)))
    (hsz : ∀ W : World, (sizeOf (P.elem t)).run P W = .ok 1 W) (g : Int) (m : Nat) (hg : g = (m : Nat)) (hm : m ≤ n) :
    ∃ A2 c2, (∀ W : World, (Instr.slice t (.slice A n c) none (some (.int .i64 g)) none).run P W = .ok (.slice A2 m c2) W) ∧ Ws w A2 m c2 (xs.take m) := by
  have hcap := Es.cap h
  have hlen := h.len
  refine ⟨if c = 0 then A else A.map (·.add (0 * 1)), c - 0, fun W => ?_, ?_⟩
  · rw [run_slice_h W t A n c ht .i64 g (by omega) (by omega), hsz]
    have e2 : g.toNat - 0 = m := by omega
    simp only [Result.andThen, sliced, e2]
  · refine ⟨?_, by omega, U64s_one _, fun hm0 => ?_⟩
    · rw [U64s_len, List.length_take]; omega
    · obtain ⟨b, off, rfl, hb, hc⟩ := Es.mem h (by omega)
      rw [if_neg (by omega)]
      refine ⟨b, off, by simp [add_plain], hb, fun j u hj => hc j u ?_⟩
      have hjl : j < m := by
        rcases Nat.lt_or_ge j m with h1 | h1
        · exact h1
        · rw [List.getElem?_eq_none (by rw [U64s_len, List.length_take]; omega)] at hj; cases hj
      unfold U64s at hj ⊢
      rw [List.getElem?_map, List.getElem?_take, if_pos hjl] at hj
      rw [List.getElem?_map]; exact hj
theorem wsl_drop {P : Program} {w : World} {A : Option Addr} {n c : Nat} {xs : List Nat} (h : Ws w A n c xs) (t : TypeId) (ht : P.underlying t = some (.slice (P.elem t)))
    (hsz : ∀ W : World, (sizeOf (P.elem t)).run P W = .ok 1 W) (l : Int) (k : Nat) (hl : l = (k : Nat)) (hk : k ≤ n) :
    ∃ A2 c2, (∀ W : World, (Instr.slice t (.slice A n c) (some (.int .i64 l)) none none).run P W = .ok (.slice A2 (n - k) c2) W) ∧ Ws w A2 (n - k) c2 (xs.drop k) := by
  have hcap := Es.cap h
  have hlen := h.len
  refine ⟨if c = k then A else A.map (·.add (k * 1)), c - k, fun W => ?_, ?_⟩
  · rw [run_slice_l W t A n c ht .i64 l (by omega) (by omega), hsz]
    have e1 : l.toNat = k := by omega
    simp only [Result.andThen, sliced, e1]
  · refine ⟨?_, by omega, U64s_one _, fun hm0 => ?_⟩
    · rw [U64s_len, List.length_drop]; omega
    · obtain ⟨b, off, rfl, hb, hc⟩ := Es.mem h (by omega)
      rw [if_neg (by omega)]
      refine ⟨b, off + k, by simp [add_plain], hb, fun j u hj => ?_⟩
      rw [Nat.add_assoc]
      refine hc (k + j) u ?_
      unfold U64s at hj ⊢
      rw [List.getElem?_map, List.getElem?_drop] at hj
      rw [List.getElem?_map]; exact hj
set_option maxRecDepth 100000 in
set_option maxHeartbeats 4000000 in
theorem refWords14_any (A : Option Addr) (n c : Nat) (xs : List Nat) (B : Option Addr) (m d : Nat) (ys : List Nat) (w : World) (hx : Ws w A n c xs) (hy : Ws w B m d ys) (hn : n ≤ 16384) :
    Calls Try.prog 14 #[.slice A n c, .slice B m d] w fun e w' => e = .returned (.bool (decide (xs = ys))) ∧ Below w.heap.size w w' := by
  have HX := Lib.hid hx; have HY := Lib.hid hy
  obtain ⟨R, hR⟩ : ∃ R, decide (xs = ys) = R := ⟨_, rfl⟩
  rw [hR]
  have HR := Lib.hid hR
  clear hx hy hR
  by_cases hl : n = m
  · subst hl
    go_enter Try.func14, Try.ntmps14
    go_wp2
    go_loopw [5] (fun iv wr => ∃ (i : Nat), i ≤ n ∧ iv = .int .i64 (i : Int) ∧ Below w.heap.size w wr ∧ Hid (xs.take i = ys.take i)) (fun iv _ => n - (intOf iv).toNat)
    case atStart => exact ⟨0, by omega, rfl, Below.refl _ _, by simp [Hid]⟩
    case round =>
      obtain ⟨i, hi, rfl, hbl, hd⟩ := hrel
      have HBl := Lib.hid hbl; have HD := Lib.hid hd
      clear hbl hd
      by_cases hlt : i < n
      · have hd1 : decide ((i : Int) < (n : Int)) = true := by simpa using hlt
        obtain ⟨b, off, s, rfl, hb0, hc0, hdr⟩ := HX.out.look i hlt
        obtain ⟨b', off', s', rfl, hb0', hc0', hdr'⟩ := HY.out.look i hlt
        have h0 := (HBl.out.cell (p := ⟨_, _, none⟩) hb0).trans hc0
        have h0' := (HBl.out.cell (p := ⟨_, _, none⟩) hb0').trans hc0'
        have HDr := Lib.hid hdr; have HDr' := Lib.hid hdr'
        have hib1 : (0 : Int) ≤ (i : Int) := by omega
        have hib2 : (i : Int) < (n : Int) := by omega
        clear hb0 hc0 hdr hb0' hc0' hdr'
        have hfin : ∀ nq, Below w.heap.size w (wr.drewN nq) := fun nq => ⟨HBl.out.os, HBl.out.tape, HBl.out.output, HBl.out.size, HBl.out.block⟩
        have HF := Lib.hid hfin
        clear hfin
        by_cases ht : s = s'
        · subst ht
          have hne : ((s : Int) != (s : Int)) = false := by simp
          have HE := Lib.hid (show xs.take (i + 1) = ys.take (i + 1) by rw [take_step HDr.out, take_step HDr'.out, HD.out.out])
          go_wp2
          go_quiet (fail)
          go_wp2
          go_roundw
          case rel => exact ⟨i + 1, by omega, by go_num, HF.out _, HE.out⟩
          case measure => simp [intOf]; omega
        · have hne : ((s : Int) != (s' : Int)) = true := by simp; omega
          have HE := Lib.hid (show R = false by rw [← HR.out]; simp only [decide_eq_false_iff_not]; exact unlike_at HDr.out HDr'.out ht)
          clear ht
          go_wp2
          go_quiet (fail)
          go_wp2
          go_ret
          rw [HE.out]
          exact ⟨rfl, HF.out _⟩
      · obtain rfl : i = n := by omega
        have hd1 : decide ((i : Int) < (i : Int)) = false := by simp
        have HE := Lib.hid (show R = true by
          rw [← HR.out]
          have h1 := HX.out.len; have h2 := HY.out.len
          have h3 := HD.out.out
          rw [List.take_of_length_le (by omega), List.take_of_length_le (by omega)] at h3
          exact decide_eq_true h3)
        go_wp2
        go_ret
        rw [HE.out]
        exact ⟨rfl, HBl.out⟩
  · have HE := Lib.hid (show R = false by
      rw [← HR.out]
      have h1 := HX.out.len; have h2 := HY.out.len
      exact decide_eq_false fun h => hl (by rw [← h1, ← h2, h]))
    have hne : ((n : Int) != (m : Int)) = true := by simp; omega
    go_enter Try.func14, Try.ntmps14
    go_wp2
    go_ret
    rw [HE.out]
    exact ⟨rfl, Below.refl _ _⟩
set_option maxRecDepth 100000 in
set_option maxHeartbeats 8000000 in
theorem refLoad14_any (A : Option Addr) (n c : Nat) (ws : List Nat) (i : Int) (w : World) (hx : Ws w A n c ws) :
    Calls Try.prog 7 #[.slice A n c, .int .i64 i] w (LdP w (loadC ws i)) := by
  have hlen : ws.length = n := hx.len
  obtain ⟨R, hR⟩ : ∃ R, loadC ws i = R := ⟨_, rfl⟩
  rw [hR]
  by_cases h1 : i < 0
  · have b0 : decide (i < 0) = true := by simpa using h1
    have HE := Lib.hid (show R = (0, false) from by rw [← hR]; unfold loadC; rw [if_neg (by unfold isC; omega)])
    clear hR hlen hx
    go_enter Try.func7, Try.ntmps7
    go_wp2
    go_ret2
    rw [HE.out]
    exact ⟨rfl, Below.refl _ _⟩
  · have b0 : decide (i < 0) = false := by simpa using h1
    by_cases h2 : (n : Int) ≤ i
    · have b1 : decide ((n : Int) ≤ i) = true := by simpa using h2
      have HE := Lib.hid (show R = (0, false) from by rw [← hR]; unfold loadC; rw [if_neg (by unfold isC; omega)])
      clear hR hlen hx
      go_enter Try.func7, Try.ntmps7
      go_wp2
      go_ret2
      rw [HE.out]
      exact ⟨rfl, Below.refl _ _⟩
    · have b1 : decide ((n : Int) ≤ i) = false := by simpa using h2
      obtain ⟨k, rfl⟩ : ∃ k : Nat, i = k := ⟨i.toNat, by omega⟩
      have hk : k < n := by omega
      obtain ⟨b, off, rfl, hb0, k0⟩ := hx.at k hk
      have i0 : (0 : Int) ≤ (k : Int) := by omega
      have i1 : (k : Int) < (n : Int) := by omega
      have HE := Lib.hid (show R = (ws.getD k 0, true) from by rw [← hR]; unfold loadC; rw [if_pos (by unfold isC; omega), Int.toNat_natCast])
      clear hR hlen hx hb0 h1 h2
      generalize ws.getD k 0 = v at *
      go_enter Try.func7, Try.ntmps7
      go_wp2
      go_ret2
      rw [HE.out]
      exact ⟨rfl, Below.refl _ _⟩
end Go.Proofs.Ytmgkmeppnhdhnaa
