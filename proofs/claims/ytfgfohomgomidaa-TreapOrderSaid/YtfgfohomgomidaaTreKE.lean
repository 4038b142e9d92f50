/- What the landed treap's own calls that change a treap of their own (split, join, with, without, take, release) of layer 9 leave; for slices of up to 16384 nodes. -/
import Derived.Test.YtfgfohomgomidaaTreKD
namespace Go.Proofs.Ytfgfohomgomidaa
set_option linter.unusedVariables false
set_option linter.unusedSimpArgs false
open Go.RowKit
/-- only two blocks are turned. -/
structure Gp (p g : Nat) (w w' : World) : Prop where
  os : w'.os = w.os
  tape : w'.tape = w.tape
  output : w'.output = w.output
  size : w.heap.size ≤ w'.heap.size
  block : ∀ k : Nat, k < w.heap.size → k ≠ p → k ≠ g → w'.heap[k]? = w.heap[k]?
section
variable {p g : Nat} {w w' w2 : World}
theorem Gp.refl (p g : Nat) (w : World) : Gp p g w w := ⟨rfl, rfl, rfl, Nat.le_refl _, fun _ _ _ _ => rfl⟩
theorem Gp.trans (h : Gp p g w w') (k : Gp p g w' w2) : Gp p g w w2 := ⟨k.os.trans h.os, k.tape.trans h.tape, k.output.trans h.output, Nat.le_trans h.size k.size, fun i hi a b => (k.block i (Nat.lt_of_lt_of_le hi h.size) a b).trans (h.block i hi a b)⟩
theorem Gp.below (h : Below w.heap.size w w') : Gp p g w w' := ⟨h.os, h.tape, h.output, h.size, fun k hk _ _ => h.block k hk⟩
theorem Gp.drew (h : Gp p g w w') : Gp p g w w'.drew := ⟨h.os, h.tape, h.output, h.size, h.block⟩
theorem Gp.undrew (h : Gp p g w.drew w') : Gp p g w w' := ⟨h.os, h.tape, h.output, h.size, h.block⟩
theorem Gp.setg (h : Gp p g w w') (o : Nat) (v : Value) : Gp p g w (w'.setCell ⟨g, o, none⟩ v) :=
  h.trans ⟨rfl, rfl, rfl, by simp [World.setCell], fun k _ _ hg => Below.heap_setCell _ _ _ _ (by simpa using hg)⟩
theorem Gp.setp (h : Gp p g w w') (o : Nat) (v : Value) : Gp p g w (w'.setCell ⟨p, o, none⟩ v) :=
  h.trans ⟨rfl, rfl, rfl, by simp [World.setCell], fun k _ hp _ => Below.heap_setCell _ _ _ _ (by simpa using hp)⟩
theorem Fr.gp {w0 : World} {q : Nat} {L : List Obj} (h : Fr w0 w q L) (k : Gp p g w w') (hp : q + L.length ≤ p) (hg : q + L.length ≤ g) : Fr w0 w' q L := by
  have hz := h.sz
  refine ⟨fun i o hi => ?_, h.bel.trans ⟨k.os, k.tape, k.output, k.size, fun i hi => k.block i (by omega) (by omega) (by omega)⟩, Nat.le_trans h.sz k.size, h.q0⟩
  have h1 := h.blk i o hi
  have hl : i < L.length := (List.getElem?_eq_some_iff.1 hi).1
  rw [k.block (q + i) (blk_lt h1) (by omega) (by omega)]; exact h1
end
/-- a treap in a variable, whose nodes are a row of one's own. -/
structure Bx (w : World) (p g n d base : Nat) (rt fr : Int) (ns : List Nd) : Prop where
  box : w.heap[p]? = some (.cells #[.slice (some ⟨g, 0, none⟩) n d, .int .i64 rt, .int .i64 fr] 54)
  own : w.ownsRow base 52 6 (.slice (some ⟨g, 0, none⟩) n d) n (ndC ns)
section
variable {w w' : World} {p g n d base : Nat} {rt fr : Int} {ns : List Nd}
theorem Bx.ne (h : Bx w p g n d base rt fr ns) : g ≠ p := fun e => own_ne h.own h.box (by decide) (by rw [← e]; rfl)
theorem Bx.len (h : Bx w p g n d base rt fr ns) : ns.length = n := by have := h.own.1; rw [ndC_len] at this; omega
theorem Bx.c0 (h : Bx w p g n d base rt fr ns) : w.cell? ⟨p, 0, none⟩ = some (.slice (some ⟨g, 0, none⟩) n d) := (blk_cell h.box 0).trans rfl
theorem Bx.c1 (h : Bx w p g n d base rt fr ns) : w.cell? ⟨p, 1, none⟩ = some (.int .i64 rt) := (blk_cell h.box 1).trans rfl
theorem Bx.c2 (h : Bx w p g n d base rt fr ns) : w.cell? ⟨p, 2, none⟩ = some (.int .i64 fr) := (blk_cell h.box 2).trans rfl
theorem Bx.at (h : Bx w p g n d base rt fr ns) (i : Nat) (hi : i < n) : w.cell? ⟨g, i * 6, none⟩ = some (.int .i64 (ndAt ns i).k) ∧ w.cell? ⟨g, i * 6 + 1, none⟩ = some (.int .u32 (ndAt ns i).p) ∧ w.cell? ⟨g, i * 6 + 2, none⟩ = some (.int .i64 (ndAt ns i).l) ∧ w.cell? ⟨g, i * 6 + 3, none⟩ = some (.int .i64 (ndAt ns i).r) ∧ w.cell? ⟨g, i * 6 + 4, none⟩ = some (.int .i64 (ndAt ns i).h) ∧ w.cell? ⟨g, i * 6 + 5, none⟩ = some (.int .i64 (ndAt ns i).t) := by
  obtain ⟨h0, h1, h2, h3, h4, h5⟩ := ndC_at ns i (by have := h.len; omega)
  exact ⟨(h.own.cellAt (i * 6) (by omega)).trans h0, (h.own.cellAt (i * 6 + 1) (by omega)).trans h1, (h.own.cellAt (i * 6 + 2) (by omega)).trans h2, (h.own.cellAt (i * 6 + 3) (by omega)).trans h3, (h.own.cellAt (i * 6 + 4) (by omega)).trans h4, (h.own.cellAt (i * 6 + 5) (by omega)).trans h5⟩
theorem Bx.setL (h : Bx w p g n d base rt fr ns) (i : Nat) (hi : i < n) (x : Int) : Bx (w.setCell ⟨g, i * 6 + 2, none⟩ (.int .i64 x)) p g n d base rt fr (setL ns i x) :=
  ⟨(Below.heap_setCell _ ⟨g, i * 6 + 2, none⟩ _ p (Ne.symm h.ne)).trans h.box, by rw [ndC_l ns i x (by have := h.len; omega)]; exact (h.own.stored (i * 6 + 2) (.int .i64 x)).1⟩
theorem Bx.setR (h : Bx w p g n d base rt fr ns) (i : Nat) (hi : i < n) (x : Int) : Bx (w.setCell ⟨g, i * 6 + 3, none⟩ (.int .i64 x)) p g n d base rt fr (setR ns i x) :=
  ⟨(Below.heap_setCell _ ⟨g, i * 6 + 3, none⟩ _ p (Ne.symm h.ne)).trans h.box, by rw [ndC_r ns i x (by have := h.len; omega)]; exact (h.own.stored (i * 6 + 3) (.int .i64 x)).1⟩
theorem Bx.setN (h : Bx w p g n d base rt fr ns) (i : Nat) (hi : i < n) (x : Nd) : Bx ((((((w.setCell ⟨g, i * 6, none⟩ (.int .i64 x.k)).setCell ⟨g, i * 6 + 1, none⟩ (.int .u32 x.p)).setCell ⟨g, i * 6 + 2, none⟩ (.int .i64 x.l)).setCell ⟨g, i * 6 + 3, none⟩ (.int .i64 x.r)).setCell ⟨g, i * 6 + 4, none⟩ (.int .i64 x.h)).setCell ⟨g, i * 6 + 5, none⟩ (.int .i64 x.t)) p g n d base rt fr (ns.set i x) := by
  have hp := Ne.symm h.ne
  refine ⟨?_, ?_⟩
  · rw [Below.heap_setCell _ ⟨g, i * 6 + 5, none⟩ _ p hp, Below.heap_setCell _ ⟨g, i * 6 + 4, none⟩ _ p hp, Below.heap_setCell _ ⟨g, i * 6 + 3, none⟩ _ p hp, Below.heap_setCell _ ⟨g, i * 6 + 2, none⟩ _ p hp, Below.heap_setCell _ ⟨g, i * 6 + 1, none⟩ _ p hp, Below.heap_setCell _ ⟨g, i * 6, none⟩ _ p hp]; exact h.box
  · rw [ndC_set ns i x (by have := h.len; omega)]
    exact ((((((h.own.stored (i * 6) (.int .i64 x.k)).1.stored (i * 6 + 1) (.int .u32 x.p)).1.stored (i * 6 + 2) (.int .i64 x.l)).1.stored (i * 6 + 3) (.int .i64 x.r)).1.stored (i * 6 + 4) (.int .i64 x.h)).1.stored (i * 6 + 5) (.int .i64 x.t)).1
theorem Bx.setRt (h : Bx w p g n d base rt fr ns) (x : Int) : Bx (w.setCell ⟨p, 1, none⟩ (.int .i64 x)) p g n d base x fr ns := ⟨blk_set (j := 1) h.box (.int .i64 x), own_other h.own (own_ne h.own h.box (by decide))⟩
theorem Bx.setFr (h : Bx w p g n d base rt fr ns) (x : Int) : Bx (w.setCell ⟨p, 2, none⟩ (.int .i64 x)) p g n d base rt x ns := ⟨blk_set (j := 2) h.box (.int .i64 x), own_other h.own (own_ne h.own h.box (by decide))⟩
theorem Bx.below (h : Bx w p g n d base rt fr ns) (hb : Below w.heap.size w w') : Bx w' p g n d base rt fr ns := ⟨blk_below h.box hb (blk_lt h.box), own_below h.own hb⟩
theorem Bx.drew (h : Bx w p g n d base rt fr ns) : Bx w.drew p g n d base rt fr ns := h.below (Below.refl _ _).drew
end
def SplitPost (w : World) (p g n d base : Nat) (rt fr : Int) (ns : List Nd) (l : List Int) (key : Int) (e : Ending) (w' : World) : Prop :=
  ∃ ns' x y, SplitOk ns l key ns' x y ∧ e = .returned (.tuple #[.int .i64 x, .int .i64 y]) ∧ Bx w' p g n d base rt fr ns' ∧ Gp p g w w'
def JoinPost (w : World) (p g n d base : Nat) (rt fr : Int) (ns : List Nd) (l : List Int) (e : Ending) (w' : World) : Prop :=
  ∃ ns' x, JoinOk ns l ns' x ∧ e = .returned (.int .i64 x) ∧ Bx w' p g n d base rt fr ns' ∧ Gp p g w w'
def WithPost (w : World) (p g n d base : Nat) (rt fr : Int) (ns : List Nd) (l : List Int) (pl : Int) (e : Ending) (w' : World) : Prop :=
  ∃ ns' x, WithOk ns l pl ns' x ∧ e = .returned (.int .i64 x) ∧ Bx w' p g n d base rt fr ns' ∧ Gp p g w w'
def WithoutPost (w : World) (p g n d base : Nat) (rt fr : Int) (ns : List Nd) (l : List Int) (pl : Int) (e : Ending) (w' : World) : Prop :=
  ∃ ns' x, WithoutOk ns l pl ns' x ∧ e = .returned (.int .i64 x) ∧ Bx w' p g n d base rt fr ns' ∧ Gp p g w w'
set_option maxRecDepth 100000 in
set_option maxHeartbeats 8000000 in
theorem tpSplit_any (p g n d base : Nat) (rt fr : Int) (hn : n ≤ 16384) (key : Int) : ∀ (f : Nat) (ns : List Nd) (l : List Int) (i : Int) (w : World), l.length ≤ f → Bx w p g n d base rt fr ns → Tr ns i l → Rise ns l → (∀ x ∈ l, keyT ns x ≠ key) →
    Calls Try.prog 43 #[.pointer (some ⟨p, 0, none⟩), .int .i64 i, .int .i64 key] w (SplitPost w p g n d base rt fr ns l key) := by
  intro f
  induction f with
  | zero =>
    intro ns l i w hf hx ht hs hk
    have hl : l = [] := List.eq_nil_of_length_eq_zero (by omega)
    subst hl
    have hi := ht.nil_of rfl
    subst hi
    have HX := Lib.hid hx
    clear hx
    go_enter Try.func43, Try.ntmps43
    go_wp2
    go_ret2
    exact ⟨ns, -1, -1, split_nil ns key, rfl, HX.out, Gp.refl _ _ _⟩
  | succ f ih =>
    intro ns l i w hf hx ht hs hk
    by_cases hi : i = -1
    · subst hi
      have hl := ht.nil_root
      subst hl
      have HX := Lib.hid hx
      clear hx
      go_enter Try.func43, Try.ntmps43
      go_wp2
      go_ret2
      exact ⟨ns, -1, -1, split_nil ns key, rfl, HX.out, Gp.refl _ _ _⟩
    obtain ⟨a, b, rfl, h0, h1, ta, tb, pa, pb⟩ := ht.cases hi
    have hlen := hx.len
    obtain ⟨i, rfl⟩ : ∃ k : Nat, i = k := ⟨i.toNat, by omega⟩
    have i0 : (0 : Int) ≤ (i : Int) := h0
    have i1 : (i : Int) < (n : Int) := by omega
    have hin : i < n := by omega
    have b0 : ((i : Int) == -1) = false := by simp
    have c0 := hx.c0
    obtain ⟨k0, k1, k2, k3, k4, k5⟩ := hx.at i hin
    simp only [List.length_append, List.length_cons] at hf
    obtain ⟨s1, s2, s3, s4⟩ := rise_split hs
    have hki := hk i (by simp)
    clear k1 k4 k5
    by_cases hlt : (ndAt ns (i : Int)).k < key
    · have b1 : decide ((ndAt ns (i : Int)).k < key) = true := by simpa using hlt
      have HS := Lib.hid (fun ns' x y h => split_right (key := key) (ns' := ns') (x := x) (y := y) hs h0 h1 ta tb pa pb hlt h)
      have HC := Lib.hid (ih ns b (ndAt ns (i : Int)).r w (by omega) hx tb s4 (fun x hx => hk x (by simp [hx])))
      clear ih hx ht hs hk ta tb pa pb hi h0 h1 s1 s2 s3 s4 hki hlt hf hlen
      generalize ndAt ns (i : Int) = r at *
      go_enter Try.func43, Try.ntmps43
      go_wp2_with fail
      refine HC.out.mono ?_
      rintro e w1 ⟨ns1, x, y, hok, rfl, hbx, hg⟩
      have OK := Lib.hid (HS.out ns1 x y hok)
      have B2 := Lib.hid (hbx.setR i hin x)
      have G2 := Lib.hid (hg.setg (i * 6 + 3) (.int .i64 x))
      have ff := hbx.own.frozenAt (i * 6 + 3)
      have kk := (hbx.at i hin).2.2.2.1
      clear hbx hg hok HS HC c0 k0 k2 k3
      go_wp2
      go_ret2
      exact ⟨_, (i : Int), y, OK.out, rfl, B2.out, G2.out⟩
    · have b1 : decide ((ndAt ns (i : Int)).k < key) = false := by simpa using hlt
      have HS := Lib.hid (fun ns' x y h => split_left (key := key) (ns' := ns') (x := x) (y := y) hs h0 h1 ta tb pa pb (by have : (ndAt ns (i : Int)).k ≠ key := hki; omega) h)
      have HC := Lib.hid (ih ns a (ndAt ns (i : Int)).l w (by omega) hx ta s3 (fun x hx => hk x (by simp [hx])))
      clear ih hx ht hs hk ta tb pa pb hi h0 h1 s1 s2 s3 s4 hki hlt hf hlen
      generalize ndAt ns (i : Int) = r at *
      go_enter Try.func43, Try.ntmps43
      go_wp2_with fail
      refine HC.out.mono ?_
      rintro e w1 ⟨ns1, x, y, hok, rfl, hbx, hg⟩
      have OK := Lib.hid (HS.out ns1 x y hok)
      have B2 := Lib.hid (hbx.setL i hin y)
      have G2 := Lib.hid (hg.setg (i * 6 + 2) (.int .i64 y))
      have ff := hbx.own.frozenAt (i * 6 + 2)
      have kk := (hbx.at i hin).2.2.1
      clear hbx hg hok HS HC c0 k0 k2 k3
      go_wp2
      go_ret2
      exact ⟨_, x, (i : Int), OK.out, rfl, B2.out, G2.out⟩
theorem gpz {w : World} {p g n d base : Nat} {rt fr : Int} {ns : List Nd} (h : Bx w p g n d base rt fr ns) : g < w.heap.size := (h.own.lt g (by simp [Value.ownBlock])).2
set_option maxRecDepth 100000 in
set_option maxHeartbeats 8000000 in
theorem tpJoin_any (p g n d base : Nat) (rt fr : Int) (hn : n ≤ 16384) : ∀ (f : Nat) (ns : List Nd) (l m : List Int) (x y : Int) (w : World), l.length + m.length ≤ f → Bx w p g n d base rt fr ns → Tr ns x l → Tr ns y m → Rise ns (l ++ m) →
    Calls Try.prog 45 #[.pointer (some ⟨p, 0, none⟩), .int .i64 x, .int .i64 y] w (JoinPost w p g n d base rt fr ns (l ++ m)) := by
  intro f
  induction f with
  | zero =>
    intro ns l m x y w hf hx ht hu hs
    have hl : l = [] := List.eq_nil_of_length_eq_zero (by omega)
    have hm : m = [] := List.eq_nil_of_length_eq_zero (by omega)
    subst hl; subst hm
    have hi := ht.nil_of rfl
    have hj := hu.nil_of rfl
    subst hi; subst hj
    have HX := Lib.hid hx
    clear hx
    go_enter Try.func45, Try.ntmps45
    go_wp2
    go_ret
    exact ⟨ns, -1, ⟨Tr.nil, LRest.refl _ _⟩, rfl, HX.out, Gp.refl _ _ _⟩
  | succ f ih =>
    intro ns l m x y w hf hx ht hu hs
    by_cases hi : x = -1
    · subst hi
      have hl := ht.nil_root
      subst hl
      have HX := Lib.hid hx
      have HU := Lib.hid hu
      clear hx hu ht hs
      go_enter Try.func45, Try.ntmps45
      go_wp2
      go_ret
      exact ⟨ns, y, ⟨HU.out, LRest.refl _ _⟩, rfl, HX.out, Gp.refl _ _ _⟩
    by_cases hj : y = -1
    · subst hj
      have hm := hu.nil_root
      subst hm
      have HX := Lib.hid hx
      have HT := Lib.hid ht
      have b0 : (x == -1) = false := by simp [hi]
      clear hx hu ht hs hi
      go_enter Try.func45, Try.ntmps45
      go_wp2
      go_ret
      exact ⟨ns, x, ⟨by rw [List.append_nil]; exact HT.out, LRest.refl _ _⟩, rfl, HX.out, Gp.refl _ _ _⟩
    obtain ⟨a, b, rfl, h0, h1, ta, tb, pa, pb⟩ := ht.cases hi
    obtain ⟨a2, b2, rfl, h02, h12, ta2, tb2, pa2, pb2⟩ := hu.cases hj
    have hlen := hx.len
    obtain ⟨i, rfl⟩ : ∃ k : Nat, x = k := ⟨x.toNat, by omega⟩
    obtain ⟨j, rfl⟩ : ∃ k : Nat, y = k := ⟨y.toNat, by omega⟩
    have i0 : (0 : Int) ≤ (i : Int) := h0
    have i1 : (i : Int) < (n : Int) := by omega
    have j0 : (0 : Int) ≤ (j : Int) := h02
    have j1 : (j : Int) < (n : Int) := by omega
    have hin : i < n := by omega
    have hjn : j < n := by omega
    have b0 : ((i : Int) == -1) = false := by simp
    have b1 : ((j : Int) == -1) = false := by simp
    have HC0 := Lib.hid hx.c0
    have HX := Lib.hid hx
    simp only [List.length_append, List.length_cons] at hf
    have AB := fun (W : World) => tpAbove_any (ndAt ns (i : Int)) (ndAt ns (j : Int)) W
    have s1 : Rise ns (b ++ (a2 ++ (j : Int) :: b2)) := by have h := hs; rw [List.append_assoc, List.cons_append] at h; exact (List.pairwise_cons.1 (List.pairwise_append.1 h).2.1).2
    have s2 : Rise ns ((a ++ (i : Int) :: b) ++ a2) := by have h := hs; rw [← List.append_assoc] at h; exact (List.pairwise_append.1 h).1
    have KA := Lib.hid (hx.at i hin)
    have KB := Lib.hid (hx.at j hjn)
    cases hab : aboveN (ndAt ns (i : Int)) (ndAt ns (j : Int))
    · rw [hab] at AB
      replace AB := Lib.hid AB
      have HS := Lib.hid (fun ns' r h => join_right (ns' := ns') (r := r) hs h02 h12 tb2 pa2 pb2 ht hi hab h)
      have HC := Lib.hid (fun (W : World) (h : Bx W p g n d base rt fr ns) => ih ns (a ++ (i : Int) :: b) a2 (i : Int) (ndAt ns (j : Int)).l W (by simp; omega) h ht ta2 s2)
      clear ih hx ht hu hs ta tb pa pb ta2 tb2 pa2 pb2 hi hj h0 h1 h02 h12 hab s1 s2 hf hlen
      generalize ndAt ns (i : Int) = r at *
      generalize ndAt ns (j : Int) = r2 at *
      go_enter Try.func45, Try.ntmps45
      have c0 := HC0.out
      go_wp2
      refine wp_region_noPanic ?_
      refine wp_region_held_drew (S := (fun wv => Hid (Below w.heap.size w wv))) (by kernel_rfl) (Lib.hid (Below.refl _ w).drew) (fun hS => ?_)
      refine wpAnyH_take (i := 0) (oi := ⟨some 15, .move (.tmp 0), 70, "tree.go:182", #[], none⟩) (v := ?_) rfl (by kernel_rfl) (by kernel_rfl) (by kernel_rfl) (fun _ _ _ h => h) (Or.inl ⟨by rfl, ?_⟩) hS ?_
      rotate_left
      · intro wv _; go_simp; try with_reducible rfl
      try simp only [Act.put, List.setIfInBounds_toArray, List.set_cons_zero, List.set_cons_succ]
      refine wpAnyH_take (i := 1) (oi := ⟨some 16, .nilCheck (.tmp 15), 0, "tree.go:182", #[⟨0, .data⟩], none⟩) (v := ?_) rfl (by kernel_rfl) (by kernel_rfl) (by kernel_rfl) (fun _ _ _ h => h) (Or.inl ⟨by rfl, ?_⟩) hS ?_
      rotate_left
      · intro wv _; go_simp; try with_reducible rfl
      try simp only [Act.put, List.setIfInBounds_toArray, List.set_cons_zero, List.set_cons_succ]
      refine wpAnyH_take (i := 2) (oi := ⟨some 17, .fieldAddr 54 (.tmp 16) 0, 0, "tree.go:182", #[⟨1, .data⟩], none⟩) (v := ?_) rfl (by kernel_rfl) (by kernel_rfl) (by kernel_rfl) (fun _ _ _ h => h) (Or.inl ⟨by rfl, ?_⟩) hS ?_
      rotate_left
      · intro wv _; go_simp; try with_reducible rfl
      try simp only [Act.put, List.setIfInBounds_toArray, List.set_cons_zero, List.set_cons_succ]
      refine wpAnyH_take (i := 3) (oi := ⟨some 18, .fieldAddr 24 (.tmp 17) 0, 0, "tree.go:182", #[⟨2, .data⟩], none⟩) (v := ?_) rfl (by kernel_rfl) (by kernel_rfl) (by kernel_rfl) (fun _ _ _ h => h) (Or.inl ⟨by rfl, ?_⟩) hS ?_
      rotate_left
      · intro wv _; go_simp; try with_reducible rfl
      try simp only [Act.put, List.setIfInBounds_toArray, List.set_cons_zero, List.set_cons_succ]
      refine wpAnyH_take (i := 4) (oi := ⟨some 19, .load 22 (.tmp 18), 22, "tree.go:182", #[⟨3, .data⟩], none⟩) (v := ?_) rfl (by kernel_rfl) (by kernel_rfl) (by kernel_rfl) (fun _ _ _ h => h) (Or.inl ⟨by rfl, ?_⟩) hS ?_
      rotate_left
      · intro wv hS; have hrun := (hS.out.cell (p := ⟨p, 0, none⟩) (blk_lt HX.out.box)).trans HC0.out; go_simp; try with_reducible rfl
      try simp only [Act.put, List.setIfInBounds_toArray, List.set_cons_zero, List.set_cons_succ]
      refine wpAnyH_take (i := 5) (oi := ⟨some 20, .move (.tmp 1), 3, "tree.go:182", #[], none⟩) (v := ?_) rfl (by kernel_rfl) (by kernel_rfl) (by kernel_rfl) (fun _ _ _ h => h) (Or.inl ⟨by rfl, ?_⟩) hS ?_
      rotate_left
      · intro wv _; go_simp; try with_reducible rfl
      try simp only [Act.put, List.setIfInBounds_toArray, List.set_cons_zero, List.set_cons_succ]
      refine wpAnyH_take (i := 6) (oi := ⟨some 21, .indexAddr 22 (.tmp 19) (.tmp 20), 0, "tree.go:182", #[⟨4, .data⟩, ⟨5, .data⟩], none⟩) (v := ?_) rfl (by kernel_rfl) (by kernel_rfl) (by kernel_rfl) (fun _ _ _ h => h) (Or.inl ⟨by rfl, ?_⟩) hS ?_
      rotate_left
      · intro wv _; go_simp; try with_reducible rfl
      try simp only [Act.put, List.setIfInBounds_toArray, List.set_cons_zero, List.set_cons_succ]
      refine wpAnyH_take (i := 7) (oi := ⟨some 22, .move (.tmp 0), 70, "tree.go:182", #[⟨14, .gcOnly .lateStores⟩], none⟩) (v := ?_) rfl (by kernel_rfl) (by kernel_rfl) (by kernel_rfl) (fun _ _ _ h => h) (Or.inl ⟨by rfl, ?_⟩) hS ?_
      rotate_left
      · intro wv _; go_simp; try with_reducible rfl
      try simp only [Act.put, List.setIfInBounds_toArray, List.set_cons_zero, List.set_cons_succ]
      refine wpAnyH_take (i := 8) (oi := ⟨some 23, .nilCheck (.tmp 22), 0, "tree.go:182", #[⟨7, .data⟩, ⟨14, .gcOnly .lateStores⟩], none⟩) (v := ?_) rfl (by kernel_rfl) (by kernel_rfl) (by kernel_rfl) (fun _ _ _ h => h) (Or.inl ⟨by rfl, ?_⟩) hS ?_
      rotate_left
      · intro wv _; go_simp; try with_reducible rfl
      try simp only [Act.put, List.setIfInBounds_toArray, List.set_cons_zero, List.set_cons_succ]
      refine wpAnyH_take (i := 9) (oi := ⟨some 24, .fieldAddr 54 (.tmp 23) 0, 0, "tree.go:182", #[⟨8, .data⟩, ⟨14, .gcOnly .lateStores⟩], none⟩) (v := ?_) rfl (by kernel_rfl) (by kernel_rfl) (by kernel_rfl) (fun _ _ _ h => h) (Or.inl ⟨by rfl, ?_⟩) hS ?_
      rotate_left
      · intro wv _; go_simp; try with_reducible rfl
      try simp only [Act.put, List.setIfInBounds_toArray, List.set_cons_zero, List.set_cons_succ]
      refine wpAnyH_take (i := 10) (oi := ⟨some 25, .fieldAddr 24 (.tmp 24) 0, 0, "tree.go:182", #[⟨9, .data⟩, ⟨14, .gcOnly .lateStores⟩], none⟩) (v := ?_) rfl (by kernel_rfl) (by kernel_rfl) (by kernel_rfl) (fun _ _ _ h => h) (Or.inl ⟨by rfl, ?_⟩) hS ?_
      rotate_left
      · intro wv _; go_simp; try with_reducible rfl
      try simp only [Act.put, List.setIfInBounds_toArray, List.set_cons_zero, List.set_cons_succ]
      refine wpAnyH_take (i := 11) (oi := ⟨some 26, .load 22 (.tmp 25), 22, "tree.go:182", #[⟨10, .data⟩, ⟨14, .gcOnly .lateStores⟩], none⟩) (v := ?_) rfl (by kernel_rfl) (by kernel_rfl) (by kernel_rfl) (fun _ _ _ h => h) (Or.inl ⟨by rfl, ?_⟩) hS ?_
      rotate_left
      · intro wv hS; have hrun := (hS.out.cell (p := ⟨p, 0, none⟩) (blk_lt HX.out.box)).trans HC0.out; go_simp; try with_reducible rfl
      try simp only [Act.put, List.setIfInBounds_toArray, List.set_cons_zero, List.set_cons_succ]
      refine wpAnyH_take (i := 12) (oi := ⟨some 27, .move (.tmp 2), 3, "tree.go:182", #[⟨14, .gcOnly .lateStores⟩], none⟩) (v := ?_) rfl (by kernel_rfl) (by kernel_rfl) (by kernel_rfl) (fun _ _ _ h => h) (Or.inl ⟨by rfl, ?_⟩) hS ?_
      rotate_left
      · intro wv _; go_simp; try with_reducible rfl
      try simp only [Act.put, List.setIfInBounds_toArray, List.set_cons_zero, List.set_cons_succ]
      refine wpAnyH_take (i := 13) (oi := ⟨some 28, .indexAddr 22 (.tmp 26) (.tmp 27), 0, "tree.go:182", #[⟨11, .data⟩, ⟨12, .data⟩, ⟨14, .gcOnly .lateStores⟩], none⟩) (v := ?_) rfl (by kernel_rfl) (by kernel_rfl) (by kernel_rfl) (fun _ _ _ h => h) (Or.inl ⟨by rfl, ?_⟩) hS ?_
      rotate_left
      · intro wv _; go_simp; try with_reducible rfl
      try simp only [Act.put, List.setIfInBounds_toArray, List.set_cons_zero, List.set_cons_succ]
      refine wpAnyH_take (i := 14) (oi := ⟨some 7, .assign (.tmp 21), 71, "tree.go:182", #[⟨6, .data⟩, ⟨0, .phase⟩, ⟨1, .phase⟩, ⟨2, .phase⟩, ⟨3, .phase⟩, ⟨4, .phase⟩, ⟨5, .phase⟩, ⟨6, .phase⟩, ⟨7, .textOnly .lateStores⟩, ⟨8, .textOnly .lateStores⟩, ⟨9, .textOnly .lateStores⟩, ⟨10, .textOnly .lateStores⟩, ⟨11, .textOnly .lateStores⟩, ⟨12, .textOnly .lateStores⟩, ⟨13, .textOnly .lateStores⟩], none⟩) (v := ?_) rfl (by kernel_rfl) (by kernel_rfl) (by kernel_rfl) (fun _ _ _ h => h) (Or.inl ⟨by rfl, ?_⟩) hS ?_
      rotate_left
      · intro wv _; go_simp; try with_reducible rfl
      try simp only [Act.put, List.setIfInBounds_toArray, List.set_cons_zero, List.set_cons_succ]
      refine wpAnyH_take (i := 15) (oi := ⟨some 8, .assign (.tmp 28), 71, "tree.go:182", #[⟨13, .data⟩, ⟨14, .chain⟩, ⟨0, .phase⟩, ⟨1, .phase⟩, ⟨2, .phase⟩, ⟨3, .phase⟩, ⟨4, .phase⟩, ⟨5, .phase⟩, ⟨6, .phase⟩, ⟨7, .phase⟩, ⟨8, .phase⟩, ⟨9, .phase⟩, ⟨10, .phase⟩, ⟨11, .phase⟩, ⟨12, .phase⟩, ⟨13, .phase⟩, ⟨14, .phase⟩], none⟩) (v := ?_) rfl (by kernel_rfl) (by kernel_rfl) (by kernel_rfl) (fun _ _ _ h => h) (Or.inl ⟨by rfl, ?_⟩) hS ?_
      rotate_left
      · intro wv _; go_simp; try with_reducible rfl
      try simp only [Act.put, List.setIfInBounds_toArray, List.set_cons_zero, List.set_cons_succ]
      refine wpAnyH_done (by kernel_rfl) ?_ _
      refine NoPanic.normal ?_
      go_wp2
      refine wp_region_noPanic ?_
      refine wp_region_held_drew (S := (fun wv => Hid (Below w.heap.size w wv))) (by kernel_rfl) (Lib.hid hS.out.drew) (fun hS => ?_)
      refine wpAnyH_take (i := 0) (oi := ⟨some 29, .move (.tmp 7), 71, "tree.go:183", #[], none⟩) (v := ?_) rfl (by kernel_rfl) (by kernel_rfl) (by kernel_rfl) (fun _ _ _ h => h) (Or.inl ⟨by rfl, ?_⟩) hS ?_
      rotate_left
      · intro wv _; go_simp; try with_reducible rfl
      try simp only [Act.put, List.setIfInBounds_toArray, List.set_cons_zero, List.set_cons_succ]
      refine wpAnyH_take (i := 1) (oi := ⟨some 30, .nilCheck (.tmp 29), 0, "tree.go:183", #[⟨0, .data⟩], none⟩) (v := ?_) rfl (by kernel_rfl) (by kernel_rfl) (by kernel_rfl) (fun _ _ _ h => h) (Or.inl ⟨by rfl, ?_⟩) hS ?_
      rotate_left
      · intro wv _; go_simp; try with_reducible rfl
      try simp only [Act.put, List.setIfInBounds_toArray, List.set_cons_zero, List.set_cons_succ]
      refine wpAnyH_take (i := 2) (oi := ⟨some 31, .load 52 (.tmp 30), 52, "tree.go:183", #[⟨1, .data⟩], none⟩) (v := .agg (([.int .i64 r.k, .int .u32 r.p, .int .i64 r.l, .int .i64 r.r, .int .i64 r.h, .int .i64 r.t] : List Value)).toArray) rfl (by kernel_rfl) (by kernel_rfl) (by kernel_rfl) (fun _ _ _ h => h) (yieldsIf_load_mid (by rfl) _ _ (by rfl) (g) (i * 6) (by rfl) (([.int .i64 r.k, .int .u32 r.p, .int .i64 r.l, .int .i64 r.r, .int .i64 r.h, .int .i64 r.t] : List Value)) _ (fun wv hS => nd_range (hS.out.cell (p := ⟨g, i * 6, none⟩) (gpz HX.out) |>.trans KA.out.1) (hS.out.cell (p := ⟨g, i * 6 + 1, none⟩) (gpz HX.out) |>.trans KA.out.2.1) (hS.out.cell (p := ⟨g, i * 6 + 2, none⟩) (gpz HX.out) |>.trans KA.out.2.2.1) (hS.out.cell (p := ⟨g, i * 6 + 3, none⟩) (gpz HX.out) |>.trans KA.out.2.2.2.1) (hS.out.cell (p := ⟨g, i * 6 + 4, none⟩) (gpz HX.out) |>.trans KA.out.2.2.2.2.1) (hS.out.cell (p := ⟨g, i * 6 + 5, none⟩) (gpz HX.out) |>.trans KA.out.2.2.2.2.2)) Try.underlying52 (by rfl) (by kernel_rfl)) hS ?_
      try simp only [Act.put, List.setIfInBounds_toArray, List.set_cons_zero, List.set_cons_succ]
      refine wpAnyH_take (i := 3) (oi := ⟨some 32, .move (.tmp 8), 71, "tree.go:183", #[], none⟩) (v := ?_) rfl (by kernel_rfl) (by kernel_rfl) (by kernel_rfl) (fun _ _ _ h => h) (Or.inl ⟨by rfl, ?_⟩) hS ?_
      rotate_left
      · intro wv _; go_simp; try with_reducible rfl
      try simp only [Act.put, List.setIfInBounds_toArray, List.set_cons_zero, List.set_cons_succ]
      refine wpAnyH_take (i := 4) (oi := ⟨some 33, .nilCheck (.tmp 32), 0, "tree.go:183", #[⟨3, .data⟩], none⟩) (v := ?_) rfl (by kernel_rfl) (by kernel_rfl) (by kernel_rfl) (fun _ _ _ h => h) (Or.inl ⟨by rfl, ?_⟩) hS ?_
      rotate_left
      · intro wv _; go_simp; try with_reducible rfl
      try simp only [Act.put, List.setIfInBounds_toArray, List.set_cons_zero, List.set_cons_succ]
      refine wpAnyH_take (i := 5) (oi := ⟨some 34, .load 52 (.tmp 33), 52, "tree.go:183", #[⟨4, .data⟩], none⟩) (v := .agg (([.int .i64 r2.k, .int .u32 r2.p, .int .i64 r2.l, .int .i64 r2.r, .int .i64 r2.h, .int .i64 r2.t] : List Value)).toArray) rfl (by kernel_rfl) (by kernel_rfl) (by kernel_rfl) (fun _ _ _ h => h) (yieldsIf_load_mid (by rfl) _ _ (by rfl) (g) (j * 6) (by rfl) (([.int .i64 r2.k, .int .u32 r2.p, .int .i64 r2.l, .int .i64 r2.r, .int .i64 r2.h, .int .i64 r2.t] : List Value)) _ (fun wv hS => nd_range (hS.out.cell (p := ⟨g, j * 6, none⟩) (gpz HX.out) |>.trans KB.out.1) (hS.out.cell (p := ⟨g, j * 6 + 1, none⟩) (gpz HX.out) |>.trans KB.out.2.1) (hS.out.cell (p := ⟨g, j * 6 + 2, none⟩) (gpz HX.out) |>.trans KB.out.2.2.1) (hS.out.cell (p := ⟨g, j * 6 + 3, none⟩) (gpz HX.out) |>.trans KB.out.2.2.2.1) (hS.out.cell (p := ⟨g, j * 6 + 4, none⟩) (gpz HX.out) |>.trans KB.out.2.2.2.2.1) (hS.out.cell (p := ⟨g, j * 6 + 5, none⟩) (gpz HX.out) |>.trans KB.out.2.2.2.2.2)) Try.underlying52 (by rfl) (by kernel_rfl)) hS ?_
      try simp only [Act.put, List.setIfInBounds_toArray, List.set_cons_zero, List.set_cons_succ]
      refine wpAnyH_ready (rs := [6]) (by kernel_rfl) (by simp) (AllReadyH.cons (o := ⟨some 35, .call { callee := .value (.func 42), args := #[.tmp 31, .tmp 34], argTypes := #[52, 52] }, 4, "tree.go:183", #[⟨2, .data⟩, ⟨5, .data⟩], none⟩) rfl (fun K hK => ?_) AllReadyH.nil)
      go_simp
      refine (AB.out _).mono ?_; rintro e wa ⟨rfl, hb⟩
      replace hS := Lib.hid (hS.out.trans (hb.mono hS.out.size))
      clear hb
      go_wp2_with fail
      refine Shut.out hK _ _ hS (fun _ => ?_)
      clear hK K
      try simp only [Act.put, List.setIfInBounds_toArray, List.set_cons_zero, List.set_cons_succ]
      refine wpAnyH_done (by kernel_rfl) ?_ _
      refine NoPanic.normal ?_
      have G1 := Lib.hid (Gp.below (p := p) (g := g) hS.out)
      have HC2 := Lib.hid (HC.out _ (HX.out.below hS.out))
      have kl := (hS.out.cell (p := ⟨g, j * 6 + 2, none⟩) (gpz HX.out)).trans KB.out.2.2.1
      clear c0 HC KA KB hS HC0
      go_wp2_with fail
      refine HC2.out.mono ?_
      rintro e w1 ⟨ns1, x1, hok, rfl, hbx, hg⟩
      have OK := Lib.hid (HS.out ns1 x1 hok)
      have B2 := Lib.hid (hbx.setL j hjn x1)
      have G2 := Lib.hid ((G1.out.trans hg).setg (j * 6 + 2) (.int .i64 x1))
      have ff := hbx.own.frozenAt (j * 6 + 2)
      have kk := (hbx.at j hjn).2.2.1
      clear hbx hg hok HS HC2 kl
      go_wp2
      go_ret
      exact ⟨_, (j : Int), OK.out, rfl, B2.out, G2.out⟩
    · rw [hab] at AB
      replace AB := Lib.hid AB
      have HS := Lib.hid (fun ns' r h => join_left (ns' := ns') (r := r) hs h0 h1 ta pa pb hu hj hab h)
      have HC := Lib.hid (fun (W : World) (h : Bx W p g n d base rt fr ns) => ih ns b (a2 ++ (j : Int) :: b2) (ndAt ns (i : Int)).r (j : Int) W (by simp; omega) h tb hu s1)
      clear ih hx ht hu hs ta tb pa pb ta2 tb2 pa2 pb2 hi hj h0 h1 h02 h12 hab s1 s2 hf hlen
      generalize ndAt ns (i : Int) = r at *
      generalize ndAt ns (j : Int) = r2 at *
      go_enter Try.func45, Try.ntmps45
      have c0 := HC0.out
      go_wp2
      refine wp_region_noPanic ?_
      refine wp_region_held_drew (S := (fun wv => Hid (Below w.heap.size w wv))) (by kernel_rfl) (Lib.hid (Below.refl _ w).drew) (fun hS => ?_)
      refine wpAnyH_take (i := 0) (oi := ⟨some 15, .move (.tmp 0), 70, "tree.go:182", #[], none⟩) (v := ?_) rfl (by kernel_rfl) (by kernel_rfl) (by kernel_rfl) (fun _ _ _ h => h) (Or.inl ⟨by rfl, ?_⟩) hS ?_
      rotate_left
      · intro wv _; go_simp; try with_reducible rfl
      try simp only [Act.put, List.setIfInBounds_toArray, List.set_cons_zero, List.set_cons_succ]
      refine wpAnyH_take (i := 1) (oi := ⟨some 16, .nilCheck (.tmp 15), 0, "tree.go:182", #[⟨0, .data⟩], none⟩) (v := ?_) rfl (by kernel_rfl) (by kernel_rfl) (by kernel_rfl) (fun _ _ _ h => h) (Or.inl ⟨by rfl, ?_⟩) hS ?_
      rotate_left
      · intro wv _; go_simp; try with_reducible rfl
      try simp only [Act.put, List.setIfInBounds_toArray, List.set_cons_zero, List.set_cons_succ]
      refine wpAnyH_take (i := 2) (oi := ⟨some 17, .fieldAddr 54 (.tmp 16) 0, 0, "tree.go:182", #[⟨1, .data⟩], none⟩) (v := ?_) rfl (by kernel_rfl) (by kernel_rfl) (by kernel_rfl) (fun _ _ _ h => h) (Or.inl ⟨by rfl, ?_⟩) hS ?_
      rotate_left
      · intro wv _; go_simp; try with_reducible rfl
      try simp only [Act.put, List.setIfInBounds_toArray, List.set_cons_zero, List.set_cons_succ]
      refine wpAnyH_take (i := 3) (oi := ⟨some 18, .fieldAddr 24 (.tmp 17) 0, 0, "tree.go:182", #[⟨2, .data⟩], none⟩) (v := ?_) rfl (by kernel_rfl) (by kernel_rfl) (by kernel_rfl) (fun _ _ _ h => h) (Or.inl ⟨by rfl, ?_⟩) hS ?_
      rotate_left
      · intro wv _; go_simp; try with_reducible rfl
      try simp only [Act.put, List.setIfInBounds_toArray, List.set_cons_zero, List.set_cons_succ]
      refine wpAnyH_take (i := 4) (oi := ⟨some 19, .load 22 (.tmp 18), 22, "tree.go:182", #[⟨3, .data⟩], none⟩) (v := ?_) rfl (by kernel_rfl) (by kernel_rfl) (by kernel_rfl) (fun _ _ _ h => h) (Or.inl ⟨by rfl, ?_⟩) hS ?_
      rotate_left
      · intro wv hS; have hrun := (hS.out.cell (p := ⟨p, 0, none⟩) (blk_lt HX.out.box)).trans HC0.out; go_simp; try with_reducible rfl
      try simp only [Act.put, List.setIfInBounds_toArray, List.set_cons_zero, List.set_cons_succ]
      refine wpAnyH_take (i := 5) (oi := ⟨some 20, .move (.tmp 1), 3, "tree.go:182", #[], none⟩) (v := ?_) rfl (by kernel_rfl) (by kernel_rfl) (by kernel_rfl) (fun _ _ _ h => h) (Or.inl ⟨by rfl, ?_⟩) hS ?_
      rotate_left
      · intro wv _; go_simp; try with_reducible rfl
      try simp only [Act.put, List.setIfInBounds_toArray, List.set_cons_zero, List.set_cons_succ]
      refine wpAnyH_take (i := 6) (oi := ⟨some 21, .indexAddr 22 (.tmp 19) (.tmp 20), 0, "tree.go:182", #[⟨4, .data⟩, ⟨5, .data⟩], none⟩) (v := ?_) rfl (by kernel_rfl) (by kernel_rfl) (by kernel_rfl) (fun _ _ _ h => h) (Or.inl ⟨by rfl, ?_⟩) hS ?_
      rotate_left
      · intro wv _; go_simp; try with_reducible rfl
      try simp only [Act.put, List.setIfInBounds_toArray, List.set_cons_zero, List.set_cons_succ]
      refine wpAnyH_take (i := 7) (oi := ⟨some 22, .move (.tmp 0), 70, "tree.go:182", #[⟨14, .gcOnly .lateStores⟩], none⟩) (v := ?_) rfl (by kernel_rfl) (by kernel_rfl) (by kernel_rfl) (fun _ _ _ h => h) (Or.inl ⟨by rfl, ?_⟩) hS ?_
      rotate_left
      · intro wv _; go_simp; try with_reducible rfl
      try simp only [Act.put, List.setIfInBounds_toArray, List.set_cons_zero, List.set_cons_succ]
      refine wpAnyH_take (i := 8) (oi := ⟨some 23, .nilCheck (.tmp 22), 0, "tree.go:182", #[⟨7, .data⟩, ⟨14, .gcOnly .lateStores⟩], none⟩) (v := ?_) rfl (by kernel_rfl) (by kernel_rfl) (by kernel_rfl) (fun _ _ _ h => h) (Or.inl ⟨by rfl, ?_⟩) hS ?_
      rotate_left
      · intro wv _; go_simp; try with_reducible rfl
      try simp only [Act.put, List.setIfInBounds_toArray, List.set_cons_zero, List.set_cons_succ]
      refine wpAnyH_take (i := 9) (oi := ⟨some 24, .fieldAddr 54 (.tmp 23) 0, 0, "tree.go:182", #[⟨8, .data⟩, ⟨14, .gcOnly .lateStores⟩], none⟩) (v := ?_) rfl (by kernel_rfl) (by kernel_rfl) (by kernel_rfl) (fun _ _ _ h => h) (Or.inl ⟨by rfl, ?_⟩) hS ?_
      rotate_left
      · intro wv _; go_simp; try with_reducible rfl
      try simp only [Act.put, List.setIfInBounds_toArray, List.set_cons_zero, List.set_cons_succ]
      refine wpAnyH_take (i := 10) (oi := ⟨some 25, .fieldAddr 24 (.tmp 24) 0, 0, "tree.go:182", #[⟨9, .data⟩, ⟨14, .gcOnly .lateStores⟩], none⟩) (v := ?_) rfl (by kernel_rfl) (by kernel_rfl) (by kernel_rfl) (fun _ _ _ h => h) (Or.inl ⟨by rfl, ?_⟩) hS ?_
      rotate_left
      · intro wv _; go_simp; try with_reducible rfl
      try simp only [Act.put, List.setIfInBounds_toArray, List.set_cons_zero, List.set_cons_succ]
      refine wpAnyH_take (i := 11) (oi := ⟨some 26, .load 22 (.tmp 25), 22, "tree.go:182", #[⟨10, .data⟩, ⟨14, .gcOnly .lateStores⟩], none⟩) (v := ?_) rfl (by kernel_rfl) (by kernel_rfl) (by kernel_rfl) (fun _ _ _ h => h) (Or.inl ⟨by rfl, ?_⟩) hS ?_
      rotate_left
      · intro wv hS; have hrun := (hS.out.cell (p := ⟨p, 0, none⟩) (blk_lt HX.out.box)).trans HC0.out; go_simp; try with_reducible rfl
      try simp only [Act.put, List.setIfInBounds_toArray, List.set_cons_zero, List.set_cons_succ]
      refine wpAnyH_take (i := 12) (oi := ⟨some 27, .move (.tmp 2), 3, "tree.go:182", #[⟨14, .gcOnly .lateStores⟩], none⟩) (v := ?_) rfl (by kernel_rfl) (by kernel_rfl) (by kernel_rfl) (fun _ _ _ h => h) (Or.inl ⟨by rfl, ?_⟩) hS ?_
      rotate_left
      · intro wv _; go_simp; try with_reducible rfl
      try simp only [Act.put, List.setIfInBounds_toArray, List.set_cons_zero, List.set_cons_succ]
      refine wpAnyH_take (i := 13) (oi := ⟨some 28, .indexAddr 22 (.tmp 26) (.tmp 27), 0, "tree.go:182", #[⟨11, .data⟩, ⟨12, .data⟩, ⟨14, .gcOnly .lateStores⟩], none⟩) (v := ?_) rfl (by kernel_rfl) (by kernel_rfl) (by kernel_rfl) (fun _ _ _ h => h) (Or.inl ⟨by rfl, ?_⟩) hS ?_
      rotate_left
      · intro wv _; go_simp; try with_reducible rfl
      try simp only [Act.put, List.setIfInBounds_toArray, List.set_cons_zero, List.set_cons_succ]
      refine wpAnyH_take (i := 14) (oi := ⟨some 7, .assign (.tmp 21), 71, "tree.go:182", #[⟨6, .data⟩, ⟨0, .phase⟩, ⟨1, .phase⟩, ⟨2, .phase⟩, ⟨3, .phase⟩, ⟨4, .phase⟩, ⟨5, .phase⟩, ⟨6, .phase⟩, ⟨7, .textOnly .lateStores⟩, ⟨8, .textOnly .lateStores⟩, ⟨9, .textOnly .lateStores⟩, ⟨10, .textOnly .lateStores⟩, ⟨11, .textOnly .lateStores⟩, ⟨12, .textOnly .lateStores⟩, ⟨13, .textOnly .lateStores⟩], none⟩) (v := ?_) rfl (by kernel_rfl) (by kernel_rfl) (by kernel_rfl) (fun _ _ _ h => h) (Or.inl ⟨by rfl, ?_⟩) hS ?_
      rotate_left
      · intro wv _; go_simp; try with_reducible rfl
      try simp only [Act.put, List.setIfInBounds_toArray, List.set_cons_zero, List.set_cons_succ]
      refine wpAnyH_take (i := 15) (oi := ⟨some 8, .assign (.tmp 28), 71, "tree.go:182", #[⟨13, .data⟩, ⟨14, .chain⟩, ⟨0, .phase⟩, ⟨1, .phase⟩, ⟨2, .phase⟩, ⟨3, .phase⟩, ⟨4, .phase⟩, ⟨5, .phase⟩, ⟨6, .phase⟩, ⟨7, .phase⟩, ⟨8, .phase⟩, ⟨9, .phase⟩, ⟨10, .phase⟩, ⟨11, .phase⟩, ⟨12, .phase⟩, ⟨13, .phase⟩, ⟨14, .phase⟩], none⟩) (v := ?_) rfl (by kernel_rfl) (by kernel_rfl) (by kernel_rfl) (fun _ _ _ h => h) (Or.inl ⟨by rfl, ?_⟩) hS ?_
      rotate_left
      · intro wv _; go_simp; try with_reducible rfl
      try simp only [Act.put, List.setIfInBounds_toArray, List.set_cons_zero, List.set_cons_succ]
      refine wpAnyH_done (by kernel_rfl) ?_ _
      refine NoPanic.normal ?_
      go_wp2
      refine wp_region_noPanic ?_
      refine wp_region_held_drew (S := (fun wv => Hid (Below w.heap.size w wv))) (by kernel_rfl) (Lib.hid hS.out.drew) (fun hS => ?_)
      refine wpAnyH_take (i := 0) (oi := ⟨some 29, .move (.tmp 7), 71, "tree.go:183", #[], none⟩) (v := ?_) rfl (by kernel_rfl) (by kernel_rfl) (by kernel_rfl) (fun _ _ _ h => h) (Or.inl ⟨by rfl, ?_⟩) hS ?_
      rotate_left
      · intro wv _; go_simp; try with_reducible rfl
      try simp only [Act.put, List.setIfInBounds_toArray, List.set_cons_zero, List.set_cons_succ]
      refine wpAnyH_take (i := 1) (oi := ⟨some 30, .nilCheck (.tmp 29), 0, "tree.go:183", #[⟨0, .data⟩], none⟩) (v := ?_) rfl (by kernel_rfl) (by kernel_rfl) (by kernel_rfl) (fun _ _ _ h => h) (Or.inl ⟨by rfl, ?_⟩) hS ?_
      rotate_left
      · intro wv _; go_simp; try with_reducible rfl
      try simp only [Act.put, List.setIfInBounds_toArray, List.set_cons_zero, List.set_cons_succ]
      refine wpAnyH_take (i := 2) (oi := ⟨some 31, .load 52 (.tmp 30), 52, "tree.go:183", #[⟨1, .data⟩], none⟩) (v := .agg (([.int .i64 r.k, .int .u32 r.p, .int .i64 r.l, .int .i64 r.r, .int .i64 r.h, .int .i64 r.t] : List Value)).toArray) rfl (by kernel_rfl) (by kernel_rfl) (by kernel_rfl) (fun _ _ _ h => h) (yieldsIf_load_mid (by rfl) _ _ (by rfl) (g) (i * 6) (by rfl) (([.int .i64 r.k, .int .u32 r.p, .int .i64 r.l, .int .i64 r.r, .int .i64 r.h, .int .i64 r.t] : List Value)) _ (fun wv hS => nd_range (hS.out.cell (p := ⟨g, i * 6, none⟩) (gpz HX.out) |>.trans KA.out.1) (hS.out.cell (p := ⟨g, i * 6 + 1, none⟩) (gpz HX.out) |>.trans KA.out.2.1) (hS.out.cell (p := ⟨g, i * 6 + 2, none⟩) (gpz HX.out) |>.trans KA.out.2.2.1) (hS.out.cell (p := ⟨g, i * 6 + 3, none⟩) (gpz HX.out) |>.trans KA.out.2.2.2.1) (hS.out.cell (p := ⟨g, i * 6 + 4, none⟩) (gpz HX.out) |>.trans KA.out.2.2.2.2.1) (hS.out.cell (p := ⟨g, i * 6 + 5, none⟩) (gpz HX.out) |>.trans KA.out.2.2.2.2.2)) Try.underlying52 (by rfl) (by kernel_rfl)) hS ?_
      try simp only [Act.put, List.setIfInBounds_toArray, List.set_cons_zero, List.set_cons_succ]
      refine wpAnyH_take (i := 3) (oi := ⟨some 32, .move (.tmp 8), 71, "tree.go:183", #[], none⟩) (v := ?_) rfl (by kernel_rfl) (by kernel_rfl) (by kernel_rfl) (fun _ _ _ h => h) (Or.inl ⟨by rfl, ?_⟩) hS ?_
      rotate_left
      · intro wv _; go_simp; try with_reducible rfl
      try simp only [Act.put, List.setIfInBounds_toArray, List.set_cons_zero, List.set_cons_succ]
      refine wpAnyH_take (i := 4) (oi := ⟨some 33, .nilCheck (.tmp 32), 0, "tree.go:183", #[⟨3, .data⟩], none⟩) (v := ?_) rfl (by kernel_rfl) (by kernel_rfl) (by kernel_rfl) (fun _ _ _ h => h) (Or.inl ⟨by rfl, ?_⟩) hS ?_
      rotate_left
      · intro wv _; go_simp; try with_reducible rfl
      try simp only [Act.put, List.setIfInBounds_toArray, List.set_cons_zero, List.set_cons_succ]
      refine wpAnyH_take (i := 5) (oi := ⟨some 34, .load 52 (.tmp 33), 52, "tree.go:183", #[⟨4, .data⟩], none⟩) (v := .agg (([.int .i64 r2.k, .int .u32 r2.p, .int .i64 r2.l, .int .i64 r2.r, .int .i64 r2.h, .int .i64 r2.t] : List Value)).toArray) rfl (by kernel_rfl) (by kernel_rfl) (by kernel_rfl) (fun _ _ _ h => h) (yieldsIf_load_mid (by rfl) _ _ (by rfl) (g) (j * 6) (by rfl) (([.int .i64 r2.k, .int .u32 r2.p, .int .i64 r2.l, .int .i64 r2.r, .int .i64 r2.h, .int .i64 r2.t] : List Value)) _ (fun wv hS => nd_range (hS.out.cell (p := ⟨g, j * 6, none⟩) (gpz HX.out) |>.trans KB.out.1) (hS.out.cell (p := ⟨g, j * 6 + 1, none⟩) (gpz HX.out) |>.trans KB.out.2.1) (hS.out.cell (p := ⟨g, j * 6 + 2, none⟩) (gpz HX.out) |>.trans KB.out.2.2.1) (hS.out.cell (p := ⟨g, j * 6 + 3, none⟩) (gpz HX.out) |>.trans KB.out.2.2.2.1) (hS.out.cell (p := ⟨g, j * 6 + 4, none⟩) (gpz HX.out) |>.trans KB.out.2.2.2.2.1) (hS.out.cell (p := ⟨g, j * 6 + 5, none⟩) (gpz HX.out) |>.trans KB.out.2.2.2.2.2)) Try.underlying52 (by rfl) (by kernel_rfl)) hS ?_
      try simp only [Act.put, List.setIfInBounds_toArray, List.set_cons_zero, List.set_cons_succ]
      refine wpAnyH_ready (rs := [6]) (by kernel_rfl) (by simp) (AllReadyH.cons (o := ⟨some 35, .call { callee := .value (.func 42), args := #[.tmp 31, .tmp 34], argTypes := #[52, 52] }, 4, "tree.go:183", #[⟨2, .data⟩, ⟨5, .data⟩], none⟩) rfl (fun K hK => ?_) AllReadyH.nil)
      go_simp
      refine (AB.out _).mono ?_; rintro e wa ⟨rfl, hb⟩
      replace hS := Lib.hid (hS.out.trans (hb.mono hS.out.size))
      clear hb
      go_wp2_with fail
      refine Shut.out hK _ _ hS (fun _ => ?_)
      clear hK K
      try simp only [Act.put, List.setIfInBounds_toArray, List.set_cons_zero, List.set_cons_succ]
      refine wpAnyH_done (by kernel_rfl) ?_ _
      refine NoPanic.normal ?_
      have G1 := Lib.hid (Gp.below (p := p) (g := g) hS.out)
      have HC2 := Lib.hid (HC.out _ (HX.out.below hS.out))
      have kl := (hS.out.cell (p := ⟨g, i * 6 + 3, none⟩) (gpz HX.out)).trans KA.out.2.2.2.1
      clear c0 HC KA KB hS HC0
      go_wp2_with fail
      refine HC2.out.mono ?_
      rintro e w1 ⟨ns1, x1, hok, rfl, hbx, hg⟩
      have OK := Lib.hid (HS.out ns1 x1 hok)
      have B2 := Lib.hid (hbx.setR i hin x1)
      have G2 := Lib.hid ((G1.out.trans hg).setg (i * 6 + 3) (.int .i64 x1))
      have ff := hbx.own.frozenAt (i * 6 + 3)
      have kk := (hbx.at i hin).2.2.2.1
      clear hbx hg hok HS HC2 kl
      go_wp2
      go_ret
      exact ⟨_, (i : Int), OK.out, rfl, B2.out, G2.out⟩
end Go.Proofs.Ytfgfohomgomidaa
