/- What the document's own Read of layer 13 answers; for slices of up to 16384 bytes. -/
import Derived.Test.YtkoodhnfphmbnaaCodF
import Derived.Test.YtkoodhnfphmbnaaLate
import Derived.Maps.AppendAt
namespace Go.Proofs.Ytkoodhnfphmbnaa
set_option linter.unusedVariables false
set_option linter.unusedSimpArgs false
open Go.RowKit
/-- a program of the call's own, a place, and what was wrong. -/
def ReadC (w : World) (r : Pg × Int × Int) (e : Ending) (w' : World) : Prop :=
  ∃ A n c B m d C k f, e = .returned (.tuple #[.agg #[.slice A n c, .slice B m d, .slice C k f, .int .i64 r.1.cells, .int .i64 r.1.recs, .int .i64 r.1.pat], .int .i64 r.2.1, .int .i64 r.2.2]) ∧
    w'.ownsRow w.heap.size 40 4 (.slice A n c) n (insC r.1.code) ∧ w'.ownsRow w.heap.size 3 1 (.slice B m d) m (intC r.1.kinds) ∧ w'.ownsRow w.heap.size 3 1 (.slice C k f) k (intC r.1.sizes) ∧ Below w.heap.size w w'
/-- a variable, and two rows of numbers, each in memory of its own. -/
structure KS (wm w : World) (sp : Nat) (cs : List Value) (C K S : Value) (nc nk ns : Nat) (xc : List I4) (xk xs : List Int) : Prop where
  c : w.ownsRow (sp + 1) 40 4 C nc (insC xc)
  p : w.heap[sp]? = some (.cells cs.toArray 25)
  k : w.ownsRow (sp + 1) 3 1 K nk (intC xk)
  s : w.ownsRow (sp + 1) 3 1 S ns (intC xs)
  ne : ∀ g, K.ownBlock = some g → S.ownBlock ≠ some g
  be : Below sp wm w
/-- a literal of one number, beside them. -/
structure Li (w : World) (sp : Nat) (K S : Value) (b : Nat) (x : Int) : Prop where
  h : w.heap[b]? = some (.cells #[.int .i64 x] 3)
  lt : sp < b
  k : K.ownBlock ≠ some b
  s : S.ownBlock ≠ some b
section
variable {wm w : World} {sp : Nat} {cs : List Value} {C K S : Value} {nc nk ns : Nat} {xc : List I4} {xk xs : List Int}
theorem KS.apart (h : w.ownsRow (sp + 1) 40 4 C nc (insC xc)) {n : Nat} {l : List Int} (hk : w.ownsRow (sp + 1) 3 1 K n (intC l)) : C.ownBlock = none ∨ C.ownBlock ≠ K.ownBlock := by
  cases hc : C.ownBlock with
  | none => exact Or.inl rfl
  | some g =>
    refine Or.inr (fun e => ?_)
    rcases h.2 with ⟨rfl, _⟩ | ⟨g2, cap, cur, rfl, _, hg, _⟩
    · simp [Value.ownBlock] at hc
    · simp [Value.ownBlock] at hc
      subst hc
      exact own_ne hk hg (by decide) e.symm
theorem KS.lit (h : KS wm w sp cs C K S nc nk ns xc xk xs) (x : Int) : KS wm (w.alloc (.cells #[.int .i64 x] 3)) sp cs C K S nc nk ns xc xk xs ∧ Li (w.alloc (.cells #[.int .i64 x] 3)) sp K S w.heap.size x := by
  have hlt := blk_lt h.p
  refine ⟨⟨h.c.alloc _, (heap_alloc_old _ _ hlt).trans h.p, h.k.alloc _, h.s.alloc _, h.ne, h.be.alloc (by omega) _⟩, ⟨heap_alloc_new _ _, hlt, fun e => ?_, fun e => ?_⟩⟩
  · have := (h.k.lt _ e).2; omega
  · have := (h.s.lt _ e).2; omega
theorem KS.two {c0 c1 c2 c3 c4 c5 : Value} (h : KS wm w sp [c0, c1, c2, c3, c4, c5] C K S nc nk ns xc xk xs) : Hid (w.cell? ⟨sp, 1, none⟩ = some c1 ∧ w.cell? ⟨sp, 2, none⟩ = some c2) := Lib.hid ⟨(blk_cell h.p 1).trans rfl, (blk_cell h.p 2).trans rfl⟩
theorem KS.drew (h : KS wm w sp cs C K S nc nk ns xc xk xs) : KS wm w.drew sp cs C K S nc nk ns xc xk xs := ⟨⟨h.c.1, h.c.2⟩, h.p, ⟨h.k.1, h.k.2⟩, ⟨h.s.1, h.s.2⟩, h.ne, h.be.drew⟩
theorem Li.alloc {b : Nat} {x : Int} (l : Li w sp K S b x) (o : Obj) : Li (w.alloc o) sp K S b x := ⟨(heap_alloc_old _ _ (blk_lt l.h)).trans l.h, l.lt, l.k, l.s⟩
theorem ks_app {w : World} {base : Nat} {v : Value} {n : Nat} {l : List Int} (ho : w.ownsRow base 3 1 v n (intC l)) {b : Nat} {x : Int} (hb : w.heap[b]? = some (.cells #[.int .i64 x] 3)) (hn : n ≤ 100000) (hbase : base ≤ w.heap.size) :
    ∃ B d w', (∀ ty, (Builtin.append_ #[23, 23] ty #[v, .slice (some ⟨b, 0, none⟩) 1 1]).run Try.prog w = .ok (.slice B (n + 1) d) w') ∧ w'.ownsRow base 3 1 (.slice B (n + 1) d) (n + 1) (intC (l ++ [x])) ∧ w.grownBy w' v.ownBlock ∧ ((Value.slice B (n + 1) d).ownBlock = v.ownBlock ∨ (Value.slice B (n + 1) d).ownBlock = some w.heap.size) := by
  obtain ⟨i5, hi5, hz0, hz1, hz2⟩ := info_of infoInt
  have hc := blk_cell hb 0
  obtain ⟨v', w', hr, h2, h3, _, h5⟩ := run_append_own_at (P := Try.prog) w base 23 23 3 i5 _ 1 8 Try.underlying23 hi5 hz0 hz1 hz2 rfl (by decide) v n _ ho ⟨b, 0, none⟩ 1 1 [.int .i64 x] rfl (fun j u hu => by
    match j, hu with
    | 0, hu => simp at hu; subst hu; rw [add_plain]; exact hc
    | j + 1, hu => simp at hu) (by intro u hu; simp at hu; subst hu; rfl) (by unfold maxLen; omega) (by omega) hbase
  have h2' : w'.ownsRow base 3 1 v' (n + 1) (intC (l ++ [x])) := by rw [intC_app]; exact h2
  obtain ⟨B, d, rfl, _⟩ := Es.of_own h2' (intC_one _)
  exact ⟨B, d, w', fun _ => hr, h2', h3, h5⟩
theorem KS.appK (h : KS wm w sp cs C K S nc nk ns xc xk xs) {b : Nat} {x : Int} (l : Li w sp K S b x) (hn : nk ≤ 100000) :
    ∃ B d w', (∀ ty, (Builtin.append_ #[23, 23] ty #[K, .slice (some ⟨b, 0, none⟩) 1 1]).run Try.prog w = .ok (.slice B (nk + 1) d) w') ∧ KS wm w' sp cs C (.slice B (nk + 1) d) S nc (nk + 1) ns xc (xk ++ [x]) xs ∧ ∀ b2 y, Li w sp K S b2 y → Li w' sp (.slice B (nk + 1) d) S b2 y := by
  have hlt := blk_lt h.p
  obtain ⟨B, d, w', hr, h2, h3, h5⟩ := ks_app h.k l.h hn hlt
  have hk : ∀ g, K.ownBlock = some g → sp + 1 ≤ g := fun g e => (h.k.lt g e).1
  refine ⟨B, d, w', hr, ⟨h.c.kept h3 (KS.apart h.c h.k), blk_grown h.p h3 (fun g e => by have := hk g e; omega), h2, h.s.kept h3 (by
    cases hs : S.ownBlock with
    | none => exact Or.inl rfl
    | some g => exact Or.inr (fun e => h.ne g e.symm hs)), fun g e => ?_, h.be.grown h3 (Nat.le_of_lt hlt) (fun g e => by have := hk g e; omega)⟩, fun b2 y l2 => ⟨blk_grown l2.h h3 (fun g e e2 => l2.k (by rw [e, e2])), l2.lt, fun e => ?_, l2.s⟩⟩
  · rcases h5 with h5 | h5
    · exact h.ne g (h5 ▸ e)
    · rw [h5] at e; injection e with e; intro e2; have := (h.s.lt g e2).2; omega
  · rcases h5 with h5 | h5
    · exact l2.k (h5 ▸ e)
    · rw [h5] at e; injection e with e; have := blk_lt l2.h; omega
theorem KS.appS (h : KS wm w sp cs C K S nc nk ns xc xk xs) {b : Nat} {x : Int} (l : Li w sp K S b x) (hn : ns ≤ 100000) :
    ∃ B d w', (∀ ty, (Builtin.append_ #[23, 23] ty #[S, .slice (some ⟨b, 0, none⟩) 1 1]).run Try.prog w = .ok (.slice B (ns + 1) d) w') ∧ KS wm w' sp cs C K (.slice B (ns + 1) d) nc nk (ns + 1) xc xk (xs ++ [x]) ∧ ∀ b2 y, Li w sp K S b2 y → Li w' sp K (.slice B (ns + 1) d) b2 y := by
  have hlt := blk_lt h.p
  obtain ⟨B, d, w', hr, h2, h3, h5⟩ := ks_app h.s l.h hn hlt
  have hk : ∀ g, S.ownBlock = some g → sp + 1 ≤ g := fun g e => (h.s.lt g e).1
  refine ⟨B, d, w', hr, ⟨h.c.kept h3 (KS.apart h.c h.s), blk_grown h.p h3 (fun g e => by have := hk g e; omega), h.k.kept h3 (by
    cases hs : K.ownBlock with
    | none => exact Or.inl rfl
    | some g => exact Or.inr (fun e => h.ne g hs e.symm)), h2, fun g e e2 => ?_, h.be.grown h3 (Nat.le_of_lt hlt) (fun g e => by have := hk g e; omega)⟩, fun b2 y l2 => ⟨blk_grown l2.h h3 (fun g e e2 => l2.s (by rw [e, e2])), l2.lt, l2.k, fun e => ?_⟩⟩
  · rcases h5 with h5 | h5
    · exact h.ne g e (h5 ▸ e2)
    · rw [h5] at e2; injection e2 with e2; have := (h.k.lt g e).2; omega
  · rcases h5 with h5 | h5
    · exact l2.s (h5 ▸ e)
    · rw [h5] at e; injection e with e; have := blk_lt l2.h; omega
theorem KS.setp (h : KS wm w sp cs C K S nc nk ns xc xk xs) (j : Nat) (u : Value) : KS wm (w.setCell ⟨sp, j, none⟩ u) sp (cs.set j u) C K S nc nk ns xc xk xs :=
  ⟨own_apart h.c (by omega), blk_set h.p u, own_apart h.k (by omega), own_apart h.s (by omega), h.ne, h.be.setCell (by simp) _⟩
end
theorem count4_len {bs : List Int} {a e : Int} {l : List Int} (h : countS bs a 60 4 = (l, e, 0)) : ∃ c : Nat, l.length = c * 4 ∧ c ≤ 60 := by
  unfold countS at h
  by_cases h1 : (manyS bs 1 a []).2.2 ≠ 0
  · rw [if_pos h1] at h
    injection h with _ h; injection h with _ h; exact absurd h h1
  · rw [if_neg h1] at h
    split at h
    · injection h with _ h; injection h with _ h; cases h
    · rename_i h2
      obtain ⟨c, hc⟩ : ∃ c, (manyS bs 1 a []).1.getD 0 0 = c := ⟨_, rfl⟩
      rw [hc] at h h2
      have := many_len h
      exact ⟨c.toNat, by rw [this, List.length_nil]; omega, by omega⟩
theorem count2_len {bs : List Int} {a e : Int} {l : List Int} (h : countS bs a 8 2 = (l, e, 0)) : ∃ c : Nat, l.length = c * 2 ∧ c ≤ 8 := by
  unfold countS at h
  by_cases h1 : (manyS bs 1 a []).2.2 ≠ 0
  · rw [if_pos h1] at h
    injection h with _ h; injection h with _ h; exact absurd h h1
  · rw [if_neg h1] at h
    split at h
    · injection h with _ h; injection h with _ h; cases h
    · rename_i h2
      obtain ⟨c, hc⟩ : ∃ c, (manyS bs 1 a []).1.getD 0 0 = c := ⟨_, rfl⟩
      rw [hc] at h h2
      have := many_len h
      exact ⟨c.toNat, by rw [this, List.length_nil]; omega, by omega⟩
theorem quads_at : ∀ (c : Nat) (l : List Int) (j : Nat), l.length = c * 4 → j < c → inAt (quads l) j = (l.getD (j * 4) 0, l.getD (j * 4 + 1) 0, l.getD (j * 4 + 2) 0, l.getD (j * 4 + 3) 0)
  | 0, l, j, _, h => by omega
  | c + 1, l, j, hl, hj => by
    match l, hl with
    | a :: b :: d :: e :: l, hl =>
      match j, hj with
      | 0, _ => rfl
      | j + 1, hj =>
        have := quads_at c l j (by simp at hl; omega) (by omega)
        rw [show (j + 1) * 4 = j * 4 + 4 by omega]
        exact this
    | [], hl => simp at hl
    | [_], hl => simp at hl; omega
    | [_, _], hl => simp at hl; omega
    | [_, _, _], hl => simp at hl; omega
theorem pairs_at : ∀ (c : Nat) (l : List Int) (j : Nat), l.length = c * 2 → j < c → (evens l).take (j + 1) = (evens l).take j ++ [l.getD (j * 2) 0] ∧ (odds l).take (j + 1) = (odds l).take j ++ [l.getD (j * 2 + 1) 0]
  | 0, l, j, _, h => by omega
  | c + 1, l, j, hl, hj => by
    match l, hl with
    | a :: b :: l, hl =>
      match j, hj with
      | 0, _ => exact ⟨rfl, rfl⟩
      | j + 1, hj =>
        have := pairs_at c l j (by simp at hl; omega) (by omega)
        rw [show (j + 1) * 2 = j * 2 + 2 by omega]
        simp only [evens, odds, List.take_succ_cons, this.1, this.2]
        exact ⟨rfl, rfl⟩
    | [], hl => simp at hl
    | [_], hl => simp at hl; omega
theorem intC_get {l : List Int} {i : Nat} (h : i < l.length) : (intC l)[i]? = some (.int .i64 (l.getD i 0)) := by
  unfold intC
  rw [List.getElem?_map, List.getElem?_eq_getElem h]
  simp [List.getD, h]
set_option maxRecDepth 100000 in
set_option maxHeartbeats 16000000 in
theorem refRead13_any (E : Option Addr) (u v : Nat) (bs : List Int) (at0 : Int) (w : World) (hb : Bs w E u v bs) (hu : u ≤ 16384) :
    Calls Try.prog 18 #[.slice E u v, .int .i64 at0] w (ReadC w (readPg bs at0)) := by
  have hlen : bs.length = u := hb.len
  have RB := Lib.hid hb
  obtain ⟨R, hR⟩ : ∃ R, readPg bs at0 = R := ⟨_, rfl⟩
  rw [hR]
  unfold readPg at hR
  rw [hlen] at hR
  clear hb hlen
  obtain ⟨v1, hv1⟩ : ∃ W, w.alloc (.cells #[.slice none 0 0, .slice none 0 0, .slice none 0 0, .int .i64 0, .int .i64 0, .int .i64 0] 25) = W := ⟨_, rfl⟩
  have fr1 : Fr w v1 w.heap.size [.cells #[.slice none 0 0, .slice none 0 0, .slice none 0 0, .int .i64 0, .int .i64 0, .int .i64 0] 25] := hv1 ▸ Fr.first w _
  have z1 : v1.heap.size = w.heap.size + 1 := by rw [← hv1, Fr.size1]
  generalize hq : w.heap.size = q at *
  have FR := Lib.hid fr1
  clear fr1
  by_cases h0 : at0 < 0
  · rw [if_pos (Or.inl h0)] at hR
    have HE := Lib.hid hR.symm
    have b0 : decide (at0 < 0) = true := by simpa using h0
    clear h0 hR
    go_enter Try.func18, Try.ntmps18
    have c00 : v1.cell? ⟨q, 0, none⟩ = some (.slice none 0 0) := FR.out.cell 0 0 rfl rfl rfl
    have f00 : v1.frozen? ⟨q, 0, none⟩ = false := FR.out.frozen 0 0 rfl rfl
    have c01 : v1.cell? ⟨q, 1, none⟩ = some (.slice none 0 0) := FR.out.cell 0 1 rfl rfl rfl
    have f01 : v1.frozen? ⟨q, 1, none⟩ = false := FR.out.frozen 0 1 rfl rfl
    have c02 : v1.cell? ⟨q, 2, none⟩ = some (.slice none 0 0) := FR.out.cell 0 2 rfl rfl rfl
    have f02 : v1.frozen? ⟨q, 2, none⟩ = false := FR.out.frozen 0 2 rfl rfl
    have c03 : v1.cell? ⟨q, 3, none⟩ = some (.int .i64 0) := FR.out.cell 0 3 rfl rfl rfl
    have f03 : v1.frozen? ⟨q, 3, none⟩ = false := FR.out.frozen 0 3 rfl rfl
    have c04 : v1.cell? ⟨q, 4, none⟩ = some (.int .i64 0) := FR.out.cell 0 4 rfl rfl rfl
    have f04 : v1.frozen? ⟨q, 4, none⟩ = false := FR.out.frozen 0 4 rfl rfl
    have c05 : v1.cell? ⟨q, 5, none⟩ = some (.int .i64 0) := FR.out.cell 0 5 rfl rfl rfl
    have f05 : v1.frozen? ⟨q, 5, none⟩ = false := FR.out.frozen 0 5 rfl rfl
    go_wp2
    have FZ : Fr w ((((((v1.setCell ⟨q, 0, none⟩ (.slice none 0 0)).setCell ⟨q, 1, none⟩ (.slice none 0 0)).setCell ⟨q, 2, none⟩ (.slice none 0 0)).setCell ⟨q, 3, none⟩ (.int .i64 0)).setCell ⟨q, 4, none⟩ (.int .i64 0)).setCell ⟨q, 5, none⟩ (.int .i64 0)) q [.cells #[.slice none 0 0, .slice none 0 0, .slice none 0 0, .int .i64 0, .int .i64 0, .int .i64 0] 25] := ((((((FR.out.set 0 0 rfl rfl (.slice none 0 0)).set 0 1 rfl rfl (.slice none 0 0)).set 0 2 rfl rfl (.slice none 0 0)).set 0 3 rfl rfl (.int .i64 0)).set 0 4 rfl rfl (.int .i64 0)).set 0 5 rfl rfl (.int .i64 0))
    refine bodyPost_ret (res_css Try.results18 (by rfl) (FZ.load 0 rfl rfl Try.underlying25 (by kernel_rfl))) rfl ?_
    rw [HE.out]
    exact ⟨none, 0, 0, none, 0, 0, none, 0, 0, rfl, World.ownsRow_nil _ _ _ _, World.ownsRow_nil _ _ _ _, World.ownsRow_nil _ _ _ _, FZ.out⟩
  have b0 : decide (at0 < 0) = false := by simpa using h0
  by_cases h1 : (u : Int) < at0
  · rw [if_pos (Or.inr h1)] at hR
    have HE := Lib.hid hR.symm
    have b1 : decide ((u : Int) < at0) = true := by simpa using h1
    clear h0 h1 hR
    go_enter Try.func18, Try.ntmps18
    have c00 : v1.cell? ⟨q, 0, none⟩ = some (.slice none 0 0) := FR.out.cell 0 0 rfl rfl rfl
    have f00 : v1.frozen? ⟨q, 0, none⟩ = false := FR.out.frozen 0 0 rfl rfl
    have c01 : v1.cell? ⟨q, 1, none⟩ = some (.slice none 0 0) := FR.out.cell 0 1 rfl rfl rfl
    have f01 : v1.frozen? ⟨q, 1, none⟩ = false := FR.out.frozen 0 1 rfl rfl
    have c02 : v1.cell? ⟨q, 2, none⟩ = some (.slice none 0 0) := FR.out.cell 0 2 rfl rfl rfl
    have f02 : v1.frozen? ⟨q, 2, none⟩ = false := FR.out.frozen 0 2 rfl rfl
    have c03 : v1.cell? ⟨q, 3, none⟩ = some (.int .i64 0) := FR.out.cell 0 3 rfl rfl rfl
    have f03 : v1.frozen? ⟨q, 3, none⟩ = false := FR.out.frozen 0 3 rfl rfl
    have c04 : v1.cell? ⟨q, 4, none⟩ = some (.int .i64 0) := FR.out.cell 0 4 rfl rfl rfl
    have f04 : v1.frozen? ⟨q, 4, none⟩ = false := FR.out.frozen 0 4 rfl rfl
    have c05 : v1.cell? ⟨q, 5, none⟩ = some (.int .i64 0) := FR.out.cell 0 5 rfl rfl rfl
    have f05 : v1.frozen? ⟨q, 5, none⟩ = false := FR.out.frozen 0 5 rfl rfl
    go_wp2
    have FZ : Fr w ((((((v1.setCell ⟨q, 0, none⟩ (.slice none 0 0)).setCell ⟨q, 1, none⟩ (.slice none 0 0)).setCell ⟨q, 2, none⟩ (.slice none 0 0)).setCell ⟨q, 3, none⟩ (.int .i64 0)).setCell ⟨q, 4, none⟩ (.int .i64 0)).setCell ⟨q, 5, none⟩ (.int .i64 0)) q [.cells #[.slice none 0 0, .slice none 0 0, .slice none 0 0, .int .i64 0, .int .i64 0, .int .i64 0] 25] := ((((((FR.out.set 0 0 rfl rfl (.slice none 0 0)).set 0 1 rfl rfl (.slice none 0 0)).set 0 2 rfl rfl (.slice none 0 0)).set 0 3 rfl rfl (.int .i64 0)).set 0 4 rfl rfl (.int .i64 0)).set 0 5 rfl rfl (.int .i64 0))
    refine bodyPost_ret (res_css Try.results18 (by rfl) (FZ.load 0 rfl rfl Try.underlying25 (by kernel_rfl))) rfl ?_
    rw [HE.out]
    exact ⟨none, 0, 0, none, 0, 0, none, 0, 0, rfl, World.ownsRow_nil _ _ _ _, World.ownsRow_nil _ _ _ _, World.ownsRow_nil _ _ _ _, FZ.out⟩
  have b1 : decide ((u : Int) < at0) = false := by simpa using h1
  rw [if_neg (by omega)] at hR
  clear h0 h1
  have C1 := fun (W : World) (h : Bs W E u v bs) => refCount60_any E u v bs at0 W h hu
  obtain ⟨⟨l1, a1, e1⟩, h1⟩ : ∃ r, countS bs at0 60 4 = r := ⟨_, rfl⟩
  rw [h1] at hR C1
  simp only at hR
  replace C1 := Lib.hid C1
  go_enter Try.func18, Try.ntmps18
  have c00 : v1.cell? ⟨q, 0, none⟩ = some (.slice none 0 0) := FR.out.cell 0 0 rfl rfl rfl
  have c01 : v1.cell? ⟨q, 1, none⟩ = some (.slice none 0 0) := FR.out.cell 0 1 rfl rfl rfl
  have c02 : v1.cell? ⟨q, 2, none⟩ = some (.slice none 0 0) := FR.out.cell 0 2 rfl rfl rfl
  have c03 : v1.cell? ⟨q, 3, none⟩ = some (.int .i64 0) := FR.out.cell 0 3 rfl rfl rfl
  have c04 : v1.cell? ⟨q, 4, none⟩ = some (.int .i64 0) := FR.out.cell 0 4 rfl rfl rfl
  have c05 : v1.cell? ⟨q, 5, none⟩ = some (.int .i64 0) := FR.out.cell 0 5 rfl rfl rfl
  go_wp2_with fail
  refine (C1.out _ (Bs.below RB.out FR.out.out)).mono ?_
  rintro e w2 ⟨A1, n1, c1, rfl, hown, hb⟩
  clear c00 c01 c02 c03 c04 c05
  have hl1 : l1.length = n1 := own_len hown
  have hi1 := is_own hown
  clear hown
  replace FR := Lib.hid (FR.out.step hb)
  have RL1 := Lib.hid hi1
  clear hb hi1
  by_cases q1 : e1 = 0
  rotate_left
  · rw [if_pos q1] at hR
    have HE := Lib.hid hR.symm
    have d1 : (e1 != 0) = true := by simp [q1]
    clear q1 hR h1 hl1
    have c00 : w2.cell? ⟨q, 0, none⟩ = some (.slice none 0 0) := FR.out.cell 0 0 rfl rfl rfl
    have f00 : w2.frozen? ⟨q, 0, none⟩ = false := FR.out.frozen 0 0 rfl rfl
    have c01 : w2.cell? ⟨q, 1, none⟩ = some (.slice none 0 0) := FR.out.cell 0 1 rfl rfl rfl
    have f01 : w2.frozen? ⟨q, 1, none⟩ = false := FR.out.frozen 0 1 rfl rfl
    have c02 : w2.cell? ⟨q, 2, none⟩ = some (.slice none 0 0) := FR.out.cell 0 2 rfl rfl rfl
    have f02 : w2.frozen? ⟨q, 2, none⟩ = false := FR.out.frozen 0 2 rfl rfl
    have c03 : w2.cell? ⟨q, 3, none⟩ = some (.int .i64 0) := FR.out.cell 0 3 rfl rfl rfl
    have f03 : w2.frozen? ⟨q, 3, none⟩ = false := FR.out.frozen 0 3 rfl rfl
    have c04 : w2.cell? ⟨q, 4, none⟩ = some (.int .i64 0) := FR.out.cell 0 4 rfl rfl rfl
    have f04 : w2.frozen? ⟨q, 4, none⟩ = false := FR.out.frozen 0 4 rfl rfl
    have c05 : w2.cell? ⟨q, 5, none⟩ = some (.int .i64 0) := FR.out.cell 0 5 rfl rfl rfl
    have f05 : w2.frozen? ⟨q, 5, none⟩ = false := FR.out.frozen 0 5 rfl rfl
    go_wp2
    have FZ : Fr w ((((((w2.setCell ⟨q, 0, none⟩ (.slice none 0 0)).setCell ⟨q, 1, none⟩ (.slice none 0 0)).setCell ⟨q, 2, none⟩ (.slice none 0 0)).setCell ⟨q, 3, none⟩ (.int .i64 0)).setCell ⟨q, 4, none⟩ (.int .i64 0)).setCell ⟨q, 5, none⟩ (.int .i64 0)) q [.cells #[.slice none 0 0, .slice none 0 0, .slice none 0 0, .int .i64 0, .int .i64 0, .int .i64 0] 25] := ((((((FR.out.set 0 0 rfl rfl (.slice none 0 0)).set 0 1 rfl rfl (.slice none 0 0)).set 0 2 rfl rfl (.slice none 0 0)).set 0 3 rfl rfl (.int .i64 0)).set 0 4 rfl rfl (.int .i64 0)).set 0 5 rfl rfl (.int .i64 0))
    refine bodyPost_ret (res_css Try.results18 (by rfl) (FZ.load 0 rfl rfl Try.underlying25 (by kernel_rfl))) rfl ?_
    rw [HE.out]
    exact ⟨none, 0, 0, none, 0, 0, none, 0, 0, rfl, World.ownsRow_nil _ _ _ _, World.ownsRow_nil _ _ _ _, World.ownsRow_nil _ _ _ _, FZ.out⟩
  subst q1
  rw [if_neg (by simp)] at hR
  have C2 := fun (W : World) (h : Bs W E u v bs) => refCount8_any E u v bs a1 W h hu
  obtain ⟨⟨l2, a2, e2⟩, h2⟩ : ∃ r, countS bs a1 8 2 = r := ⟨_, rfl⟩
  rw [h2] at hR C2
  simp only at hR
  replace C2 := Lib.hid C2
  go_wp2_with fail
  refine (C2.out _ (Bs.below RB.out FR.out.out)).mono ?_
  rintro e w3 ⟨A2, n2, c2, rfl, hown, hb⟩
  have hl2 : l2.length = n2 := own_len hown
  have hi2 := is_own hown
  clear hown
  replace FR := Lib.hid (FR.out.step hb)
  replace RL1 := Lib.hid (Es.below RL1.out hb)
  have RL2 := Lib.hid hi2
  clear hb hi2
  by_cases q2 : e2 = 0
  rotate_left
  · rw [if_pos q2] at hR
    have HE := Lib.hid hR.symm
    have d2 : (e2 != 0) = true := by simp [q2]
    clear q2 hR h2 hl2
    have c00 : w3.cell? ⟨q, 0, none⟩ = some (.slice none 0 0) := FR.out.cell 0 0 rfl rfl rfl
    have f00 : w3.frozen? ⟨q, 0, none⟩ = false := FR.out.frozen 0 0 rfl rfl
    have c01 : w3.cell? ⟨q, 1, none⟩ = some (.slice none 0 0) := FR.out.cell 0 1 rfl rfl rfl
    have f01 : w3.frozen? ⟨q, 1, none⟩ = false := FR.out.frozen 0 1 rfl rfl
    have c02 : w3.cell? ⟨q, 2, none⟩ = some (.slice none 0 0) := FR.out.cell 0 2 rfl rfl rfl
    have f02 : w3.frozen? ⟨q, 2, none⟩ = false := FR.out.frozen 0 2 rfl rfl
    have c03 : w3.cell? ⟨q, 3, none⟩ = some (.int .i64 0) := FR.out.cell 0 3 rfl rfl rfl
    have f03 : w3.frozen? ⟨q, 3, none⟩ = false := FR.out.frozen 0 3 rfl rfl
    have c04 : w3.cell? ⟨q, 4, none⟩ = some (.int .i64 0) := FR.out.cell 0 4 rfl rfl rfl
    have f04 : w3.frozen? ⟨q, 4, none⟩ = false := FR.out.frozen 0 4 rfl rfl
    have c05 : w3.cell? ⟨q, 5, none⟩ = some (.int .i64 0) := FR.out.cell 0 5 rfl rfl rfl
    have f05 : w3.frozen? ⟨q, 5, none⟩ = false := FR.out.frozen 0 5 rfl rfl
    go_wp2
    have FZ : Fr w ((((((w3.setCell ⟨q, 0, none⟩ (.slice none 0 0)).setCell ⟨q, 1, none⟩ (.slice none 0 0)).setCell ⟨q, 2, none⟩ (.slice none 0 0)).setCell ⟨q, 3, none⟩ (.int .i64 0)).setCell ⟨q, 4, none⟩ (.int .i64 0)).setCell ⟨q, 5, none⟩ (.int .i64 0)) q [.cells #[.slice none 0 0, .slice none 0 0, .slice none 0 0, .int .i64 0, .int .i64 0, .int .i64 0] 25] := ((((((FR.out.set 0 0 rfl rfl (.slice none 0 0)).set 0 1 rfl rfl (.slice none 0 0)).set 0 2 rfl rfl (.slice none 0 0)).set 0 3 rfl rfl (.int .i64 0)).set 0 4 rfl rfl (.int .i64 0)).set 0 5 rfl rfl (.int .i64 0))
    refine bodyPost_ret (res_css Try.results18 (by rfl) (FZ.load 0 rfl rfl Try.underlying25 (by kernel_rfl))) rfl ?_
    rw [HE.out]
    exact ⟨none, 0, 0, none, 0, 0, none, 0, 0, rfl, World.ownsRow_nil _ _ _ _, World.ownsRow_nil _ _ _ _, World.ownsRow_nil _ _ _ _, FZ.out⟩
  subst q2
  rw [if_neg (by simp)] at hR
  have C3 := fun (W : World) (h : Bs W E u v bs) => refMany_any E u v bs a2 3 W h hu (by omega)
  obtain ⟨⟨l3, a3, e3⟩, h3⟩ : ∃ r, manyS bs 3 a2 [] = r := ⟨_, rfl⟩
  rw [h3] at hR C3
  simp only at hR
  replace C3 := Lib.hid C3
  go_wp2_with fail
  refine (C3.out _ (Bs.below RB.out FR.out.out)).mono ?_
  rintro e w4 ⟨A3, n3, c3, rfl, hown, hb⟩
  have hl3 : l3.length = n3 := own_len hown
  have hi3 := is_own hown
  clear hown
  replace FR := Lib.hid (FR.out.step hb)
  replace RL1 := Lib.hid (Es.below RL1.out hb)
  replace RL2 := Lib.hid (Es.below RL2.out hb)
  have RL3 := Lib.hid hi3
  clear hb hi3
  by_cases q3 : e3 = 0
  rotate_left
  · rw [if_pos q3] at hR
    have HE := Lib.hid hR.symm
    have d3 : (e3 != 0) = true := by simp [q3]
    clear q3 hR h3 hl3
    have c00 : w4.cell? ⟨q, 0, none⟩ = some (.slice none 0 0) := FR.out.cell 0 0 rfl rfl rfl
    have f00 : w4.frozen? ⟨q, 0, none⟩ = false := FR.out.frozen 0 0 rfl rfl
    have c01 : w4.cell? ⟨q, 1, none⟩ = some (.slice none 0 0) := FR.out.cell 0 1 rfl rfl rfl
    have f01 : w4.frozen? ⟨q, 1, none⟩ = false := FR.out.frozen 0 1 rfl rfl
    have c02 : w4.cell? ⟨q, 2, none⟩ = some (.slice none 0 0) := FR.out.cell 0 2 rfl rfl rfl
    have f02 : w4.frozen? ⟨q, 2, none⟩ = false := FR.out.frozen 0 2 rfl rfl
    have c03 : w4.cell? ⟨q, 3, none⟩ = some (.int .i64 0) := FR.out.cell 0 3 rfl rfl rfl
    have f03 : w4.frozen? ⟨q, 3, none⟩ = false := FR.out.frozen 0 3 rfl rfl
    have c04 : w4.cell? ⟨q, 4, none⟩ = some (.int .i64 0) := FR.out.cell 0 4 rfl rfl rfl
    have f04 : w4.frozen? ⟨q, 4, none⟩ = false := FR.out.frozen 0 4 rfl rfl
    have c05 : w4.cell? ⟨q, 5, none⟩ = some (.int .i64 0) := FR.out.cell 0 5 rfl rfl rfl
    have f05 : w4.frozen? ⟨q, 5, none⟩ = false := FR.out.frozen 0 5 rfl rfl
    go_wp2
    have FZ : Fr w ((((((w4.setCell ⟨q, 0, none⟩ (.slice none 0 0)).setCell ⟨q, 1, none⟩ (.slice none 0 0)).setCell ⟨q, 2, none⟩ (.slice none 0 0)).setCell ⟨q, 3, none⟩ (.int .i64 0)).setCell ⟨q, 4, none⟩ (.int .i64 0)).setCell ⟨q, 5, none⟩ (.int .i64 0)) q [.cells #[.slice none 0 0, .slice none 0 0, .slice none 0 0, .int .i64 0, .int .i64 0, .int .i64 0] 25] := ((((((FR.out.set 0 0 rfl rfl (.slice none 0 0)).set 0 1 rfl rfl (.slice none 0 0)).set 0 2 rfl rfl (.slice none 0 0)).set 0 3 rfl rfl (.int .i64 0)).set 0 4 rfl rfl (.int .i64 0)).set 0 5 rfl rfl (.int .i64 0))
    refine bodyPost_ret (res_css Try.results18 (by rfl) (FZ.load 0 rfl rfl Try.underlying25 (by kernel_rfl))) rfl ?_
    rw [HE.out]
    exact ⟨none, 0, 0, none, 0, 0, none, 0, 0, rfl, World.ownsRow_nil _ _ _ _, World.ownsRow_nil _ _ _ _, World.ownsRow_nil _ _ _ _, FZ.out⟩
  subst q3
  rw [if_neg (by simp)] at hR
  have h3l := many_len h3
  obtain ⟨x, y, z, rfl⟩ : ∃ x y z, l3 = [x, y, z] := by
    match l3, h3l with
    | [x, y, z], _ => exact ⟨x, y, z, rfl⟩
  have en3 : n3 = 3 := hl3.symm
  subst en3
  obtain ⟨b3, o3, x2, rfl, hb30, hc0, hd0⟩ := RL3.out.look 0 (by omega)
  obtain ⟨b4, o4, y2, he4, _, hc1, hd1⟩ := RL3.out.look 1 (by omega)
  injection he4 with he4; injection he4 with he4 he5; subst he4; subst he5
  obtain ⟨b4, o4, z2, he4, _, hc2, hd2⟩ := RL3.out.look 2 (by omega)
  injection he4 with he4; injection he4 with he4 he5; subst he4; subst he5
  injection hd0 with hd0 _; injection hd1 with hd1 _; injection hd2 with hd2 _
  subst hd0; subst hd1; subst hd2
  rw [Nat.add_zero] at hc0
  have HL1 := Lib.hid hl1; have HL2 := Lib.hid hl2; have HC1 := Lib.hid h1; have HC2 := Lib.hid h2; have HRR := Lib.hid hR
  clear hl1 hl2 hl3 h1 h2 h3 h3l hR hb30
  have c00 : w4.cell? ⟨q, 0, none⟩ = some (.slice none 0 0) := FR.out.cell 0 0 rfl rfl rfl
  have c01 : w4.cell? ⟨q, 1, none⟩ = some (.slice none 0 0) := FR.out.cell 0 1 rfl rfl rfl
  have c02 : w4.cell? ⟨q, 2, none⟩ = some (.slice none 0 0) := FR.out.cell 0 2 rfl rfl rfl
  have c03 : w4.cell? ⟨q, 3, none⟩ = some (.int .i64 0) := FR.out.cell 0 3 rfl rfl rfl
  have c04 : w4.cell? ⟨q, 4, none⟩ = some (.int .i64 0) := FR.out.cell 0 4 rfl rfl rfl
  have c05 : w4.cell? ⟨q, 5, none⟩ = some (.int .i64 0) := FR.out.cell 0 5 rfl rfl rfl
  go_wp2
  go_region
  clear c00 c01 c02 c03 c04 c05
  have VP0 : (w4.alloc (.cells #[.slice none 0 0, .slice none 0 0, .slice none 0 0, .int .i64 x, .int .i64 y, .int .i64 z] 25)).drew.heap[w4.heap.size]? = some (.cells #[.slice none 0 0, .slice none 0 0, .slice none 0 0, .int .i64 x, .int .i64 y, .int .i64 z] 25) := heap_alloc_new w4 _
  have BE0 : Below w4.heap.size w4 (w4.alloc (.cells #[.slice none 0 0, .slice none 0 0, .slice none 0 0, .int .i64 x, .int .i64 y, .int .i64 z] 25)).drew := ((Below.refl _ _).alloc (Nat.le_refl _) _).drew
  obtain ⟨wp, hwp⟩ : ∃ W, (w4.alloc (.cells #[.slice none 0 0, .slice none 0 0, .slice none 0 0, .int .i64 x, .int .i64 y, .int .i64 z] 25)).drew = W := ⟨_, rfl⟩
  rw [hwp] at VP0 BE0 ⊢
  have hqs := FR.out.sz
  simp only [List.length_cons, List.length_nil] at hqs
  obtain ⟨sp, hsp⟩ : ∃ s, w4.heap.size = s := ⟨_, rfl⟩
  rw [hsp] at VP0 BE0 hqs ⊢
  have HSP := Lib.hid hsp; have VP := Lib.hid VP0; have BE := Lib.hid BE0
  clear hwp hc0 hc1 hc2 VP0 BE0 hsp hv1 z1
  obtain ⟨cc, hcc, hc60⟩ := count4_len HC1.out
  have hn1 : n1 = cc * 4 := by have := HL1.out; omega
  have HCC := Lib.hid hcc
  obtain ⟨kc, hkc, hk8⟩ := count2_len HC2.out
  have hn2 : n2 = kc * 2 := by have := HL2.out; omega
  have HKC := Lib.hid hkc
  clear hcc hkc
  have HN1 := Lib.hid hn1; have HN2 := Lib.hid hn2
  have h1b : n1 ≤ 240 := by omega
  have h2b : n2 ≤ 16 := by omega
  clear hn1 hn2
  have HQS := Lib.hid hqs
  clear hqs
  go_wp2
  go_loopw [12] (fun iv wr => ∃ (i j dd : Nat) (O : Option Addr), iv = .int .i64 (i : Int) ∧ Hid (i = 4 * j) ∧ i ≤ n1 ∧ Hid (wr.ownsRow (sp + 1) 40 4 (.slice O j dd) j (insC ((quads l1).take j))) ∧ Hid (wr.heap[sp]? = some (.cells #[.slice O j dd, .slice none 0 0, .slice none 0 0, .int .i64 x, .int .i64 y, .int .i64 z] 25)) ∧ Hid (Below sp w4 wr)) (fun iv _ => n1 - (intOf iv).toNat)
  case atStart => exact ⟨0, 0, 0, none, rfl, Lib.hid rfl, by omega, World.ownsRow_nil _ _ _ _, VP.out, BE.out⟩
  case round =>
    clear VP BE
    obtain ⟨i, j, dd, O, rfl, HIJ, hi, OW, VP, BE⟩ := hrel
    by_cases hlt : i + 3 < n1
    · have c1 : decide ((i : Int) + 3 < (n1 : Int)) = true := by simp; omega
      have c1n : decide (i + 3 < n1) = true := by simpa using hlt
      have hjc : j < cc := by have := HIJ.out; have := HN1.out; omega
      have hql := (code_quads cc l1 HCC.out).2
      have hqa := quads_at cc l1 j HCC.out hjc
      have htk := take_i4 (l := quads l1) (i := j) (by omega)
      obtain ⟨b1, o1, rfl, hb1, hcell⟩ := Es.mem RL1.out (by omega)
      rw [HSP.out] at hb1
      obtain ⟨i1, hi1⟩ : ∃ t : Nat, i + 1 = t := ⟨_, rfl⟩
      obtain ⟨i2, hi2⟩ : ∃ t : Nat, i + 2 = t := ⟨_, rfl⟩
      obtain ⟨i3, hi3⟩ : ∃ t : Nat, i + 3 = t := ⟨_, rfl⟩
      have k0 := hcell i _ (intC_get (l := l1) (by have := HL1.out; omega))
      have k1 := hcell i1 _ (intC_get (l := l1) (by have := HL1.out; omega))
      have k2 := hcell i2 _ (intC_get (l := l1) (by have := HL1.out; omega))
      have k3 := hcell i3 _ (intC_get (l := l1) (by have := HL1.out; omega))
      obtain ⟨v0, hv0⟩ : ∃ t, l1.getD (j * 4) 0 = t := ⟨_, rfl⟩
      obtain ⟨v1, hv1⟩ : ∃ t, l1.getD (j * 4 + 1) 0 = t := ⟨_, rfl⟩
      obtain ⟨v2, hv2⟩ : ∃ t, l1.getD (j * 4 + 2) 0 = t := ⟨_, rfl⟩
      obtain ⟨v3, hv3⟩ : ∃ t, l1.getD (j * 4 + 3) 0 = t := ⟨_, rfl⟩
      have e0 := HIJ.out
      rw [show l1.getD i 0 = v0 by rw [← hv0]; congr 1; omega] at k0
      rw [show l1.getD i1 0 = v1 by rw [← hv1]; congr 1; omega] at k1
      rw [show l1.getD i2 0 = v2 by rw [← hv2]; congr 1; omega] at k2
      rw [show l1.getD i3 0 = v3 by rw [← hv3]; congr 1; omega] at k3
      have s1 : IntKind.i64.wrap ((i : Int) + 1) = (i1 : Int) := by rw [IntKind.wrap_i64]; omega
      have s2 : IntKind.i64.wrap ((i : Int) + 2) = (i2 : Int) := by rw [IntKind.wrap_i64]; omega
      have s3 : IntKind.i64.wrap ((i : Int) + 3) = (i3 : Int) := by rw [IntKind.wrap_i64]; omega
      have p0 : (0 : Int) ≤ (i : Int) := by omega
      have p1 : (0 : Int) ≤ (i1 : Int) := by omega
      have p2 : (0 : Int) ≤ (i2 : Int) := by omega
      have p3 : (0 : Int) ≤ (i3 : Int) := by omega
      have r0 : (i : Int) < (n1 : Int) := by omega
      have r1 : (i1 : Int) < (n1 : Int) := by omega
      have r2 : (i2 : Int) < (n1 : Int) := by omega
      have r3 : (i3 : Int) < (n1 : Int) := by omega
      have K0 := Lib.hid k0
      have K1 := Lib.hid k1
      have K2 := Lib.hid k2
      have K3 := Lib.hid k3
      have HB1 := Lib.hid hb1
      have HLT := Lib.hid hlt
      have HIS := Lib.hid (And.intro e0 (show True ∧ True from ⟨trivial, trivial⟩))
      rw [hqa, hv0, hv1, hv2, hv3] at htk
      have HA := Lib.hid (show insC ((quads l1).take (j + 1)) = insC ((quads l1).take j) ++ insC [(v0, v1, v2, v3)] by rw [htk, insC_app])
      have hj240 : j ≤ 240 := by omega
      clear hcell hql hqa htk hv0 hv1 hv2 hv3 k0 k1 k2 k3 e0 hb1 hlt hjc hi1 hi2 hi3 HIS
      obtain ⟨i5, hi5, hz0, hz1, hz2⟩ := info_of infoI4
      have OWd : wr.drew.ownsRow (sp + 1) 40 4 (.slice O j dd) j (insC ((quads l1).take j)) := ⟨OW.out.1, OW.out.2⟩
      obtain ⟨A4, c4, w9, hap4, hown4, hbel4⟩ := eapp_lit (P := Try.prog) (ty := 22) (w0 := wr.drew) (base := sp + 1) (W := wr.drew) Try.underlying22 hi5 hz0 hz1 hz2 rfl (by decide) OWd (insC_one _) (insC [(v0, v1, v2, v3)]) (insC_one _) (m := 1) rfl (by unfold maxLen; omega) (by omega) (Below.refl _ wr.drew) (blk_lt VP.out)
      rw [← HA.out] at hown4
      replace hap4 : (Builtin.append_ #[22, 22] 22 #[_, .slice (some ⟨wr.drew.heap.size, 0, none⟩) 1 1]).run Try.prog (wr.drew.alloc (.cells #[.int .i64 v0, .int .i64 v1, .int .i64 v2, .int .i64 v3] 40)) = _ := hap4
      have HAP := Lib.hid hap4
      have VP9 := Lib.hid ((hbel4.block sp (by omega)).trans VP.out)
      have BE9 := Lib.hid (BE.out.drew.trans (hbel4.mono (by omega)))
      have HO4 := Lib.hid hown4
      clear hi5 hz0 hz1 hz2 hap4 hown4 hbel4 OWd OW
      have cp0 : wr.cell? ⟨sp, 0, none⟩ = some (.slice O j dd) := (blk_cell VP.out 0).trans rfl
      have fp9 : w9.frozen? ⟨sp, 0, none⟩ = false := blk_frozen VP9.out 0
      have cp9 : w9.cell? ⟨sp, 0, none⟩ = some (.slice O j dd) := (blk_cell VP9.out 0).trans rfl
      go_wp2
      refine wp_region_noPanic ?_
      refine LateH.begin ((fun wv => Hid (Below sp w4 wv))) ((fun wv => wv.cell? ⟨sp, 0, none⟩ = some (.slice O j dd))) (fun j => j == 25) (by kernel_rfl) ?_
      have hS : Hid (Below sp w4 wr.drew) := Lib.hid BE.out.drew
      have hL : wr.drew.cell? ⟨sp, 0, none⟩ = some (.slice O j dd) := cp0
      refine LateH.take (i := 0) (oi := ⟨some 73, .fieldAddr 25 (.tmp 11) 0, 0, "ref.go:164", #[], none⟩) (v := ?_) rfl (by kernel_rfl) rfl (by kernel_rfl) (by kernel_rfl) (fun _ _ _ h => h) (Or.inl ⟨by rfl, ?_⟩) hS (fun _ => hL) ?_
      rotate_left
      · intro wv _; go_simp; try with_reducible rfl
      try simp only [Act.put, List.setIfInBounds_toArray, List.set_cons_zero, List.set_cons_succ]
      refine LateH.takeL (i := 1) (oi := ⟨some 74, .load 22 (.tmp 73), 22, "ref.go:164", #[⟨0, .data⟩], none⟩) (v := ?_) rfl (by kernel_rfl) rfl (by kernel_rfl) (by kernel_rfl) (by kernel_rfl) (fun _ _ _ h => h) (Or.inl ⟨by rfl, ?_⟩) hS (fun _ => hL) ?_
      rotate_left
      · intro wv hL; have hrun := hL; go_simp; try with_reducible rfl
      try simp only [Act.put, List.setIfInBounds_toArray, List.set_cons_zero, List.set_cons_succ]
      refine LateH.take (i := 2) (oi := ⟨some 75, .move (.tmp 7), 23, "ref.go:164", #[], none⟩) (v := ?_) rfl (by kernel_rfl) rfl (by kernel_rfl) (by kernel_rfl) (fun _ _ _ h => h) (Or.inl ⟨by rfl, ?_⟩) hS (fun _ => hL) ?_
      rotate_left
      · intro wv _; go_simp; try with_reducible rfl
      try simp only [Act.put, List.setIfInBounds_toArray, List.set_cons_zero, List.set_cons_succ]
      refine LateH.take (i := 3) (oi := ⟨some 76, .move (.tmp 12), 3, "ref.go:164", #[], none⟩) (v := ?_) rfl (by kernel_rfl) rfl (by kernel_rfl) (by kernel_rfl) (fun _ _ _ h => h) (Or.inl ⟨by rfl, ?_⟩) hS (fun _ => hL) ?_
      rotate_left
      · intro wv _; go_simp; try with_reducible rfl
      try simp only [Act.put, List.setIfInBounds_toArray, List.set_cons_zero, List.set_cons_succ]
      refine LateH.take (i := 4) (oi := ⟨some 77, .indexAddr 23 (.tmp 75) (.tmp 76), 0, "ref.go:164", #[⟨2, .data⟩, ⟨3, .data⟩], none⟩) (v := ?_) rfl (by kernel_rfl) rfl (by kernel_rfl) (by kernel_rfl) (fun _ _ _ h => h) (Or.inl ⟨by rfl, ?_⟩) hS (fun _ => hL) ?_
      rotate_left
      · intro wv _; go_simp; try with_reducible rfl
      try simp only [Act.put, List.setIfInBounds_toArray, List.set_cons_zero, List.set_cons_succ]
      refine LateH.take (i := 5) (oi := ⟨some 78, .load 3 (.tmp 77), 3, "ref.go:164", #[⟨4, .data⟩], none⟩) (v := ?_) rfl (by kernel_rfl) rfl (by kernel_rfl) (by kernel_rfl) (fun _ _ _ h => h) (Or.inl ⟨by rfl, ?_⟩) hS (fun _ => hL) ?_
      rotate_left
      · intro wv hS; have hrun := (hS.out.cell (p := ⟨b1, o1 + i, none⟩) HB1.out).trans K0.out; go_simp; try with_reducible rfl
      try simp only [Act.put, List.setIfInBounds_toArray, List.set_cons_zero, List.set_cons_succ]
      refine LateH.take (i := 6) (oi := ⟨some 79, .move (.tmp 7), 23, "ref.go:164", #[], none⟩) (v := ?_) rfl (by kernel_rfl) rfl (by kernel_rfl) (by kernel_rfl) (fun _ _ _ h => h) (Or.inl ⟨by rfl, ?_⟩) hS (fun _ => hL) ?_
      rotate_left
      · intro wv _; go_simp; try with_reducible rfl
      try simp only [Act.put, List.setIfInBounds_toArray, List.set_cons_zero, List.set_cons_succ]
      refine LateH.take (i := 7) (oi := ⟨some 80, .move (.tmp 12), 3, "ref.go:164", #[], none⟩) (v := ?_) rfl (by kernel_rfl) rfl (by kernel_rfl) (by kernel_rfl) (fun _ _ _ h => h) (Or.inl ⟨by rfl, ?_⟩) hS (fun _ => hL) ?_
      rotate_left
      · intro wv _; go_simp; try with_reducible rfl
      try simp only [Act.put, List.setIfInBounds_toArray, List.set_cons_zero, List.set_cons_succ]
      refine LateH.take (i := 8) (oi := ⟨some 81, .binOp .add 3 (.tmp 80) (.const (Value.int IntKind.i64 1)) 3, 3, "ref.go:164", #[⟨7, .data⟩], none⟩) (v := ?_) rfl (by kernel_rfl) rfl (by kernel_rfl) (by kernel_rfl) (fun _ _ _ h => h) (Or.inl ⟨by rfl, ?_⟩) hS (fun _ => hL) ?_
      rotate_left
      · intro wv _; go_simp; try with_reducible rfl
      try simp only [Act.put, List.setIfInBounds_toArray, List.set_cons_zero, List.set_cons_succ]
      refine LateH.take (i := 9) (oi := ⟨some 82, .indexAddr 23 (.tmp 79) (.tmp 81), 0, "ref.go:164", #[⟨6, .data⟩, ⟨8, .data⟩], none⟩) (v := ?_) rfl (by kernel_rfl) rfl (by kernel_rfl) (by kernel_rfl) (fun _ _ _ h => h) (Or.inl ⟨by rfl, ?_⟩) hS (fun _ => hL) ?_
      rotate_left
      · intro wv _; go_simp; try with_reducible rfl
      try simp only [Act.put, List.setIfInBounds_toArray, List.set_cons_zero, List.set_cons_succ]
      refine LateH.take (i := 10) (oi := ⟨some 83, .load 3 (.tmp 82), 3, "ref.go:164", #[⟨9, .data⟩], none⟩) (v := ?_) rfl (by kernel_rfl) rfl (by kernel_rfl) (by kernel_rfl) (fun _ _ _ h => h) (Or.inl ⟨by rfl, ?_⟩) hS (fun _ => hL) ?_
      rotate_left
      · intro wv hS; have hrun := (hS.out.cell (p := ⟨b1, o1 + i1, none⟩) HB1.out).trans K1.out; go_simp; try with_reducible rfl
      try simp only [Act.put, List.setIfInBounds_toArray, List.set_cons_zero, List.set_cons_succ]
      refine LateH.take (i := 11) (oi := ⟨some 84, .move (.tmp 7), 23, "ref.go:164", #[], none⟩) (v := ?_) rfl (by kernel_rfl) rfl (by kernel_rfl) (by kernel_rfl) (fun _ _ _ h => h) (Or.inl ⟨by rfl, ?_⟩) hS (fun _ => hL) ?_
      rotate_left
      · intro wv _; go_simp; try with_reducible rfl
      try simp only [Act.put, List.setIfInBounds_toArray, List.set_cons_zero, List.set_cons_succ]
      refine LateH.take (i := 12) (oi := ⟨some 85, .move (.tmp 12), 3, "ref.go:164", #[], none⟩) (v := ?_) rfl (by kernel_rfl) rfl (by kernel_rfl) (by kernel_rfl) (fun _ _ _ h => h) (Or.inl ⟨by rfl, ?_⟩) hS (fun _ => hL) ?_
      rotate_left
      · intro wv _; go_simp; try with_reducible rfl
      try simp only [Act.put, List.setIfInBounds_toArray, List.set_cons_zero, List.set_cons_succ]
      refine LateH.take (i := 13) (oi := ⟨some 86, .binOp .add 3 (.tmp 85) (.const (Value.int IntKind.i64 2)) 3, 3, "ref.go:164", #[⟨12, .data⟩], none⟩) (v := ?_) rfl (by kernel_rfl) rfl (by kernel_rfl) (by kernel_rfl) (fun _ _ _ h => h) (Or.inl ⟨by rfl, ?_⟩) hS (fun _ => hL) ?_
      rotate_left
      · intro wv _; go_simp; try with_reducible rfl
      try simp only [Act.put, List.setIfInBounds_toArray, List.set_cons_zero, List.set_cons_succ]
      refine LateH.take (i := 14) (oi := ⟨some 87, .indexAddr 23 (.tmp 84) (.tmp 86), 0, "ref.go:164", #[⟨11, .data⟩, ⟨13, .data⟩], none⟩) (v := ?_) rfl (by kernel_rfl) rfl (by kernel_rfl) (by kernel_rfl) (fun _ _ _ h => h) (Or.inl ⟨by rfl, ?_⟩) hS (fun _ => hL) ?_
      rotate_left
      · intro wv _; go_simp; try with_reducible rfl
      try simp only [Act.put, List.setIfInBounds_toArray, List.set_cons_zero, List.set_cons_succ]
      refine LateH.take (i := 15) (oi := ⟨some 88, .load 3 (.tmp 87), 3, "ref.go:164", #[⟨14, .data⟩], none⟩) (v := ?_) rfl (by kernel_rfl) rfl (by kernel_rfl) (by kernel_rfl) (fun _ _ _ h => h) (Or.inl ⟨by rfl, ?_⟩) hS (fun _ => hL) ?_
      rotate_left
      · intro wv hS; have hrun := (hS.out.cell (p := ⟨b1, o1 + i2, none⟩) HB1.out).trans K2.out; go_simp; try with_reducible rfl
      try simp only [Act.put, List.setIfInBounds_toArray, List.set_cons_zero, List.set_cons_succ]
      refine LateH.take (i := 16) (oi := ⟨some 89, .move (.tmp 7), 23, "ref.go:164", #[], none⟩) (v := ?_) rfl (by kernel_rfl) rfl (by kernel_rfl) (by kernel_rfl) (fun _ _ _ h => h) (Or.inl ⟨by rfl, ?_⟩) hS (fun _ => hL) ?_
      rotate_left
      · intro wv _; go_simp; try with_reducible rfl
      try simp only [Act.put, List.setIfInBounds_toArray, List.set_cons_zero, List.set_cons_succ]
      refine LateH.take (i := 17) (oi := ⟨some 90, .move (.tmp 12), 3, "ref.go:164", #[], none⟩) (v := ?_) rfl (by kernel_rfl) rfl (by kernel_rfl) (by kernel_rfl) (fun _ _ _ h => h) (Or.inl ⟨by rfl, ?_⟩) hS (fun _ => hL) ?_
      rotate_left
      · intro wv _; go_simp; try with_reducible rfl
      try simp only [Act.put, List.setIfInBounds_toArray, List.set_cons_zero, List.set_cons_succ]
      refine LateH.take (i := 18) (oi := ⟨some 91, .binOp .add 3 (.tmp 90) (.const (Value.int IntKind.i64 3)) 3, 3, "ref.go:164", #[⟨17, .data⟩], none⟩) (v := ?_) rfl (by kernel_rfl) rfl (by kernel_rfl) (by kernel_rfl) (fun _ _ _ h => h) (Or.inl ⟨by rfl, ?_⟩) hS (fun _ => hL) ?_
      rotate_left
      · intro wv _; go_simp; try with_reducible rfl
      try simp only [Act.put, List.setIfInBounds_toArray, List.set_cons_zero, List.set_cons_succ]
      refine LateH.take (i := 19) (oi := ⟨some 92, .indexAddr 23 (.tmp 89) (.tmp 91), 0, "ref.go:164", #[⟨16, .data⟩, ⟨18, .data⟩], none⟩) (v := ?_) rfl (by kernel_rfl) rfl (by kernel_rfl) (by kernel_rfl) (fun _ _ _ h => h) (Or.inl ⟨by rfl, ?_⟩) hS (fun _ => hL) ?_
      rotate_left
      · intro wv _; go_simp; try with_reducible rfl
      try simp only [Act.put, List.setIfInBounds_toArray, List.set_cons_zero, List.set_cons_succ]
      refine LateH.take (i := 20) (oi := ⟨some 93, .load 3 (.tmp 92), 3, "ref.go:164", #[⟨19, .data⟩], none⟩) (v := ?_) rfl (by kernel_rfl) rfl (by kernel_rfl) (by kernel_rfl) (fun _ _ _ h => h) (Or.inl ⟨by rfl, ?_⟩) hS (fun _ => hL) ?_
      rotate_left
      · intro wv hS; have hrun := (hS.out.cell (p := ⟨b1, o1 + i3, none⟩) HB1.out).trans K3.out; go_simp; try with_reducible rfl
      try simp only [Act.put, List.setIfInBounds_toArray, List.set_cons_zero, List.set_cons_succ]
      refine LateH.take (i := 21) (oi := ⟨some 94, .build 40 #[(0, .tmp 78), (1, .tmp 83), (2, .tmp 88), (3, .tmp 93)], 40, "ref.go:164", #[⟨5, .data⟩, ⟨10, .data⟩, ⟨15, .data⟩, ⟨20, .data⟩], none⟩) (v := ?_) rfl (by kernel_rfl) rfl (by kernel_rfl) (by kernel_rfl) (fun _ _ _ h => h) (Or.inl ⟨by rfl, ?_⟩) hS (fun _ => hL) ?_
      rotate_left
      · intro wv _; go_simp; try with_reducible rfl
      try simp only [Act.put, List.setIfInBounds_toArray, List.set_cons_zero, List.set_cons_succ]
      refine LateH.ready (rs := [22]) (by kernel_rfl) (by simp) (LateR.cons (g2 := true) (o := ⟨some 95, .buildSlice 22 1 #[(0, .tmp 94)], 22, "ref.go:164", #[⟨21, .data⟩], none⟩) rfl (by rfl) (fun K hK => ?_) LateR.nil)
      go_simp
      replace hS := Lib.hid (BE.out.drew.alloc (Nat.le_of_lt (blk_lt VP.out)) (.cells #[.int .i64 v0, .int .i64 v1, .int .i64 v2, .int .i64 v3] 40))
      replace hL : (wr.drew.alloc (.cells #[.int .i64 v0, .int .i64 v1, .int .i64 v2, .int .i64 v3] 40)).cell? ⟨sp, 0, none⟩ = some (.slice O j dd) := (blk_cell ((heap_alloc_old _ _ (blk_lt VP.out)).trans VP.out) 0).trans rfl
      refine Shut.out hK _ _ hS (fun _ => hL) ?_
      clear hK K
      try simp only [Act.put, List.setIfInBounds_toArray, List.set_cons_zero, List.set_cons_succ]
      refine LateH.ready (rs := [23]) (by kernel_rfl) (by simp) (LateR.cons (g2 := true) (o := ⟨some 96, .call { callee := .builtin .append, args := #[.tmp 74, .tmp 95], argTypes := #[22, 22] }, 22, "ref.go:164", #[⟨1, .data⟩, ⟨22, .data⟩], none⟩) rfl (by rfl) (fun K hK => ?_) LateR.nil)
      refine op_app_run7 (by rfl) rfl rfl rfl HAP.out ?_
      replace hS := BE9
      replace hL := cp9
      refine Shut.out hK _ _ hS (fun _ => hL) ?_
      clear hK K
      try simp only [Act.put, List.setIfInBounds_toArray, List.set_cons_zero, List.set_cons_succ]
      refine LateH.take (i := 24) (oi := ⟨some 97, .fieldAddr 25 (.tmp 11) 0, 0, "ref.go:164", #[⟨0, .phase⟩, ⟨1, .phase⟩, ⟨2, .phase⟩, ⟨3, .phase⟩, ⟨4, .phase⟩, ⟨5, .phase⟩, ⟨6, .phase⟩, ⟨7, .phase⟩, ⟨8, .phase⟩, ⟨9, .phase⟩, ⟨10, .phase⟩, ⟨11, .phase⟩, ⟨12, .phase⟩, ⟨13, .phase⟩, ⟨14, .phase⟩, ⟨15, .phase⟩, ⟨16, .phase⟩, ⟨17, .phase⟩, ⟨18, .phase⟩, ⟨19, .phase⟩, ⟨20, .phase⟩, ⟨21, .phase⟩, ⟨22, .phase⟩, ⟨23, .phase⟩], none⟩) (v := ?_) rfl (by kernel_rfl) rfl (by kernel_rfl) (by kernel_rfl) (fun _ _ _ h => h) (Or.inl ⟨by rfl, ?_⟩) hS (fun _ => hL) ?_
      rotate_left
      · intro wv _; go_simp; try with_reducible rfl
      try simp only [Act.put, List.setIfInBounds_toArray, List.set_cons_zero, List.set_cons_succ]
      refine LateH.ready (rs := [25]) (by kernel_rfl) (by simp) (LateR.cons (g2 := false) (o := ⟨none, .store 22 (.tmp 97) (.tmp 96), 0, "ref.go:164", #[⟨24, .data⟩, ⟨23, .data⟩, ⟨23, .chain⟩, ⟨0, .phase⟩, ⟨1, .phase⟩, ⟨2, .phase⟩, ⟨3, .phase⟩, ⟨4, .phase⟩, ⟨5, .phase⟩, ⟨6, .phase⟩, ⟨7, .phase⟩, ⟨8, .phase⟩, ⟨9, .phase⟩, ⟨10, .phase⟩, ⟨11, .phase⟩, ⟨12, .phase⟩, ⟨13, .phase⟩, ⟨14, .phase⟩, ⟨15, .phase⟩, ⟨16, .phase⟩, ⟨17, .phase⟩, ⟨18, .phase⟩, ⟨19, .phase⟩, ⟨20, .phase⟩, ⟨21, .phase⟩, ⟨22, .phase⟩, ⟨23, .phase⟩], none⟩) rfl (by rfl) (fun K hK => ?_) LateR.nil)
      go_simp
      replace hS := Lib.hid (BE9.out.setCell (p := ⟨sp, 0, none⟩) (by simp) (.slice A4 (j + 1) c4))
      refine Shut.out hK _ _ hS (fun h => nomatch h) ?_
      clear hK K
      try simp only [Act.put, List.setIfInBounds_toArray, List.set_cons_zero, List.set_cons_succ]
      refine LateH.done (by kernel_rfl) ?_ _
      refine NoPanic.normal ?_
      have HO5 := Lib.hid (own_apart HO4.out (k := sp) (o := 0) (u := .slice A4 (j + 1) c4) (by omega))
      have VP5 := Lib.hid (blk_set (j := 0) VP9.out (.slice A4 (j + 1) c4))
      go_wp2
      go_roundw
      case rel => exact ⟨i + 4, j + 1, c4, A4, by go_num, Lib.hid (by have := HIJ.out; omega), by have := HLT.out; omega, HO5.out, VP5.out, hS.out⟩
      case measure => have := HLT.out; simp [intOf]; omega
    · have c1 : decide ((i : Int) + 3 < (n1 : Int)) = false := by simp; omega
      have c1n : decide (i + 3 < n1) = false := by simp; omega
      have ej : j = cc := by have := HIJ.out; have := HN1.out; omega
      have hql := (code_quads cc l1 HCC.out).2
      have OWn := OW.out
      rw [List.take_of_length_le (by omega)] at OWn
      replace OW := Lib.hid OWn
      have hj240 : j ≤ 240 := by omega
      clear OWn hql ej hlt HIJ
      have HKS := Lib.hid (show KS w4 wr sp [.slice O j dd, .slice none 0 0, .slice none 0 0, .int .i64 x, .int .i64 y, .int .i64 z] (.slice O j dd) (.slice none 0 0) (.slice none 0 0) j 0 0 (quads l1) [] [] from ⟨OW.out, VP.out, World.ownsRow_nil _ _ _ _, World.ownsRow_nil _ _ _ _, fun g hg => by simp [Value.ownBlock] at hg, BE.out⟩)
      go_wp2
      obtain ⟨wo, hwo⟩ : ∃ t, t = wr := ⟨_, rfl⟩
      subst hwo
      go_loopw [13] (fun iv wr => ∃ (i j2 d1 d2 : Nat) (O1 O2 : Option Addr), iv = .int .i64 (i : Int) ∧ Hid (i = 2 * j2) ∧ i ≤ n2 ∧ Hid (KS w4 wr sp [.slice O j dd, .slice O1 j2 d1, .slice O2 j2 d2, .int .i64 x, .int .i64 y, .int .i64 z] (.slice O j dd) (.slice O1 j2 d1) (.slice O2 j2 d2) j j2 j2 (quads l1) ((evens l2).take j2) ((odds l2).take j2))) (fun iv _ => n2 - (intOf iv).toNat)
      case atStart => exact ⟨0, 0, 0, 0, none, none, rfl, Lib.hid rfl, by omega, HKS.out⟩
      case round =>
        clear HKS OW VP BE
        obtain ⟨i, j2, d1, d2, O1, O2, rfl, HIJ, hi, HKS⟩ := hrel
        by_cases hlt : i + 1 < n2
        · have c1 : decide ((i : Int) + 1 < (n2 : Int)) = true := by simp; omega
          have c1n : decide (i + 1 < n2) = true := by simpa using hlt
          have hjc : j2 < kc := by have := HIJ.out; have := HN2.out; omega
          have hpa := pairs_at kc l2 j2 HKC.out hjc
          obtain ⟨b1, o1, rfl, hb1, hcell⟩ := Es.mem RL2.out (by omega)
          rw [HSP.out] at hb1
          obtain ⟨i1, hi1⟩ : ∃ t : Nat, i + 1 = t := ⟨_, rfl⟩
          have k0 := hcell i _ (intC_get (l := l2) (by have := HL2.out; omega))
          have k1 := hcell i1 _ (intC_get (l := l2) (by have := HL2.out; omega))
          obtain ⟨v0, hv0⟩ : ∃ t, l2.getD (j2 * 2) 0 = t := ⟨_, rfl⟩
          obtain ⟨v1, hv1⟩ : ∃ t, l2.getD (j2 * 2 + 1) 0 = t := ⟨_, rfl⟩
          have e0 := HIJ.out
          rw [show l2.getD i 0 = v0 by rw [← hv0]; congr 1; omega] at k0
          rw [show l2.getD i1 0 = v1 by rw [← hv1]; congr 1; omega] at k1
          have s1 : IntKind.i64.wrap ((i : Int) + 1) = (i1 : Int) := by rw [IntKind.wrap_i64]; omega
          have p0 : (0 : Int) ≤ (i : Int) := by omega
          have p1 : (0 : Int) ≤ (i1 : Int) := by omega
          have r0 : (i : Int) < (n2 : Int) := by omega
          have r1 : (i1 : Int) < (n2 : Int) := by omega
          have K0 := Lib.hid k0
          have K1 := Lib.hid k1
          have HB1 := Lib.hid hb1
          have HLT := Lib.hid hlt
          have HIS := Lib.hid (And.intro e0 (show True ∧ True from ⟨trivial, trivial⟩))
          rw [hv0, hv1] at hpa
          have HA := Lib.hid hpa
          have hj20 : j2 ≤ 100 := by omega
          have hj100 : j2 ≤ 100000 := by omega
          clear hcell hpa hv0 hv1 k0 k1 e0 hb1 hlt hjc hi1 HIS
          have cp1 : wr.cell? ⟨sp, 1, none⟩ = some (.slice O1 j2 d1) := (blk_cell HKS.out.p 1).trans rfl
          have cp2 : wr.cell? ⟨sp, 2, none⟩ = some (.slice O2 j2 d2) := (blk_cell HKS.out.p 2).trans rfl
          replace HKS := Lib.hid HKS.out.drew
          go_wp2
          refine wp_region_noPanic ?_
          refine LateH.begin ((fun wv => Hid (Below sp w4 wv))) ((fun wv => Hid (wv.cell? ⟨sp, 1, none⟩ = some (.slice O1 j2 d1) ∧ wv.cell? ⟨sp, 2, none⟩ = some (.slice O2 j2 d2)))) (fun j => j == 18 || j == 20) (by kernel_rfl) ?_
          have hS : Hid (Below sp w4 wr.drew) := Lib.hid HKS.out.be
          have hL : Hid (wr.drew.cell? ⟨sp, 1, none⟩ = some (.slice O1 j2 d1) ∧ wr.drew.cell? ⟨sp, 2, none⟩ = some (.slice O2 j2 d2)) := Lib.hid ⟨cp1, cp2⟩
          refine LateH.take (i := 0) (oi := ⟨some 105, .fieldAddr 25 (.tmp 11) 1, 0, "ref.go:167", #[], none⟩) (v := ?_) rfl (by kernel_rfl) rfl (by kernel_rfl) (by kernel_rfl) (fun _ _ _ h => h) (Or.inl ⟨by rfl, ?_⟩) hS (fun _ => hL) ?_
          rotate_left
          · intro wv _; go_simp; try with_reducible rfl
          try simp only [Act.put, List.setIfInBounds_toArray, List.set_cons_zero, List.set_cons_succ]
          refine LateH.takeL (i := 1) (oi := ⟨some 106, .load 23 (.tmp 105), 23, "ref.go:167", #[⟨0, .data⟩], none⟩) (v := ?_) rfl (by kernel_rfl) rfl (by kernel_rfl) (by kernel_rfl) (by kernel_rfl) (fun _ _ _ h => h) (Or.inl ⟨by rfl, ?_⟩) hS (fun _ => hL) ?_
          rotate_left
          · intro wv hL; have hrun := hL.out.1; go_simp; try with_reducible rfl
          try simp only [Act.put, List.setIfInBounds_toArray, List.set_cons_zero, List.set_cons_succ]
          refine LateH.take (i := 2) (oi := ⟨some 107, .move (.tmp 9), 23, "ref.go:167", #[], none⟩) (v := ?_) rfl (by kernel_rfl) rfl (by kernel_rfl) (by kernel_rfl) (fun _ _ _ h => h) (Or.inl ⟨by rfl, ?_⟩) hS (fun _ => hL) ?_
          rotate_left
          · intro wv _; go_simp; try with_reducible rfl
          try simp only [Act.put, List.setIfInBounds_toArray, List.set_cons_zero, List.set_cons_succ]
          refine LateH.take (i := 3) (oi := ⟨some 108, .move (.tmp 13), 3, "ref.go:167", #[], none⟩) (v := ?_) rfl (by kernel_rfl) rfl (by kernel_rfl) (by kernel_rfl) (fun _ _ _ h => h) (Or.inl ⟨by rfl, ?_⟩) hS (fun _ => hL) ?_
          rotate_left
          · intro wv _; go_simp; try with_reducible rfl
          try simp only [Act.put, List.setIfInBounds_toArray, List.set_cons_zero, List.set_cons_succ]
          refine LateH.take (i := 4) (oi := ⟨some 109, .indexAddr 23 (.tmp 107) (.tmp 108), 0, "ref.go:167", #[⟨2, .data⟩, ⟨3, .data⟩], none⟩) (v := ?_) rfl (by kernel_rfl) rfl (by kernel_rfl) (by kernel_rfl) (fun _ _ _ h => h) (Or.inl ⟨by rfl, ?_⟩) hS (fun _ => hL) ?_
          rotate_left
          · intro wv _; go_simp; try with_reducible rfl
          try simp only [Act.put, List.setIfInBounds_toArray, List.set_cons_zero, List.set_cons_succ]
          refine LateH.take (i := 5) (oi := ⟨some 110, .load 3 (.tmp 109), 3, "ref.go:167", #[⟨4, .data⟩], none⟩) (v := ?_) rfl (by kernel_rfl) rfl (by kernel_rfl) (by kernel_rfl) (fun _ _ _ h => h) (Or.inl ⟨by rfl, ?_⟩) hS (fun _ => hL) ?_
          rotate_left
          · intro wv hS; have hrun := (hS.out.cell (p := ⟨b1, o1 + i, none⟩) HB1.out).trans K0.out; go_simp; try with_reducible rfl
          try simp only [Act.put, List.setIfInBounds_toArray, List.set_cons_zero, List.set_cons_succ]
          refine LateH.take (i := 8) (oi := ⟨some 113, .fieldAddr 25 (.tmp 11) 2, 0, "ref.go:167", #[], none⟩) (v := ?_) rfl (by kernel_rfl) rfl (by kernel_rfl) (by kernel_rfl) (fun _ _ _ h => h) (Or.inl ⟨by rfl, ?_⟩) hS (fun _ => hL) ?_
          rotate_left
          · intro wv _; go_simp; try with_reducible rfl
          try simp only [Act.put, List.setIfInBounds_toArray, List.set_cons_zero, List.set_cons_succ]
          refine LateH.takeL (i := 9) (oi := ⟨some 114, .load 23 (.tmp 113), 23, "ref.go:167", #[⟨8, .data⟩], none⟩) (v := ?_) rfl (by kernel_rfl) rfl (by kernel_rfl) (by kernel_rfl) (by kernel_rfl) (fun _ _ _ h => h) (Or.inl ⟨by rfl, ?_⟩) hS (fun _ => hL) ?_
          rotate_left
          · intro wv hL; have hrun := hL.out.2; go_simp; try with_reducible rfl
          try simp only [Act.put, List.setIfInBounds_toArray, List.set_cons_zero, List.set_cons_succ]
          refine LateH.take (i := 10) (oi := ⟨some 115, .move (.tmp 9), 23, "ref.go:167", #[], none⟩) (v := ?_) rfl (by kernel_rfl) rfl (by kernel_rfl) (by kernel_rfl) (fun _ _ _ h => h) (Or.inl ⟨by rfl, ?_⟩) hS (fun _ => hL) ?_
          rotate_left
          · intro wv _; go_simp; try with_reducible rfl
          try simp only [Act.put, List.setIfInBounds_toArray, List.set_cons_zero, List.set_cons_succ]
          refine LateH.take (i := 11) (oi := ⟨some 116, .move (.tmp 13), 3, "ref.go:167", #[], none⟩) (v := ?_) rfl (by kernel_rfl) rfl (by kernel_rfl) (by kernel_rfl) (fun _ _ _ h => h) (Or.inl ⟨by rfl, ?_⟩) hS (fun _ => hL) ?_
          rotate_left
          · intro wv _; go_simp; try with_reducible rfl
          try simp only [Act.put, List.setIfInBounds_toArray, List.set_cons_zero, List.set_cons_succ]
          refine LateH.take (i := 12) (oi := ⟨some 117, .binOp .add 3 (.tmp 116) (.const (Value.int IntKind.i64 1)) 3, 3, "ref.go:167", #[⟨11, .data⟩], none⟩) (v := ?_) rfl (by kernel_rfl) rfl (by kernel_rfl) (by kernel_rfl) (fun _ _ _ h => h) (Or.inl ⟨by rfl, ?_⟩) hS (fun _ => hL) ?_
          rotate_left
          · intro wv _; go_simp; try with_reducible rfl
          try simp only [Act.put, List.setIfInBounds_toArray, List.set_cons_zero, List.set_cons_succ]
          refine LateH.take (i := 13) (oi := ⟨some 118, .indexAddr 23 (.tmp 115) (.tmp 117), 0, "ref.go:167", #[⟨10, .data⟩, ⟨12, .data⟩], none⟩) (v := ?_) rfl (by kernel_rfl) rfl (by kernel_rfl) (by kernel_rfl) (fun _ _ _ h => h) (Or.inl ⟨by rfl, ?_⟩) hS (fun _ => hL) ?_
          rotate_left
          · intro wv _; go_simp; try with_reducible rfl
          try simp only [Act.put, List.setIfInBounds_toArray, List.set_cons_zero, List.set_cons_succ]
          refine LateH.take (i := 14) (oi := ⟨some 119, .load 3 (.tmp 118), 3, "ref.go:167", #[⟨13, .data⟩], none⟩) (v := ?_) rfl (by kernel_rfl) rfl (by kernel_rfl) (by kernel_rfl) (fun _ _ _ h => h) (Or.inl ⟨by rfl, ?_⟩) hS (fun _ => hL) ?_
          rotate_left
          · intro wv hS; have hrun := (hS.out.cell (p := ⟨b1, o1 + i1, none⟩) HB1.out).trans K1.out; go_simp; try with_reducible rfl
          try simp only [Act.put, List.setIfInBounds_toArray, List.set_cons_zero, List.set_cons_succ]
          refine LateH.ready (rs := [6, 15]) (by kernel_rfl) (by simp) (LateR.cons (g2 := true) (o := ⟨some 111, .buildSlice 23 1 #[(0, .tmp 110)], 23, "ref.go:167", #[⟨5, .data⟩], none⟩) rfl (by rfl) (fun K hK => ?_) (LateR.cons (g2 := true) (o := ⟨some 120, .buildSlice 23 1 #[(0, .tmp 119)], 23, "ref.go:167", #[⟨14, .data⟩], none⟩) rfl (by rfl) (fun K hK => ?_) LateR.nil))
          ·
           go_simp
           have q6 := HKS.out.lit v0
           replace HKS := Lib.hid q6.1
           have HL6 := Lib.hid q6.2
           clear q6
           replace hS := Lib.hid HKS.out.be
           replace hL := HKS.out.two
           refine Shut.out hK _ _ hS (fun _ => hL) ?_
           clear hK K
           try simp only [Act.put, List.setIfInBounds_toArray, List.set_cons_zero, List.set_cons_succ]
           refine LateH.ready (rs := [7, 15]) (by kernel_rfl) (by simp) (LateR.cons (g2 := true) (o := ⟨some 112, .call { callee := .builtin .append, args := #[.tmp 106, .tmp 111], argTypes := #[23, 23] }, 23, "ref.go:167", #[⟨1, .data⟩, ⟨6, .data⟩], none⟩) rfl (by rfl) (fun K hK => ?_) (LateR.cons (g2 := true) (o := ⟨some 120, .buildSlice 23 1 #[(0, .tmp 119)], 23, "ref.go:167", #[⟨14, .data⟩], none⟩) rfl (by rfl) (fun K hK => ?_) LateR.nil))
           ·
            obtain ⟨B7, d7, w7, ap7, hks7, hli7⟩ := HKS.out.appK HL6.out hj100
            refine op_app_run7 (by rfl) rfl rfl rfl (ap7 _) ?_
            replace HKS := Lib.hid hks7
            clear ap7 hks7 hli7 HL6
            replace hS := Lib.hid HKS.out.be
            replace hL := HKS.out.two
            refine Shut.out hK _ _ hS (fun _ => hL) ?_
            clear hK K
            try simp only [Act.put, List.setIfInBounds_toArray, List.set_cons_zero, List.set_cons_succ]
            refine LateH.take (i := 17) (oi := ⟨some 122, .fieldAddr 25 (.tmp 11) 1, 0, "ref.go:167", #[⟨0, .phase⟩, ⟨1, .phase⟩, ⟨2, .phase⟩, ⟨3, .phase⟩, ⟨4, .phase⟩, ⟨5, .phase⟩, ⟨6, .phase⟩, ⟨7, .phase⟩, ⟨8, .phase⟩, ⟨9, .phase⟩, ⟨10, .textOnly .lateStores⟩, ⟨11, .textOnly .lateStores⟩, ⟨12, .textOnly .lateStores⟩, ⟨13, .textOnly .lateStores⟩, ⟨14, .textOnly .lateStores⟩, ⟨15, .textOnly .lateStores⟩, ⟨16, .textOnly .lateStoresUnsure⟩], none⟩) (v := ?_) rfl (by kernel_rfl) rfl (by kernel_rfl) (by kernel_rfl) (fun _ _ _ h => h) (Or.inl ⟨by rfl, ?_⟩) hS (fun _ => hL) ?_
            rotate_left
            · intro wv _; go_simp; try with_reducible rfl
            try simp only [Act.put, List.setIfInBounds_toArray, List.set_cons_zero, List.set_cons_succ]
            refine LateH.ready (rs := [15]) (by kernel_rfl) (by simp) (LateR.cons (g2 := true) (o := ⟨some 120, .buildSlice 23 1 #[(0, .tmp 119)], 23, "ref.go:167", #[⟨14, .data⟩], none⟩) rfl (by rfl) (fun K hK => ?_) LateR.nil)
            go_simp
            have q15 := HKS.out.lit v1
            replace HKS := Lib.hid q15.1
            have HL15 := Lib.hid q15.2
            clear q15
            replace hS := Lib.hid HKS.out.be
            replace hL := HKS.out.two
            refine Shut.out hK _ _ hS (fun _ => hL) ?_
            clear hK K
            try simp only [Act.put, List.setIfInBounds_toArray, List.set_cons_zero, List.set_cons_succ]
            refine LateH.ready (rs := [16]) (by kernel_rfl) (by simp) (LateR.cons (g2 := true) (o := ⟨some 121, .call { callee := .builtin .append, args := #[.tmp 114, .tmp 120], argTypes := #[23, 23] }, 23, "ref.go:167", #[⟨9, .data⟩, ⟨15, .data⟩, ⟨7, .chain⟩], none⟩) rfl (by rfl) (fun K hK => ?_) LateR.nil)
            obtain ⟨B8, d8, w8, ap8, hks8, hli8⟩ := HKS.out.appS HL15.out hj100
            refine op_app_run7 (by rfl) rfl rfl rfl (ap8 _) ?_
            replace HKS := Lib.hid hks8
            clear ap8 hks8 hli8 HL15
            replace hS := Lib.hid HKS.out.be
            replace hL := HKS.out.two
            have e1 := HKS.out.two.out.1
            have f1 : w8.frozen? ⟨sp, 1, none⟩ = false := blk_frozen HKS.out.p 1
            refine Shut.out hK _ _ hS (fun _ => hL) ?_
            clear hK K
            try simp only [Act.put, List.setIfInBounds_toArray, List.set_cons_zero, List.set_cons_succ]
            refine LateH.ready (rs := [18]) (by kernel_rfl) (by simp) (LateR.cons (g2 := false) (o := ⟨none, .store 23 (.tmp 122) (.tmp 112), 0, "ref.go:167", #[⟨17, .data⟩, ⟨7, .data⟩, ⟨16, .chain⟩, ⟨0, .phase⟩, ⟨1, .phase⟩, ⟨2, .phase⟩, ⟨3, .phase⟩, ⟨4, .phase⟩, ⟨5, .phase⟩, ⟨6, .phase⟩, ⟨7, .phase⟩, ⟨8, .phase⟩, ⟨9, .phase⟩, ⟨10, .textOnly .lateStores⟩, ⟨11, .textOnly .lateStores⟩, ⟨12, .textOnly .lateStores⟩, ⟨13, .textOnly .lateStores⟩, ⟨14, .textOnly .lateStores⟩, ⟨15, .textOnly .lateStores⟩, ⟨16, .textOnly .lateStoresUnsure⟩], none⟩) rfl (by rfl) (fun K hK => ?_) LateR.nil)
            go_simp
            replace HKS := Lib.hid (show KS w4 _ sp [.slice O j dd, .slice B7 (j2 + 1) d7, .slice O2 j2 d2, .int .i64 x, .int .i64 y, .int .i64 z] _ _ _ _ _ _ _ _ _ from HKS.out.setp 1 (.slice B7 (j2 + 1) d7))
            clear e1 f1 hL
            generalize w8.setCell ⟨sp, 1, none⟩ (.slice B7 (j2 + 1) d7) = w18 at *
            replace hS := Lib.hid HKS.out.be
            have e2 := HKS.out.two.out.2
            have f2 : w18.frozen? ⟨sp, 2, none⟩ = false := blk_frozen HKS.out.p 2
            refine Shut.out hK _ _ hS (fun h => nomatch h) ?_
            clear hK K
            try simp only [Act.put, List.setIfInBounds_toArray, List.set_cons_zero, List.set_cons_succ]
            refine LateH.take (i := 19) (oi := ⟨some 123, .fieldAddr 25 (.tmp 11) 2, 0, "ref.go:167", #[⟨0, .phase⟩, ⟨1, .phase⟩, ⟨2, .phase⟩, ⟨3, .phase⟩, ⟨4, .phase⟩, ⟨5, .phase⟩, ⟨6, .phase⟩, ⟨7, .phase⟩, ⟨8, .phase⟩, ⟨9, .phase⟩, ⟨10, .phase⟩, ⟨11, .phase⟩, ⟨12, .phase⟩, ⟨13, .phase⟩, ⟨14, .phase⟩, ⟨15, .phase⟩, ⟨16, .phase⟩, ⟨17, .phase⟩, ⟨18, .phase⟩], none⟩) (v := ?_) rfl (by kernel_rfl) rfl (by kernel_rfl) (by kernel_rfl) (fun _ _ _ h => h) (Or.inl ⟨by rfl, ?_⟩) hS (fun h => nomatch h) ?_
            rotate_left
            · intro wv _; go_simp; try with_reducible rfl
            try simp only [Act.put, List.setIfInBounds_toArray, List.set_cons_zero, List.set_cons_succ]
            refine LateH.ready (rs := [20]) (by kernel_rfl) (by simp) (LateR.cons (g2 := false) (o := ⟨none, .store 23 (.tmp 123) (.tmp 121), 0, "ref.go:167", #[⟨19, .data⟩, ⟨16, .data⟩, ⟨18, .chain⟩, ⟨0, .phase⟩, ⟨1, .phase⟩, ⟨2, .phase⟩, ⟨3, .phase⟩, ⟨4, .phase⟩, ⟨5, .phase⟩, ⟨6, .phase⟩, ⟨7, .phase⟩, ⟨8, .phase⟩, ⟨9, .phase⟩, ⟨10, .phase⟩, ⟨11, .phase⟩, ⟨12, .phase⟩, ⟨13, .phase⟩, ⟨14, .phase⟩, ⟨15, .phase⟩, ⟨16, .phase⟩, ⟨17, .phase⟩, ⟨18, .phase⟩], none⟩) rfl (by rfl) (fun K hK => ?_) LateR.nil)
            go_simp
            replace HKS := Lib.hid (show KS w4 _ sp [.slice O j dd, .slice B7 (j2 + 1) d7, .slice B8 (j2 + 1) d8, .int .i64 x, .int .i64 y, .int .i64 z] _ _ _ _ _ _ _ _ _ from HKS.out.setp 2 (.slice B8 (j2 + 1) d8))
            clear e2 f2
            generalize w18.setCell ⟨sp, 2, none⟩ (.slice B8 (j2 + 1) d8) = w20 at *
            replace hS := Lib.hid HKS.out.be
            refine Shut.out hK _ _ hS (fun h => nomatch h) ?_
            clear hK K
            try simp only [Act.put, List.setIfInBounds_toArray, List.set_cons_zero, List.set_cons_succ]
            refine LateH.done (by kernel_rfl) ?_ _
            refine NoPanic.normal ?_
            go_wp2
            go_roundw
            case rel => exact ⟨i + 2, j2 + 1, d7, d8, B7, B8, by go_num, Lib.hid (by have := HIJ.out; omega), by have := HLT.out; omega, by have h := HKS.out; rw [← HA.out.1, ← HA.out.2] at h; exact h⟩
            case measure => have := HLT.out; simp [intOf]; omega
           ·
            go_simp
            have q15 := HKS.out.lit v1
            rw [show (wr.drew.alloc (.cells #[.int .i64 v0] 3)).heap.size = wr.heap.size + 1 by simp] at q15
            replace HKS := Lib.hid q15.1
            have HL15 := Lib.hid q15.2
            clear q15
            replace HL6 := Lib.hid (HL6.out.alloc (.cells #[.int .i64 v1] 3))
            replace hS := Lib.hid HKS.out.be
            replace hL := HKS.out.two
            refine Shut.out hK _ _ hS (fun _ => hL) ?_
            clear hK K
            try simp only [Act.put, List.setIfInBounds_toArray, List.set_cons_zero, List.set_cons_succ]
            refine LateH.ready (rs := [7]) (by kernel_rfl) (by simp) (LateR.cons (g2 := true) (o := ⟨some 112, .call { callee := .builtin .append, args := #[.tmp 106, .tmp 111], argTypes := #[23, 23] }, 23, "ref.go:167", #[⟨1, .data⟩, ⟨6, .data⟩], none⟩) rfl (by rfl) (fun K hK => ?_) LateR.nil)
            obtain ⟨B7, d7, w7, ap7, hks7, hli7⟩ := HKS.out.appK HL6.out hj100
            refine op_app_run7 (by rfl) rfl rfl rfl (ap7 _) ?_
            replace HKS := Lib.hid hks7
            replace HL15 := Lib.hid (hli7 _ _ HL15.out)
            clear ap7 hks7 hli7 HL6
            replace hS := Lib.hid HKS.out.be
            replace hL := HKS.out.two
            refine Shut.out hK _ _ hS (fun _ => hL) ?_
            clear hK K
            try simp only [Act.put, List.setIfInBounds_toArray, List.set_cons_zero, List.set_cons_succ]
            refine LateH.take (i := 17) (oi := ⟨some 122, .fieldAddr 25 (.tmp 11) 1, 0, "ref.go:167", #[⟨0, .phase⟩, ⟨1, .phase⟩, ⟨2, .phase⟩, ⟨3, .phase⟩, ⟨4, .phase⟩, ⟨5, .phase⟩, ⟨6, .phase⟩, ⟨7, .phase⟩, ⟨8, .phase⟩, ⟨9, .phase⟩, ⟨10, .textOnly .lateStores⟩, ⟨11, .textOnly .lateStores⟩, ⟨12, .textOnly .lateStores⟩, ⟨13, .textOnly .lateStores⟩, ⟨14, .textOnly .lateStores⟩, ⟨15, .textOnly .lateStores⟩, ⟨16, .textOnly .lateStoresUnsure⟩], none⟩) (v := ?_) rfl (by kernel_rfl) rfl (by kernel_rfl) (by kernel_rfl) (fun _ _ _ h => h) (Or.inl ⟨by rfl, ?_⟩) hS (fun _ => hL) ?_
            rotate_left
            · intro wv _; go_simp; try with_reducible rfl
            try simp only [Act.put, List.setIfInBounds_toArray, List.set_cons_zero, List.set_cons_succ]
            refine LateH.ready (rs := [16]) (by kernel_rfl) (by simp) (LateR.cons (g2 := true) (o := ⟨some 121, .call { callee := .builtin .append, args := #[.tmp 114, .tmp 120], argTypes := #[23, 23] }, 23, "ref.go:167", #[⟨9, .data⟩, ⟨15, .data⟩, ⟨7, .chain⟩], none⟩) rfl (by rfl) (fun K hK => ?_) LateR.nil)
            obtain ⟨B8, d8, w8, ap8, hks8, hli8⟩ := HKS.out.appS HL15.out hj100
            refine op_app_run7 (by rfl) rfl rfl rfl (ap8 _) ?_
            replace HKS := Lib.hid hks8
            clear ap8 hks8 hli8 HL15
            replace hS := Lib.hid HKS.out.be
            replace hL := HKS.out.two
            have e1 := HKS.out.two.out.1
            have f1 : w8.frozen? ⟨sp, 1, none⟩ = false := blk_frozen HKS.out.p 1
            refine Shut.out hK _ _ hS (fun _ => hL) ?_
            clear hK K
            try simp only [Act.put, List.setIfInBounds_toArray, List.set_cons_zero, List.set_cons_succ]
            refine LateH.ready (rs := [18]) (by kernel_rfl) (by simp) (LateR.cons (g2 := false) (o := ⟨none, .store 23 (.tmp 122) (.tmp 112), 0, "ref.go:167", #[⟨17, .data⟩, ⟨7, .data⟩, ⟨16, .chain⟩, ⟨0, .phase⟩, ⟨1, .phase⟩, ⟨2, .phase⟩, ⟨3, .phase⟩, ⟨4, .phase⟩, ⟨5, .phase⟩, ⟨6, .phase⟩, ⟨7, .phase⟩, ⟨8, .phase⟩, ⟨9, .phase⟩, ⟨10, .textOnly .lateStores⟩, ⟨11, .textOnly .lateStores⟩, ⟨12, .textOnly .lateStores⟩, ⟨13, .textOnly .lateStores⟩, ⟨14, .textOnly .lateStores⟩, ⟨15, .textOnly .lateStores⟩, ⟨16, .textOnly .lateStoresUnsure⟩], none⟩) rfl (by rfl) (fun K hK => ?_) LateR.nil)
            go_simp
            replace HKS := Lib.hid (show KS w4 _ sp [.slice O j dd, .slice B7 (j2 + 1) d7, .slice O2 j2 d2, .int .i64 x, .int .i64 y, .int .i64 z] _ _ _ _ _ _ _ _ _ from HKS.out.setp 1 (.slice B7 (j2 + 1) d7))
            clear e1 f1 hL
            generalize w8.setCell ⟨sp, 1, none⟩ (.slice B7 (j2 + 1) d7) = w18 at *
            replace hS := Lib.hid HKS.out.be
            have e2 := HKS.out.two.out.2
            have f2 : w18.frozen? ⟨sp, 2, none⟩ = false := blk_frozen HKS.out.p 2
            refine Shut.out hK _ _ hS (fun h => nomatch h) ?_
            clear hK K
            try simp only [Act.put, List.setIfInBounds_toArray, List.set_cons_zero, List.set_cons_succ]
            refine LateH.take (i := 19) (oi := ⟨some 123, .fieldAddr 25 (.tmp 11) 2, 0, "ref.go:167", #[⟨0, .phase⟩, ⟨1, .phase⟩, ⟨2, .phase⟩, ⟨3, .phase⟩, ⟨4, .phase⟩, ⟨5, .phase⟩, ⟨6, .phase⟩, ⟨7, .phase⟩, ⟨8, .phase⟩, ⟨9, .phase⟩, ⟨10, .phase⟩, ⟨11, .phase⟩, ⟨12, .phase⟩, ⟨13, .phase⟩, ⟨14, .phase⟩, ⟨15, .phase⟩, ⟨16, .phase⟩, ⟨17, .phase⟩, ⟨18, .phase⟩], none⟩) (v := ?_) rfl (by kernel_rfl) rfl (by kernel_rfl) (by kernel_rfl) (fun _ _ _ h => h) (Or.inl ⟨by rfl, ?_⟩) hS (fun h => nomatch h) ?_
            rotate_left
            · intro wv _; go_simp; try with_reducible rfl
            try simp only [Act.put, List.setIfInBounds_toArray, List.set_cons_zero, List.set_cons_succ]
            refine LateH.ready (rs := [20]) (by kernel_rfl) (by simp) (LateR.cons (g2 := false) (o := ⟨none, .store 23 (.tmp 123) (.tmp 121), 0, "ref.go:167", #[⟨19, .data⟩, ⟨16, .data⟩, ⟨18, .chain⟩, ⟨0, .phase⟩, ⟨1, .phase⟩, ⟨2, .phase⟩, ⟨3, .phase⟩, ⟨4, .phase⟩, ⟨5, .phase⟩, ⟨6, .phase⟩, ⟨7, .phase⟩, ⟨8, .phase⟩, ⟨9, .phase⟩, ⟨10, .phase⟩, ⟨11, .phase⟩, ⟨12, .phase⟩, ⟨13, .phase⟩, ⟨14, .phase⟩, ⟨15, .phase⟩, ⟨16, .phase⟩, ⟨17, .phase⟩, ⟨18, .phase⟩], none⟩) rfl (by rfl) (fun K hK => ?_) LateR.nil)
            go_simp
            replace HKS := Lib.hid (show KS w4 _ sp [.slice O j dd, .slice B7 (j2 + 1) d7, .slice B8 (j2 + 1) d8, .int .i64 x, .int .i64 y, .int .i64 z] _ _ _ _ _ _ _ _ _ from HKS.out.setp 2 (.slice B8 (j2 + 1) d8))
            clear e2 f2
            generalize w18.setCell ⟨sp, 2, none⟩ (.slice B8 (j2 + 1) d8) = w20 at *
            replace hS := Lib.hid HKS.out.be
            refine Shut.out hK _ _ hS (fun h => nomatch h) ?_
            clear hK K
            try simp only [Act.put, List.setIfInBounds_toArray, List.set_cons_zero, List.set_cons_succ]
            refine LateH.done (by kernel_rfl) ?_ _
            refine NoPanic.normal ?_
            go_wp2
            go_roundw
            case rel => exact ⟨i + 2, j2 + 1, d7, d8, B7, B8, by go_num, Lib.hid (by have := HIJ.out; omega), by have := HLT.out; omega, by have h := HKS.out; rw [← HA.out.1, ← HA.out.2] at h; exact h⟩
            case measure => have := HLT.out; simp [intOf]; omega
          ·
           go_simp
           have q15 := HKS.out.lit v1
           replace HKS := Lib.hid q15.1
           have HL15 := Lib.hid q15.2
           clear q15
           replace hS := Lib.hid HKS.out.be
           replace hL := HKS.out.two
           refine Shut.out hK _ _ hS (fun _ => hL) ?_
           clear hK K
           try simp only [Act.put, List.setIfInBounds_toArray, List.set_cons_zero, List.set_cons_succ]
           refine LateH.ready (rs := [6]) (by kernel_rfl) (by simp) (LateR.cons (g2 := true) (o := ⟨some 111, .buildSlice 23 1 #[(0, .tmp 110)], 23, "ref.go:167", #[⟨5, .data⟩], none⟩) rfl (by rfl) (fun K hK => ?_) LateR.nil)
           go_simp
           have q6 := HKS.out.lit v0
           rw [show (wr.drew.alloc (.cells #[.int .i64 v1] 3)).heap.size = wr.heap.size + 1 by simp] at q6
           replace HKS := Lib.hid q6.1
           have HL6 := Lib.hid q6.2
           clear q6
           replace HL15 := Lib.hid (HL15.out.alloc (.cells #[.int .i64 v0] 3))
           replace hS := Lib.hid HKS.out.be
           replace hL := HKS.out.two
           refine Shut.out hK _ _ hS (fun _ => hL) ?_
           clear hK K
           try simp only [Act.put, List.setIfInBounds_toArray, List.set_cons_zero, List.set_cons_succ]
           refine LateH.ready (rs := [7]) (by kernel_rfl) (by simp) (LateR.cons (g2 := true) (o := ⟨some 112, .call { callee := .builtin .append, args := #[.tmp 106, .tmp 111], argTypes := #[23, 23] }, 23, "ref.go:167", #[⟨1, .data⟩, ⟨6, .data⟩], none⟩) rfl (by rfl) (fun K hK => ?_) LateR.nil)
           obtain ⟨B7, d7, w7, ap7, hks7, hli7⟩ := HKS.out.appK HL6.out hj100
           refine op_app_run7 (by rfl) rfl rfl rfl (ap7 _) ?_
           replace HKS := Lib.hid hks7
           replace HL15 := Lib.hid (hli7 _ _ HL15.out)
           clear ap7 hks7 hli7 HL6
           replace hS := Lib.hid HKS.out.be
           replace hL := HKS.out.two
           refine Shut.out hK _ _ hS (fun _ => hL) ?_
           clear hK K
           try simp only [Act.put, List.setIfInBounds_toArray, List.set_cons_zero, List.set_cons_succ]
           refine LateH.take (i := 17) (oi := ⟨some 122, .fieldAddr 25 (.tmp 11) 1, 0, "ref.go:167", #[⟨0, .phase⟩, ⟨1, .phase⟩, ⟨2, .phase⟩, ⟨3, .phase⟩, ⟨4, .phase⟩, ⟨5, .phase⟩, ⟨6, .phase⟩, ⟨7, .phase⟩, ⟨8, .phase⟩, ⟨9, .phase⟩, ⟨10, .textOnly .lateStores⟩, ⟨11, .textOnly .lateStores⟩, ⟨12, .textOnly .lateStores⟩, ⟨13, .textOnly .lateStores⟩, ⟨14, .textOnly .lateStores⟩, ⟨15, .textOnly .lateStores⟩, ⟨16, .textOnly .lateStoresUnsure⟩], none⟩) (v := ?_) rfl (by kernel_rfl) rfl (by kernel_rfl) (by kernel_rfl) (fun _ _ _ h => h) (Or.inl ⟨by rfl, ?_⟩) hS (fun _ => hL) ?_
           rotate_left
           · intro wv _; go_simp; try with_reducible rfl
           try simp only [Act.put, List.setIfInBounds_toArray, List.set_cons_zero, List.set_cons_succ]
           refine LateH.ready (rs := [16]) (by kernel_rfl) (by simp) (LateR.cons (g2 := true) (o := ⟨some 121, .call { callee := .builtin .append, args := #[.tmp 114, .tmp 120], argTypes := #[23, 23] }, 23, "ref.go:167", #[⟨9, .data⟩, ⟨15, .data⟩, ⟨7, .chain⟩], none⟩) rfl (by rfl) (fun K hK => ?_) LateR.nil)
           obtain ⟨B8, d8, w8, ap8, hks8, hli8⟩ := HKS.out.appS HL15.out hj100
           refine op_app_run7 (by rfl) rfl rfl rfl (ap8 _) ?_
           replace HKS := Lib.hid hks8
           clear ap8 hks8 hli8 HL15
           replace hS := Lib.hid HKS.out.be
           replace hL := HKS.out.two
           have e1 := HKS.out.two.out.1
           have f1 : w8.frozen? ⟨sp, 1, none⟩ = false := blk_frozen HKS.out.p 1
           refine Shut.out hK _ _ hS (fun _ => hL) ?_
           clear hK K
           try simp only [Act.put, List.setIfInBounds_toArray, List.set_cons_zero, List.set_cons_succ]
           refine LateH.ready (rs := [18]) (by kernel_rfl) (by simp) (LateR.cons (g2 := false) (o := ⟨none, .store 23 (.tmp 122) (.tmp 112), 0, "ref.go:167", #[⟨17, .data⟩, ⟨7, .data⟩, ⟨16, .chain⟩, ⟨0, .phase⟩, ⟨1, .phase⟩, ⟨2, .phase⟩, ⟨3, .phase⟩, ⟨4, .phase⟩, ⟨5, .phase⟩, ⟨6, .phase⟩, ⟨7, .phase⟩, ⟨8, .phase⟩, ⟨9, .phase⟩, ⟨10, .textOnly .lateStores⟩, ⟨11, .textOnly .lateStores⟩, ⟨12, .textOnly .lateStores⟩, ⟨13, .textOnly .lateStores⟩, ⟨14, .textOnly .lateStores⟩, ⟨15, .textOnly .lateStores⟩, ⟨16, .textOnly .lateStoresUnsure⟩], none⟩) rfl (by rfl) (fun K hK => ?_) LateR.nil)
           go_simp
           replace HKS := Lib.hid (show KS w4 _ sp [.slice O j dd, .slice B7 (j2 + 1) d7, .slice O2 j2 d2, .int .i64 x, .int .i64 y, .int .i64 z] _ _ _ _ _ _ _ _ _ from HKS.out.setp 1 (.slice B7 (j2 + 1) d7))
           clear e1 f1 hL
           generalize w8.setCell ⟨sp, 1, none⟩ (.slice B7 (j2 + 1) d7) = w18 at *
           replace hS := Lib.hid HKS.out.be
           have e2 := HKS.out.two.out.2
           have f2 : w18.frozen? ⟨sp, 2, none⟩ = false := blk_frozen HKS.out.p 2
           refine Shut.out hK _ _ hS (fun h => nomatch h) ?_
           clear hK K
           try simp only [Act.put, List.setIfInBounds_toArray, List.set_cons_zero, List.set_cons_succ]
           refine LateH.take (i := 19) (oi := ⟨some 123, .fieldAddr 25 (.tmp 11) 2, 0, "ref.go:167", #[⟨0, .phase⟩, ⟨1, .phase⟩, ⟨2, .phase⟩, ⟨3, .phase⟩, ⟨4, .phase⟩, ⟨5, .phase⟩, ⟨6, .phase⟩, ⟨7, .phase⟩, ⟨8, .phase⟩, ⟨9, .phase⟩, ⟨10, .phase⟩, ⟨11, .phase⟩, ⟨12, .phase⟩, ⟨13, .phase⟩, ⟨14, .phase⟩, ⟨15, .phase⟩, ⟨16, .phase⟩, ⟨17, .phase⟩, ⟨18, .phase⟩], none⟩) (v := ?_) rfl (by kernel_rfl) rfl (by kernel_rfl) (by kernel_rfl) (fun _ _ _ h => h) (Or.inl ⟨by rfl, ?_⟩) hS (fun h => nomatch h) ?_
           rotate_left
           · intro wv _; go_simp; try with_reducible rfl
           try simp only [Act.put, List.setIfInBounds_toArray, List.set_cons_zero, List.set_cons_succ]
           refine LateH.ready (rs := [20]) (by kernel_rfl) (by simp) (LateR.cons (g2 := false) (o := ⟨none, .store 23 (.tmp 123) (.tmp 121), 0, "ref.go:167", #[⟨19, .data⟩, ⟨16, .data⟩, ⟨18, .chain⟩, ⟨0, .phase⟩, ⟨1, .phase⟩, ⟨2, .phase⟩, ⟨3, .phase⟩, ⟨4, .phase⟩, ⟨5, .phase⟩, ⟨6, .phase⟩, ⟨7, .phase⟩, ⟨8, .phase⟩, ⟨9, .phase⟩, ⟨10, .phase⟩, ⟨11, .phase⟩, ⟨12, .phase⟩, ⟨13, .phase⟩, ⟨14, .phase⟩, ⟨15, .phase⟩, ⟨16, .phase⟩, ⟨17, .phase⟩, ⟨18, .phase⟩], none⟩) rfl (by rfl) (fun K hK => ?_) LateR.nil)
           go_simp
           replace HKS := Lib.hid (show KS w4 _ sp [.slice O j dd, .slice B7 (j2 + 1) d7, .slice B8 (j2 + 1) d8, .int .i64 x, .int .i64 y, .int .i64 z] _ _ _ _ _ _ _ _ _ from HKS.out.setp 2 (.slice B8 (j2 + 1) d8))
           clear e2 f2
           generalize w18.setCell ⟨sp, 2, none⟩ (.slice B8 (j2 + 1) d8) = w20 at *
           replace hS := Lib.hid HKS.out.be
           refine Shut.out hK _ _ hS (fun h => nomatch h) ?_
           clear hK K
           try simp only [Act.put, List.setIfInBounds_toArray, List.set_cons_zero, List.set_cons_succ]
           refine LateH.done (by kernel_rfl) ?_ _
           refine NoPanic.normal ?_
           go_wp2
           go_roundw
           case rel => exact ⟨i + 2, j2 + 1, d7, d8, B7, B8, by go_num, Lib.hid (by have := HIJ.out; omega), by have := HLT.out; omega, by have h := HKS.out; rw [← HA.out.1, ← HA.out.2] at h; exact h⟩
           case measure => have := HLT.out; simp [intOf]; omega
        · have c1 : decide ((i : Int) + 1 < (n2 : Int)) = false := by simp; omega
          have c1n : decide (i + 1 < n2) = false := by simp; omega
          have hpl := objs_pairs kc l2 HKC.out
          have hks := HKS.out
          rw [List.take_of_length_le (by have := HIJ.out; have := HN2.out; omega), List.take_of_length_le (by have := HIJ.out; have := HN2.out; omega)] at hks
          have hj20 : j2 ≤ 100 := by have := HIJ.out; omega
          have HP := Lib.hid hks.p; have HCO := Lib.hid hks.c; have HKO := Lib.hid hks.k; have HSO := Lib.hid hks.s
          have hbe := hks.be
          rw [← HSP.out] at hbe
          replace FR := Lib.hid (FR.out.step hbe)
          clear hbe hpl hks HKS hlt HIJ
          have RT := fun (W : World) (h1 : I4s W O j dd (quads l1)) (h2 : Is W O1 j2 d1 (evens l2)) (h3 : Is W O2 j2 d2 (odds l2)) => refRight13_any O j dd O1 j2 d1 O2 j2 d2 (quads l1) (evens l2) (odds l2) x y z W h1 h2 h3 (by omega) (by omega) (by omega)
          have p0 : wr.cell? ⟨sp, 0, none⟩ = some (.slice O j dd) := (blk_cell HP.out 0).trans rfl
          have p1 : wr.cell? ⟨sp, 1, none⟩ = some (.slice O1 j2 d1) := (blk_cell HP.out 1).trans rfl
          have p2 : wr.cell? ⟨sp, 2, none⟩ = some (.slice O2 j2 d2) := (blk_cell HP.out 2).trans rfl
          have p3 : wr.cell? ⟨sp, 3, none⟩ = some (.int .i64 x) := (blk_cell HP.out 3).trans rfl
          have p4 : wr.cell? ⟨sp, 4, none⟩ = some (.int .i64 y) := (blk_cell HP.out 4).trans rfl
          have p5 : wr.cell? ⟨sp, 5, none⟩ = some (.int .i64 z) := (blk_cell HP.out 5).trans rfl
          cases hr : rightPg ⟨quads l1, evens l2, odds l2, x, y, z⟩
          · have HE := Lib.hid (show R = (noPg, 0, 3) by rw [← HRR.out]; unfold endPg; exact if_neg (by show ¬ rightPg ⟨quads l1, evens l2, odds l2, x, y, z⟩ = true; rw [hr]; simp))
            rw [hr] at RT
            replace RT := Lib.hid RT
            clear hr
            go_wp2_with fail
            refine (RT.out _ (i4s_own HCO.out) (is_own HKO.out) (is_own HSO.out)).mono ?_
            rintro e w6 ⟨rfl, hb⟩
            clear p0 p1 p2 p3 p4 p5
            replace HP := Lib.hid (blk_below HP.out hb (blk_lt HP.out))
            replace HCO := Lib.hid (own_below HCO.out hb); replace HKO := Lib.hid (own_below HKO.out hb); replace HSO := Lib.hid (own_below HSO.out hb)
            replace FR := Lib.hid (FR.out.step hb)
            clear hb
            have c00 : w6.cell? ⟨q, 0, none⟩ = some (.slice none 0 0) := FR.out.cell 0 0 rfl rfl rfl
            have f00 : w6.frozen? ⟨q, 0, none⟩ = false := FR.out.frozen 0 0 rfl rfl
            have c01 : w6.cell? ⟨q, 1, none⟩ = some (.slice none 0 0) := FR.out.cell 0 1 rfl rfl rfl
            have f01 : w6.frozen? ⟨q, 1, none⟩ = false := FR.out.frozen 0 1 rfl rfl
            have c02 : w6.cell? ⟨q, 2, none⟩ = some (.slice none 0 0) := FR.out.cell 0 2 rfl rfl rfl
            have f02 : w6.frozen? ⟨q, 2, none⟩ = false := FR.out.frozen 0 2 rfl rfl
            have c03 : w6.cell? ⟨q, 3, none⟩ = some (.int .i64 0) := FR.out.cell 0 3 rfl rfl rfl
            have f03 : w6.frozen? ⟨q, 3, none⟩ = false := FR.out.frozen 0 3 rfl rfl
            have c04 : w6.cell? ⟨q, 4, none⟩ = some (.int .i64 0) := FR.out.cell 0 4 rfl rfl rfl
            have f04 : w6.frozen? ⟨q, 4, none⟩ = false := FR.out.frozen 0 4 rfl rfl
            have c05 : w6.cell? ⟨q, 5, none⟩ = some (.int .i64 0) := FR.out.cell 0 5 rfl rfl rfl
            have f05 : w6.frozen? ⟨q, 5, none⟩ = false := FR.out.frozen 0 5 rfl rfl
            go_wp2
            have FZ : Fr w ((((((w6.setCell ⟨q, 0, none⟩ (.slice none 0 0)).setCell ⟨q, 1, none⟩ (.slice none 0 0)).setCell ⟨q, 2, none⟩ (.slice none 0 0)).setCell ⟨q, 3, none⟩ (.int .i64 0)).setCell ⟨q, 4, none⟩ (.int .i64 0)).setCell ⟨q, 5, none⟩ (.int .i64 0)) q [.cells #[.slice none 0 0, .slice none 0 0, .slice none 0 0, .int .i64 0, .int .i64 0, .int .i64 0] 25] := ((((((FR.out.set 0 0 rfl rfl (.slice none 0 0)).set 0 1 rfl rfl (.slice none 0 0)).set 0 2 rfl rfl (.slice none 0 0)).set 0 3 rfl rfl (.int .i64 0)).set 0 4 rfl rfl (.int .i64 0)).set 0 5 rfl rfl (.int .i64 0))
            refine bodyPost_ret (res_css Try.results18 (by rfl) (FZ.load 0 rfl rfl Try.underlying25 (by kernel_rfl))) rfl ?_
            rw [HE.out]
            exact ⟨none, 0, 0, none, 0, 0, none, 0, 0, rfl, World.ownsRow_nil _ _ _ _, World.ownsRow_nil _ _ _ _, World.ownsRow_nil _ _ _ _, FZ.out⟩
          · have HE := Lib.hid (show R = (⟨quads l1, evens l2, odds l2, x, y, z⟩, a3, 0) by rw [← HRR.out]; unfold endPg; exact if_pos (show rightPg ⟨quads l1, evens l2, odds l2, x, y, z⟩ = true from hr))
            rw [hr] at RT
            replace RT := Lib.hid RT
            clear hr
            go_wp2_with fail
            refine (RT.out _ (i4s_own HCO.out) (is_own HKO.out) (is_own HSO.out)).mono ?_
            rintro e w6 ⟨rfl, hb⟩
            clear p0 p1 p2 p3 p4 p5
            replace HP := Lib.hid (blk_below HP.out hb (blk_lt HP.out))
            replace HCO := Lib.hid (own_below HCO.out hb); replace HKO := Lib.hid (own_below HKO.out hb); replace HSO := Lib.hid (own_below HSO.out hb)
            replace FR := Lib.hid (FR.out.step hb)
            clear hb
            have c00 : w6.cell? ⟨q, 0, none⟩ = some (.slice none 0 0) := FR.out.cell 0 0 rfl rfl rfl
            have f00 : w6.frozen? ⟨q, 0, none⟩ = false := FR.out.frozen 0 0 rfl rfl
            have c01 : w6.cell? ⟨q, 1, none⟩ = some (.slice none 0 0) := FR.out.cell 0 1 rfl rfl rfl
            have f01 : w6.frozen? ⟨q, 1, none⟩ = false := FR.out.frozen 0 1 rfl rfl
            have c02 : w6.cell? ⟨q, 2, none⟩ = some (.slice none 0 0) := FR.out.cell 0 2 rfl rfl rfl
            have f02 : w6.frozen? ⟨q, 2, none⟩ = false := FR.out.frozen 0 2 rfl rfl
            have c03 : w6.cell? ⟨q, 3, none⟩ = some (.int .i64 0) := FR.out.cell 0 3 rfl rfl rfl
            have f03 : w6.frozen? ⟨q, 3, none⟩ = false := FR.out.frozen 0 3 rfl rfl
            have c04 : w6.cell? ⟨q, 4, none⟩ = some (.int .i64 0) := FR.out.cell 0 4 rfl rfl rfl
            have f04 : w6.frozen? ⟨q, 4, none⟩ = false := FR.out.frozen 0 4 rfl rfl
            have c05 : w6.cell? ⟨q, 5, none⟩ = some (.int .i64 0) := FR.out.cell 0 5 rfl rfl rfl
            have f05 : w6.frozen? ⟨q, 5, none⟩ = false := FR.out.frozen 0 5 rfl rfl
            have p0 : w6.cell? ⟨sp, 0, none⟩ = some (.slice O j dd) := (blk_cell HP.out 0).trans rfl
            have p1 : w6.cell? ⟨sp, 1, none⟩ = some (.slice O1 j2 d1) := (blk_cell HP.out 1).trans rfl
            have p2 : w6.cell? ⟨sp, 2, none⟩ = some (.slice O2 j2 d2) := (blk_cell HP.out 2).trans rfl
            have p3 : w6.cell? ⟨sp, 3, none⟩ = some (.int .i64 x) := (blk_cell HP.out 3).trans rfl
            have p4 : w6.cell? ⟨sp, 4, none⟩ = some (.int .i64 y) := (blk_cell HP.out 4).trans rfl
            have p5 : w6.cell? ⟨sp, 5, none⟩ = some (.int .i64 z) := (blk_cell HP.out 5).trans rfl
            have nq : sp ≠ q := by have := HQS.out; omega
            go_wp2
            have FZ : Fr w ((((((w6.setCell ⟨q, 0, none⟩ (.slice O j dd)).setCell ⟨q, 1, none⟩ (.slice O1 j2 d1)).setCell ⟨q, 2, none⟩ (.slice O2 j2 d2)).setCell ⟨q, 3, none⟩ (.int .i64 x)).setCell ⟨q, 4, none⟩ (.int .i64 y)).setCell ⟨q, 5, none⟩ (.int .i64 z)) q [.cells #[.slice O j dd, .slice O1 j2 d1, .slice O2 j2 d2, .int .i64 x, .int .i64 y, .int .i64 z] 25] := ((((((FR.out.set 0 0 rfl rfl (.slice O j dd)).set 0 1 rfl rfl (.slice O1 j2 d1)).set 0 2 rfl rfl (.slice O2 j2 d2)).set 0 3 rfl rfl (.int .i64 x)).set 0 4 rfl rfl (.int .i64 y)).set 0 5 rfl rfl (.int .i64 z))
            refine bodyPost_ret (res_css Try.results18 (by rfl) (FZ.load 0 rfl rfl Try.underlying25 (by kernel_rfl))) rfl ?_
            have hqs := HQS.out
            rw [HE.out]
            have oc := own_base (own_apart (own_apart (own_apart (own_apart (own_apart (own_apart (HCO.out) (k := q) (o := 0) (u := .slice O j dd) (by omega)) (k := q) (o := 1) (u := .slice O1 j2 d1) (by omega)) (k := q) (o := 2) (u := .slice O2 j2 d2) (by omega)) (k := q) (o := 3) (u := .int .i64 x) (by omega)) (k := q) (o := 4) (u := .int .i64 y) (by omega)) (k := q) (o := 5) (u := .int .i64 z) (by omega)) (show w.heap.size ≤ _ from by rw [hq]; omega)
            have ok := own_base (own_apart (own_apart (own_apart (own_apart (own_apart (own_apart (HKO.out) (k := q) (o := 0) (u := .slice O j dd) (by omega)) (k := q) (o := 1) (u := .slice O1 j2 d1) (by omega)) (k := q) (o := 2) (u := .slice O2 j2 d2) (by omega)) (k := q) (o := 3) (u := .int .i64 x) (by omega)) (k := q) (o := 4) (u := .int .i64 y) (by omega)) (k := q) (o := 5) (u := .int .i64 z) (by omega)) (show w.heap.size ≤ _ from by rw [hq]; omega)
            have os := own_base (own_apart (own_apart (own_apart (own_apart (own_apart (own_apart (HSO.out) (k := q) (o := 0) (u := .slice O j dd) (by omega)) (k := q) (o := 1) (u := .slice O1 j2 d1) (by omega)) (k := q) (o := 2) (u := .slice O2 j2 d2) (by omega)) (k := q) (o := 3) (u := .int .i64 x) (by omega)) (k := q) (o := 4) (u := .int .i64 y) (by omega)) (k := q) (o := 5) (u := .int .i64 z) (by omega)) (show w.heap.size ≤ _ from by rw [hq]; omega)
            exact ⟨_, _, _, _, _, _, _, _, _, rfl, oc, ok, os, FZ.out⟩
end Go.Proofs.Ytkoodhnfphmbnaa
