/- What the document's own Take of layer 7 answers; for slices of up to 16384 records. -/
import Derived.Test.YtombfempdfdeoaaAreD
namespace Go.Proofs.Ytombfempdfdeoaa
set_option linter.unusedVariables false
set_option linter.unusedSimpArgs false
open Go.RowKit

/-- an arena that came in stands in its variable, and behind it a variable for the answer. -/
structure AF (w0 w : World) (q : Nat) (A : Option Addr) (n c : Nat) (fr : Int) (x y : Value) : Prop where
  box : w.heap[q]? = some (.cells #[.slice A n c, .int .i64 fr] 24)
  res : w.heap[q + 1]? = some (.cells #[x, y] 24)
  bel : Below q w0 w
  sz : q + 2 ≤ w.heap.size
section
variable {w0 w w' : World} {q : Nat} {A : Option Addr} {n c : Nat} {fr : Int} {x y : Value}
theorem AF.step (h : AF w0 w q A n c fr x y) (hb : Below w.heap.size w w') : AF w0 w' q A n c fr x y := by
  have := h.sz
  exact ⟨blk_below h.box hb (by omega), blk_below h.res hb (by omega), h.bel.trans (hb.mono (by omega)), Nat.le_trans h.sz hb.size⟩
theorem AF.cells (h : AF w0 w q A n c fr x y) : w.cell? ⟨q, 0, none⟩ = some (.slice A n c) ∧ w.cell? ⟨q, 1, none⟩ = some (.int .i64 fr) ∧ w.cell? ⟨q + 1, 0, none⟩ = some x ∧ w.cell? ⟨q + 1, 1, none⟩ = some y ∧ w.frozen? ⟨q + 1, 0, none⟩ = false ∧ w.frozen? ⟨q + 1, 1, none⟩ = false := by
  have a := blk_cell h.box 0; have b := blk_cell h.box 1; have d := blk_cell h.res 0; have e := blk_cell h.res 1
  simp only [List.getElem?_toArray, List.getElem?_cons_zero, List.getElem?_cons_succ] at a b d e
  exact ⟨a, b, d, e, blk_frozen h.res 0, blk_frozen h.res 1⟩
theorem AF.set (h : AF w0 w q A n c fr x y) {k o : Nat} {v : Value} (hk : q ≤ k) (h1 : k ≠ q) (h2 : k ≠ q + 1) : AF w0 (w.setCell ⟨k, o, none⟩ v) q A n c fr x y :=
  ⟨by rw [Below.heap_setCell _ _ _ _ (fun e => h1 (by simpa using e.symm))]; exact h.box, by rw [Below.heap_setCell _ _ _ _ (fun e => h2 (by simpa using e.symm))]; exact h.res, h.bel.setCell hk _, by have := h.sz; simpa [World.setCell] using this⟩
/-- the answer's variable is stored, and read. -/
theorem AF.load (h : AF w0 w q A n c fr x y) (u v : Value) : (loadVar 24 ⟨q + 1, 0, none⟩).run Try.prog ((w.setCell ⟨q + 1, 0, none⟩ u).setCell ⟨q + 1, 1, none⟩ v) = .ok (.agg #[u, v]) ((w.setCell ⟨q + 1, 0, none⟩ u).setCell ⟨q + 1, 1, none⟩ v) := load_arena (blk_pair h.res u v)
theorem AF.last (h : AF w0 w q A n c fr x y) (u v : Value) : Below q w0 ((w.setCell ⟨q + 1, 0, none⟩ u).setCell ⟨q + 1, 1, none⟩ v) := (h.bel.setCell (by simp only; omega) _).setCell (by simp only; omega) _
theorem AF.first (w : World) (A : Option Addr) (n c : Nat) (fr : Int) : ∃ w1 w2, w.alloc (.cells #[.slice A n c, .int .i64 fr] 24) = w1 ∧ w1.alloc (.cells #[.slice none 0 0, .int .i64 0] 24) = w2 ∧ w1.heap.size = w.heap.size + 1 ∧ AF w w2 w.heap.size A n c fr (.slice none 0 0) (.int .i64 0) := by
  have hk1 := heap_alloc_new w (.cells #[.slice A n c, .int .i64 fr] 24)
  have hs1 : (w.alloc (.cells #[.slice A n c, .int .i64 fr] 24)).heap.size = w.heap.size + 1 := by simp
  have hb1 : Below w.heap.size w (w.alloc (.cells #[.slice A n c, .int .i64 fr] 24)) := (Below.refl w.heap.size w).alloc (Nat.le_refl _) _
  refine ⟨_, _, rfl, rfl, hs1, ?_⟩
  generalize w.alloc (.cells #[.slice A n c, .int .i64 fr] 24) = w1 at *
  have hr2 := heap_alloc_new w1 (.cells #[.slice none 0 0, .int .i64 0] 24)
  rw [hs1] at hr2
  exact ⟨by rw [heap_alloc_old _ _ (by omega)]; exact hk1, hr2, hb1.alloc (by omega) _, by simp; omega⟩
end
/-- an arena, a place, and what was wrong. -/
def TakePost (w : World) (r : Aren × Int × Int) (e : Ending) (w' : World) : Prop :=
  ∃ B m d, e = .returned (.tuple #[.agg #[.slice B m d, .int .i64 r.1.2], .int .i64 r.2.1, .int .i64 r.2.2]) ∧ Rs w' B m d r.1.1 ∧ Below w.heap.size w w'
/-- an arena, and what was wrong. -/
def GivePost (w : World) (r : Aren × Int) (e : Ending) (w' : World) : Prop :=
  ∃ B m d, e = .returned (.tuple #[.agg #[.slice B m d, .int .i64 r.1.2], .int .i64 r.2]) ∧ Rs w' B m d r.1.1 ∧ Below w.heap.size w w'
/-- the same; and what is taken lies in records of the call's own. -/
def TakeOwn (w : World) (r : Aren × Int × Int) (e : Ending) (w' : World) : Prop :=
  ∃ B m d, e = .returned (.tuple #[.agg #[.slice B m d, .int .i64 r.1.2], .int .i64 r.2.1, .int .i64 r.2.2]) ∧ Rs w' B m d r.1.1 ∧ Below w.heap.size w w' ∧ (r.2.2 = 0 → w'.ownsRow w.heap.size 55 3 (.slice B m d) m (recC r.1.1))
set_option maxRecDepth 100000 in
set_option maxHeartbeats 4000000 in
theorem refTake_own (A : Option Addr) (n c : Nat) (rs : List Rec3) (fr key task : Int) (w : World) (hx : Rs w A n c rs) (hn : n ≤ 16384) :
    Calls Try.prog 35 #[.agg #[.slice A n c, .int .i64 fr], .int .i64 key, .int .i64 task] w (TakeOwn w (arTake (rs, fr) key task)) := by
  have HX := Lib.hid hx
  have hlen := hx.len
  obtain ⟨w1, w2, hw1, hw2, hs1, af⟩ := AF.first w A n c fr
  have RT := refRight_any A n c rs fr w2 (Es.below hx af.bel) hn
  obtain ⟨k0, k1, k2, k3, k4, k5⟩ := af.cells
  have hsz2 := af.sz
  have AF2 := Lib.hid af
  clear hx af
  -- refused, with all as it was
  have same : ∀ (W : World) (er : Int), arTake (rs, fr) key task = ((rs, fr), 0, er) → er ≠ 0 → AF w W w.heap.size A n c fr (.slice none 0 0) (.int .i64 0) →
      TakeOwn w (arTake (rs, fr) key task) (.returned (.tuple #[.agg #[.slice A n c, .int .i64 fr], .int .i64 0, .int .i64 er])) ((W.setCell ⟨w.heap.size + 1, 0, none⟩ (.slice A n c)).setCell ⟨w.heap.size + 1, 1, none⟩ (.int .i64 fr)) := fun W er he her ha => by
    rw [he]
    exact ⟨A, n, c, rfl, Es.below HX.out (ha.last _ _), ha.last _ _, fun h => absurd h her⟩
  have SM := Lib.hid same
  have CP := fun (W : World) (h : Below w.heap.size w W) => refCopy_any A n c rs fr W (Es.below HX.out h) hn
  replace CP := Lib.hid CP
  obtain ⟨R, hR⟩ : ∃ R, arTake (rs, fr) key task = R := ⟨_, rfl⟩
  rw [hR] at SM ⊢
  have HR := Lib.hid hR
  clear same hR
  generalize hq : w.heap.size = q at *
  cases hr : rightS (rs, fr) with
  | false =>
    rw [hr] at RT
    replace RT := Lib.hid RT
    have HE := Lib.hid (show R = ((rs, fr), 0, 1) by rw [← HR.out]; unfold arTake; rw [if_pos (Or.inl hr)])
    clear hr
    go_enter Try.func35, Try.ntmps35
    go_wp2_with fail
    refine RT.out.mono ?_
    rintro e w3 ⟨rfl, hb⟩
    have AF3 := Lib.hid (AF2.out.step hb)
    obtain ⟨m0, m1, m2, m3, m4, m5⟩ := AF3.out.cells
    clear hb k0 k1 k2 k3 k4 k5 hw1 hw2
    go_wp2
    refine bodyPost_ret (res_css Try.results35 (by rfl) (AF3.out.load _ _)) rfl ?_
    exact SM.out w3 1 HE.out (by decide) AF3.out
  | true =>
    rw [hr] at RT
    replace RT := Lib.hid RT
    by_cases h1 : key < 0
    · have b1 : decide (key < 0) = true := by simpa using h1
      have HE := Lib.hid (show R = ((rs, fr), 0, 1) by rw [← HR.out]; unfold arTake; rw [if_pos (Or.inr (Or.inl h1))])
      clear hr h1
      go_enter Try.func35, Try.ntmps35
      go_wp2_with fail
      refine RT.out.mono ?_
      rintro e w3 ⟨rfl, hb⟩
      have AF3 := Lib.hid (AF2.out.step hb)
      obtain ⟨m0, m1, m2, m3, m4, m5⟩ := AF3.out.cells
      clear hb k0 k1 k2 k3 k4 k5 hw1 hw2
      go_wp2
      refine bodyPost_ret (res_css Try.results35 (by rfl) (AF3.out.load _ _)) rfl ?_
      exact SM.out w3 1 HE.out (by decide) AF3.out
    · have b1 : decide (key < 0) = false := by simpa using h1
      by_cases h2 : task < 0
      · have b2 : decide (task < 0) = true := by simpa using h2
        have HE := Lib.hid (show R = ((rs, fr), 0, 1) by rw [← HR.out]; unfold arTake; rw [if_pos (Or.inr (Or.inr h2))])
        clear hr h1 h2
        go_enter Try.func35, Try.ntmps35
        go_wp2_with fail
        refine RT.out.mono ?_
        rintro e w3 ⟨rfl, hb⟩
        have AF3 := Lib.hid (AF2.out.step hb)
        obtain ⟨m0, m1, m2, m3, m4, m5⟩ := AF3.out.cells
        clear hb k0 k1 k2 k3 k4 k5 hw1 hw2
        go_wp2
        refine bodyPost_ret (res_css Try.results35 (by rfl) (AF3.out.load _ _)) rfl ?_
        exact SM.out w3 1 HE.out (by decide) AF3.out
      · have b2 : decide (task < 0) = false := by simpa using h2
        by_cases h3 : fr = -1
        · have b3 : (fr == -1) = true := by simp [h3]
          have HE := Lib.hid (show R = ((rs, fr), 0, 6) by rw [← HR.out]; unfold arTake; rw [if_neg (by simp [hr, h1, h2]), if_pos h3])
          clear hr h1 h2 h3
          go_enter Try.func35, Try.ntmps35
          go_wp2_with fail
          refine RT.out.mono ?_
          rintro e w3 ⟨rfl, hb⟩
          have AF3 := Lib.hid (AF2.out.step hb)
          obtain ⟨m0, m1, m2, m3, m4, m5⟩ := AF3.out.cells
          clear hb k0 k1 k2 k3 k4 k5 hw1 hw2
          go_wp2
          refine bodyPost_ret (res_css Try.results35 (by rfl) (AF3.out.load _ _)) rfl ?_
          exact SM.out w3 6 HE.out (by decide) AF3.out
        · have b3 : (fr == -1) = false := by simp [h3]
          have hfr : 0 ≤ fr ∧ fr < (n : Int) := by
            obtain ⟨l, hl, _⟩ := walk_of_right hr
            unfold walkL walkF at hl
            simp only at hl
            rw [if_neg h3] at hl
            split at hl
            · cases hl
            · rename_i hb
              have := not_bad hb
              exact ⟨this.1, by rw [← hlen]; exact this.2.1⟩
          obtain ⟨i, rfl⟩ : ∃ i : Nat, fr = i := ⟨fr.toNat, by omega⟩
          have HE := Lib.hid (show R = ((rs.set i (key, task, -1), (recAt rs i).2.2), (i : Int), 0) by rw [← HR.out]; unfold arTake; rw [if_neg (by simp [hr, h1, h2]), if_neg h3]; rfl)
          have hi1 : (i : Int) < (n : Int) := hfr.2
          have hi0 : (0 : Int) ≤ (i : Int) := hfr.1
          clear hr hfr SM h1 h2 h3
          go_enter Try.func35, Try.ntmps35
          go_wp2_with fail
          refine RT.out.mono ?_
          rintro e w3 ⟨rfl, hb⟩
          have AF3 := Lib.hid (AF2.out.step hb)
          obtain ⟨m0, m1, m2, m3, m4, m5⟩ := AF3.out.cells
          clear hb k0 k1 k2 k3 k4 k5 hw1 hw2
          go_wp2_with fail
          refine (CP.out w3 AF3.out.bel).mono ?_
          rintro e w4 ⟨B, d, rfl, hown, hb⟩
          have AF4 := Lib.hid (AF3.out.step hb)
          obtain ⟨g, rfl⟩ : ∃ g, B = some ⟨g, 0, none⟩ := by
            rcases hown.2 with ⟨h, h0⟩ | ⟨g, cap, cur, h, _⟩
            · omega
            · injection h with h; exact ⟨g, h⟩
          have hg1 := (hown.lt g (by simp [Value.ownBlock])).1
          have hg2 := (hown.lt g (by simp [Value.ownBlock])).2
          have hw3 := AF3.out.sz
          -- the copy in its variable
          have hx5 := heap_alloc_new w4 (.cells #[.slice (some ⟨g, 0, none⟩) n d, .int .i64 (i : Int)] 24)
          have af5 := AF4.out.step ((Below.refl w4.heap.size w4).alloc (Nat.le_refl _) (.cells #[.slice (some ⟨g, 0, none⟩) n d, .int .i64 (i : Int)] 24))
          have own5 := hown.alloc (.cells #[.slice (some ⟨g, 0, none⟩) n d, .int .i64 (i : Int)] 24)
          obtain ⟨w5, hw5⟩ : ∃ w5, w4.alloc (.cells #[.slice (some ⟨g, 0, none⟩) n d, .int .i64 (i : Int)] 24) = w5 := ⟨_, rfl⟩
          rw [hw5] at hx5 af5 own5
          have hsq := hb.size
          generalize hs : w4.heap.size = s at *
          have rs5 : Rs w5 A n c rs := Es.below HX.out (by rw [hq]; exact af5.bel)
          obtain ⟨b, off, rfl, hb0, r0, r1, r2⟩ := rs5.look i (by omega)
          obtain ⟨n0, n1, n2, n3, n4, n5⟩ := af5.cells
          have x0 := blk_cell hx5 0; have x1 := blk_cell hx5 1; have x2 := blk_frozen hx5 1
          simp only [List.getElem?_toArray, List.getElem?_cons_zero, List.getElem?_cons_succ] at x0 x1
          have hrl : rs.length = n := hlen
          obtain ⟨e0, e1, e2⟩ := recC_at rs i (by omega)
          have g0 := (own5.cellAt (i * 3) (by omega)).trans e0
          have g1 := (own5.cellAt (i * 3 + 1) (by omega)).trans e1
          have g2 := (own5.cellAt (i * 3 + 2) (by omega)).trans e2
          have f0 := own5.frozenAt (i * 3); have f1 := own5.frozenAt (i * 3 + 1); have f2 := own5.frozenAt (i * 3 + 2)
          have q1 : g ≠ s := by omega
          have q2 : g ≠ q := by omega
          have q3 : g ≠ q + 1 := by omega
          have q4 : s ≠ q := by omega
          have q5 : s ≠ q + 1 := by omega
          have q1' := q1.symm; have q2' := q2.symm; have q3' := q3.symm; have q4' := q4.symm; have q5' := q5.symm
          have HAF := Lib.hid af5; have HOW := Lib.hid own5
          clear hown hb af5 own5 rs5 m0 m1 m2 m3 m4 m5 e0 e1 e2 r0 r1 hx5
          go_wp2
          have hsq2 : q ≤ s := by omega
          have AF7 := (((HAF.out.set (o := 1) (v := .int .i64 (recAt rs i).2.2) hsq2 q4 q5).set (o := i * 3) (v := .int .i64 key) (by omega) q2 q3).set (o := i * 3 + 1) (v := .int .i64 task) (by omega) q2 q3).set (o := i * 3 + 2) (v := .int .i64 (-1)) (by omega) q2 q3
          have own6 := own_other HOW.out (k := s) (o := 1) (u := .int .i64 (recAt rs i).2.2) (by simpa [Value.ownBlock] using q1)
          have own7 := (((own6.stored (i * 3) (.int .i64 key)).1.stored (i * 3 + 1) (.int .i64 task)).1.stored (i * 3 + 2) (.int .i64 (-1))).1
          rw [← recC_set rs i (key, task, -1) (by omega)] at own7
          have own8 := own_other (own_other own7 (k := q + 1) (o := 0) (u := .slice (some ⟨g, 0, none⟩) n d) (by simpa [Value.ownBlock] using q3)) (k := q + 1) (o := 1) (u := .int .i64 (recAt rs i).2.2) (by simpa [Value.ownBlock] using q3)
          obtain ⟨B', d', he, hrs⟩ := rs_of_own own8
          injection he with he1 he2 he3; subst he1; subst he3
          refine bodyPost_ret (res_css Try.results35 (by rfl) (AF7.load _ _)) rfl ?_
          rw [HE.out]
          exact ⟨_, _, _, rfl, hrs, by rw [hq]; exact AF7.last _ _, fun _ => own_base own8 (by rw [hq]; omega)⟩
theorem refTake_any (A : Option Addr) (n c : Nat) (rs : List Rec3) (fr key task : Int) (w : World) (hx : Rs w A n c rs) (hn : n ≤ 16384) :
    Calls Try.prog 35 #[.agg #[.slice A n c, .int .i64 fr], .int .i64 key, .int .i64 task] w (TakePost w (arTake (rs, fr) key task)) := by
  refine (refTake_own A n c rs fr key task w hx hn).mono ?_
  rintro e w' ⟨B, m, d, h1, h2, h3, _⟩
  exact ⟨B, m, d, h1, h2, h3⟩
end Go.Proofs.Ytombfempdfdeoaa
