/- What the reading of a program needs: its variable and its rows beside the reader; what each part comes to; for bytes up to 16384. -/
import Derived.Test.YtkoodhnfphmbnaaCodYB
import Derived.Test.YtkoodhnfphmbnaaCodH
namespace Go.Proofs.Ytkoodhnfphmbnaa
set_option linter.unusedVariables false
set_option linter.unusedSimpArgs false
open Go.RowKit
theorem own_not {w : World} {base k n : Nat} {T : TypeId} {v : Value} {xs : List Value} (h : w.ownsRow base T k v n xs) {r : Nat} (hr : r < base) : v.ownBlock = none ∨ v.ownBlock ≠ some r := by
  cases hv : v.ownBlock with
  | none => exact Or.inl rfl
  | some g => exact Or.inr (fun e => by injection e with e; have := (h.lt g hv).1; omega)
section
variable {wm w w' : World} {sp : Nat} {cs : List Value} {C K S : Value} {nc nk ns : Nat} {xc : List I4} {xk xs : List Int}
/-- another block below is turned. -/
theorem KS.num (h : KS wm w sp cs C K S nc nk ns xc xk xs) {r : Nat} (g : w.grownBy w' (some r)) (hr : r < sp) : KS w' w' sp cs C K S nc nk ns xc xk xs :=
  ⟨h.c.kept g (own_not h.c (by omega)), blk_grown h.p g (fun k e => by injection e with e; omega), h.k.kept g (own_not h.k (by omega)), h.s.kept g (own_not h.s (by omega)), h.ne, Below.refl _ _⟩
theorem KS.base (h : KS wm w sp cs C K S nc nk ns xc xk xs) : KS w w sp cs C K S nc nk ns xc xk xs := ⟨h.c, h.p, h.k, h.s, h.ne, Below.refl _ _⟩
/-- an instruction more. -/
theorem KS.appC (h : KS wm w sp cs C (.slice none 0 0) (.slice none 0 0) nc 0 0 xc [] []) (a b c d : Int) (hn : nc ≤ 10000) :
    ∃ A2 d2 w', (Builtin.append_ #[22, 22] 22 #[C, .slice (some ⟨w.heap.size, 0, none⟩) 1 1]).run Try.prog (w.alloc (.cells #[.int .i64 a, .int .i64 b, .int .i64 c, .int .i64 d] 40)) = .ok (.slice A2 (nc + 1) d2) w' ∧ KS wm w' sp cs (.slice A2 (nc + 1) d2) (.slice none 0 0) (.slice none 0 0) (nc + 1) 0 0 (xc ++ [(a, b, c, d)]) [] [] := by
  obtain ⟨i5, hi5, hz0, hz1, hz2⟩ := info_of infoI4
  have hlt := blk_lt h.p
  obtain ⟨A4, c4, w9, hap4, hown4, hbel4⟩ := eapp_lit (P := Try.prog) (ty := 22) (w0 := w) (base := sp + 1) (W := w) Try.underlying22 hi5 hz0 hz1 hz2 rfl (by decide) h.c (insC_one _) (insC [(a, b, c, d)]) (insC_one _) (m := 1) rfl (by unfold maxLen; omega) (by omega) (Below.refl _ w) hlt
  rw [← insC_app] at hown4
  exact ⟨A4, c4, w9, hap4, hown4, (hbel4.block sp (by omega)).trans h.p, World.ownsRow_nil _ _ _ _, World.ownsRow_nil _ _ _ _, fun g hg => by simp [Value.ownBlock] at hg, h.be.trans (hbel4.mono (by omega))⟩
end
/-- a program's variable behind its result's, its rows, and the reader; below them the reader's block alone is turned. -/
structure PS (r : Nat) (E : Option Addr) (u v : Nat) (w0 w : World) (q : Nat) (at_ : Int) (cs : List Value) (C K S : Value) (nc nk ns : Nat) (xc : List I4) (xk xs : List Int) : Prop where
  ks : KS w w (q + 1) cs C K S nc nk ns xc xk xs
  rd : Rc w r E u v at_
  g : w0.grownBy w (some r)
  rb : w.heap[q]? = some (.cells #[.slice none 0 0, .slice none 0 0, .slice none 0 0, .int .i64 0, .int .i64 0, .int .i64 0] 25)
  q0 : q = w0.heap.size
  rq : r < q
section
variable {r : Nat} {E : Option Addr} {u v : Nat} {w0 w w' : World} {q : Nat} {at_ : Int} {cs : List Value} {C K S : Value} {nc nk ns : Nat} {xc : List I4} {xk xs : List Int}
theorem PS.num (h : PS r E u v w0 w q at_ cs C K S nc nk ns xc xk xs) {at2 : Int} (hr : Rc w' r E u v at2) (g : w.grownBy w' (some r)) : PS r E u v w0 w' q at2 cs C K S nc nk ns xc xk xs :=
  have hrq := h.rq
  ⟨h.ks.num g (by omega), hr, grown_trans h.g g, blk_grown h.rb g (fun k e => by injection e with e; omega), h.q0, h.rq⟩
theorem PS.drew (h : PS r E u v w0 w q at_ cs C K S nc nk ns xc xk xs) : PS r E u v w0 w.drew q at_ cs C K S nc nk ns xc xk xs :=
  ⟨h.ks.drew.base, h.rd.drew, grown_drew h.g, h.rb, h.q0, h.rq⟩
/-- the variable, or its rows, are turned. -/
theorem PS.to {cs2 : List Value} {C2 K2 S2 : Value} {nc2 nk2 ns2 : Nat} {xc2 : List I4} {xk2 xs2 : List Int} (h : PS r E u v w0 w q at_ cs C K S nc nk ns xc xk xs) (k : KS w w' (q + 1) cs2 C2 K2 S2 nc2 nk2 ns2 xc2 xk2 xs2) : PS r E u v w0 w' q at_ cs2 C2 K2 S2 nc2 nk2 ns2 xc2 xk2 xs2 := by
  have hrq := h.rq; have hq0 := h.q0
  have b := k.be
  refine ⟨k.base, ?_, ⟨b.os.trans h.g.os, b.tape.trans h.g.tape, b.output.trans h.g.output, Nat.le_trans h.g.size b.size, fun i hi hne => (b.block i (by omega)).trans (h.g.block i hi hne)⟩, (b.block q (by omega)).trans h.rb, h.q0, h.rq⟩
  show _ = _
  rw [b.block r (by omega)]; exact h.rd
theorem PS.cell (h : PS r E u v w0 w q at_ cs C K S nc nk ns xc xk xs) (j : Nat) {x : Value} (hj : cs[j]? = some x) : w.cell? ⟨q + 1, j, none⟩ = some x := (blk_cell h.ks.p j).trans (by simpa using hj)
theorem PS.frozen (h : PS r E u v w0 w q at_ cs C K S nc nk ns xc xk xs) (j : Nat) : w.frozen? ⟨q + 1, j, none⟩ = false := blk_frozen h.ks.p j
end
/-- what a program's reading comes to, or panics with. -/
def progS (bs : List Int) (at_ : Int) : Pg × Int × Int :=
  if (countS bs at_ 60 4).2.2 ≠ 0 then (noPg, 0, (countS bs at_ 60 4).2.2)
  else if (countS bs (countS bs at_ 60 4).2.1 8 2).2.2 ≠ 0 then (noPg, 0, (countS bs (countS bs at_ 60 4).2.1 8 2).2.2)
  else if (manyS bs 3 (countS bs (countS bs at_ 60 4).2.1 8 2).2.1 []).2.2 ≠ 0 then (noPg, 0, (manyS bs 3 (countS bs (countS bs at_ 60 4).2.1 8 2).2.1 []).2.2)
  else endPg (countS bs at_ 60 4).1 (countS bs (countS bs at_ 60 4).2.1 8 2).1 (manyS bs 3 (countS bs (countS bs at_ 60 4).2.1 8 2).2.1 []).1 (manyS bs 3 (countS bs (countS bs at_ 60 4).2.1 8 2).2.1 []).2.1
theorem read_prog (bs : List Int) (at_ : Int) : readPg bs at_ = progS bs at_ := by
  unfold readPg
  by_cases h : at_ < 0 ∨ (bs.length : Int) < at_
  · rw [if_pos h]
    have h1 : readS bs at_ = (0, 0, 1) := by unfold readS; rw [if_pos h]
    have h2 : readIntS bs at_ = (0, 0, 1) := by unfold readIntS; rw [h1]; rfl
    have h3 : countS bs at_ 60 4 = ([], 0, 1) := count_bad (many_bad h2 (by decide)) (by decide)
    unfold progS
    rw [h3]; rfl
  · rw [if_neg h]; rfl
theorem prog_bad1 {bs : List Int} {at_ e : Int} (h : countS bs at_ 60 4 = ([], 0, e)) (he : e ≠ 0) : progS bs at_ = (noPg, 0, e) := by
  unfold progS; rw [h]; exact if_pos he
theorem prog_bad2 {bs : List Int} {at_ a1 e : Int} {l1 : List Int} (h : countS bs at_ 60 4 = (l1, a1, 0)) (h2 : countS bs a1 8 2 = ([], 0, e)) (he : e ≠ 0) : progS bs at_ = (noPg, 0, e) := by
  unfold progS; rw [h]
  rw [if_neg (by simp)]
  show (if (countS bs a1 8 2).2.2 ≠ 0 then _ else _) = _
  rw [h2]; exact if_pos he
theorem prog_bad3 {bs : List Int} {at_ a1 a2 e : Int} {l1 l2 : List Int} (h : countS bs at_ 60 4 = (l1, a1, 0)) (h2 : countS bs a1 8 2 = (l2, a2, 0)) (h3 : manyS bs 3 a2 [] = ([], 0, e)) (he : e ≠ 0) : progS bs at_ = (noPg, 0, e) := by
  unfold progS; rw [h]
  rw [if_neg (by simp)]
  show (if (countS bs a1 8 2).2.2 ≠ 0 then _ else _) = _
  rw [h2, if_neg (by simp)]
  show (if (manyS bs 3 a2 []).2.2 ≠ 0 then _ else _) = _
  rw [h3]; exact if_pos he
theorem prog_end {bs : List Int} {at_ a1 a2 a3 : Int} {xc : List I4} {xk xs : List Int} {x y z : Int} (h : countS bs at_ 60 4 = (codeN xc, a1, 0)) (h2 : countS bs a1 8 2 = (objsN xk xs, a2, 0)) (hl : xs.length = xk.length) (h3 : manyS bs 3 a2 [] = ([x, y, z], a3, 0)) : progS bs at_ = if rightPg ⟨xc, xk, xs, x, y, z⟩ = true then (⟨xc, xk, xs, x, y, z⟩, a3, 0) else (noPg, 0, 3) := by
  have hm : mkPg (codeN xc) (objsN xk xs) [x, y, z] = ⟨xc, xk, xs, x, y, z⟩ := by
    unfold mkPg
    rw [quads_code, (evens_objs xk xs hl).1, (evens_objs xk xs hl).2]; rfl
  unfold progS; rw [h]
  rw [if_neg (by simp)]
  show (if (countS bs a1 8 2).2.2 ≠ 0 then _ else _) = _
  rw [h2, if_neg (by simp)]
  show (if (manyS bs 3 a2 []).2.2 ≠ 0 then _ else _) = _
  rw [h3, if_neg (by simp)]
  show endPg (codeN xc) (objsN xk xs) [x, y, z] a3 = _
  unfold endPg
  rw [hm]
section
variable (r : Nat) (E : Option Addr) (u v : Nat) (bs : List Int)
/-- a number is read, or it panics. -/
theorem num_cases (k : Int) (hn : u ≤ 16384) :
    (∃ x k', (∀ (n : Nat) (out : List Int), manyS bs (n + 1) k out = manyS bs n k' (out ++ [x])) ∧ ∀ w : World, Bs w E u v bs → Rc w r E u v k → Calls Try.prog 50 #[.pointer (some ⟨r, 0, none⟩)] w (fun e w' => e = .returned (.int .i64 x) ∧ Rc w' r E u v k' ∧ w.grownBy w' (some r))) ∨
    (∃ e, e ≠ 0 ∧ (∀ (n : Nat) (out : List Int), manyS bs (n + 1) k out = ([], 0, e)) ∧ ∀ w : World, Bs w E u v bs → Rc w r E u v k → Calls Try.prog 50 #[.pointer (some ⟨r, 0, none⟩)] w (fun x w' => x = .panicked [PE e] ∧ w.grownBy w' (some r))) := by
  cases h : readIntS bs k with
  | mk x p =>
    obtain ⟨k', e⟩ := p
    by_cases he : e = 0
    · subst he
      exact Or.inl ⟨x, k', fun n out => many_go h, fun w hb hr => num_ok r E u v bs k x k' w hb hr hn h⟩
    · exact Or.inr ⟨e, he, fun n out => many_bad h he, fun w hb hr => num_err r E u v bs k _ w hb hr hn h he⟩
theorem count_cases (k most each : Int) (hn : u ≤ 16384) :
    (∃ (c : Nat) (k' : Int), (c : Int) ≤ most ∧ countS bs k most each = manyS bs ((c : Int) * each).toNat k' [] ∧ ∀ w : World, Bs w E u v bs → Rc w r E u v k → Calls Try.prog 48 #[.pointer (some ⟨r, 0, none⟩), .int .i64 most] w (fun e w' => e = .returned (.int .i64 (c : Int)) ∧ Rc w' r E u v k' ∧ w.grownBy w' (some r))) ∨
    (∃ e, e ≠ 0 ∧ countS bs k most each = ([], 0, e) ∧ ∀ w : World, Bs w E u v bs → Rc w r E u v k → Calls Try.prog 48 #[.pointer (some ⟨r, 0, none⟩), .int .i64 most] w (fun x w' => x = .panicked [PE e] ∧ w.grownBy w' (some r))) := by
  cases h : readIntS bs k with
  | mk x p =>
    obtain ⟨k', e⟩ := p
    by_cases he : e = 0
    · subst he
      have hm : manyS bs 1 k [] = ([x], k', 0) := by rw [many_go h]; rfl
      by_cases hx : x < 0 ∨ most < x
      · refine Or.inr ⟨4, by decide, ?_, fun w hb hr => count_long r E u v bs k most x k' w hb hr hn h hx⟩
        unfold countS
        rw [hm]
        rw [if_neg (by simp)]
        exact if_pos hx
      · obtain ⟨c, rfl⟩ : ∃ c : Nat, x = c := ⟨x.toNat, by omega⟩
        exact Or.inl ⟨c, k', by omega, count_back hm (by omega) (by omega), fun w hb hr => count_ok r E u v bs k most c k' w hb hr hn h (by omega)⟩
    · exact Or.inr ⟨e, he, count_bad (many_bad h he) he, fun w hb hr => count_err r E u v bs k most _ w hb hr hn h he⟩
theorem instr_cases (k : Int) (hn : u ≤ 16384) :
    (∃ a b c d k', (∀ (out : List Int), manyS bs 4 k out = (out ++ [a, b, c, d], k', 0)) ∧ ∀ w : World, Bs w E u v bs → Rc w r E u v k → Calls Try.prog 49 #[.pointer (some ⟨r, 0, none⟩)] w (fun e w' => e = .returned (.agg #[.int .i64 a, .int .i64 b, .int .i64 c, .int .i64 d]) ∧ Rc w' r E u v k' ∧ w.grownBy w' (some r))) ∨
    (∃ e, e ≠ 0 ∧ (∀ (out : List Int), manyS bs 4 k out = ([], 0, e)) ∧ ∀ w : World, Bs w E u v bs → Rc w r E u v k → Calls Try.prog 49 #[.pointer (some ⟨r, 0, none⟩)] w (fun x w' => x = .panicked [PE e] ∧ w.grownBy w' (some r))) := by
  cases h1 : readIntS bs k with
  | mk x1 p =>
    obtain ⟨k1, e⟩ := p
    by_cases he : e = 0
    rotate_left
    · exact Or.inr ⟨e, he, fun out => many_bad h1 he, fun w hb hr => instr_err1 r E u v bs k _ w hb hr hn h1 he⟩
    subst he
    cases h2 : readIntS bs k1 with
    | mk x2 p =>
      obtain ⟨k2, e⟩ := p
      by_cases he : e = 0
      rotate_left
      · exact Or.inr ⟨e, he, fun out => by rw [many_go h1]; exact many_bad h2 he, fun w hb hr => instr_err2 r E u v bs k x1 k1 _ w hb hr hn h1 h2 he⟩
      subst he
      cases h3 : readIntS bs k2 with
      | mk x3 p =>
        obtain ⟨k3, e⟩ := p
        by_cases he : e = 0
        rotate_left
        · exact Or.inr ⟨e, he, fun out => by rw [many_go h1, many_go h2]; exact many_bad h3 he, fun w hb hr => instr_err3 r E u v bs k x1 k1 x2 k2 _ w hb hr hn h1 h2 h3 he⟩
        subst he
        cases h4 : readIntS bs k3 with
        | mk x4 p =>
          obtain ⟨k4, e⟩ := p
          by_cases he : e = 0
          rotate_left
          · exact Or.inr ⟨e, he, fun out => by rw [many_go h1, many_go h2, many_go h3]; exact many_bad h4 he, fun w hb hr => instr_err4 r E u v bs k x1 k1 x2 k2 x3 k3 _ w hb hr hn h1 h2 h3 h4 he⟩
          subst he
          exact Or.inl ⟨x1, x2, x3, x4, k4, fun out => by rw [many_go h1, many_go h2, many_go h3, many_go h4, many_none]; simp, fun w hb hr => instr_ok r E u v bs k x1 k1 x2 k2 x3 k3 x4 k4 w hb hr hn h1 h2 h3 h4⟩
end
theorem objsN_snoc : ∀ (ks ss : List Int) (k s : Int), ss.length = ks.length → objsN (ks ++ [k]) (ss ++ [s]) = objsN ks ss ++ [k, s]
  | [], [], k, s, _ => rfl
  | x :: ks, y :: ss, k, s, h => by
    simp only [List.cons_append, objsN]
    rw [objsN_snoc ks ss k s (by simpa using h)]
  | [], _ :: _, _, _, h => by simp at h
  | _ :: _, [], _, _, h => by simp at h
/-- a program's reading, or the panic that ends it. -/
def ProgC (r : Nat) (E : Option Addr) (u v : Nat) (w : World) (p : Pg × Int × Int) (e : Ending) (w' : World) : Prop :=
  (p.2.2 ≠ 0 ∧ e = .panicked [PE p.2.2] ∧ w.grownBy w' (some r)) ∨
  (p.2.2 = 0 ∧ ∃ A n c B m d C k f, e = .returned (.agg #[.slice A n c, .slice B m d, .slice C k f, .int .i64 p.1.cells, .int .i64 p.1.recs, .int .i64 p.1.pat]) ∧ Rc w' r E u v p.2.1 ∧ w.grownBy w' (some r) ∧
    w'.ownsRow w.heap.size 40 4 (.slice A n c) n (insC p.1.code) ∧ w'.ownsRow w.heap.size 3 1 (.slice B m d) m (intC p.1.kinds) ∧ w'.ownsRow w.heap.size 3 1 (.slice C k f) k (intC p.1.sizes))
theorem ProgC.bad {r : Nat} {E : Option Addr} {u v : Nat} {w w' : World} {e : Int} (he : e ≠ 0) (g : w.grownBy w' (some r)) : ProgC r E u v w (noPg, 0, e) (.panicked [PE e]) w' := Or.inl ⟨he, rfl, g⟩
end Go.Proofs.Ytkoodhnfphmbnaa
