/- The walk of ArenaAnswers: it answers true, over any world; no condition. -/
import Derived.Test.YtglccgmhcncghaaAreT
namespace Go.Proofs.Ytglccgmhcncghaa
set_option linter.unusedVariables false
set_option linter.unusedSimpArgs false
open Go.RowKit
theorem blk_rng {w : World} {b : Nat} {x y : Value} {T : TypeId} (h : w.heap[b]? = some (.cells #[x, y] T)) : w.rangeAt b 0 [x, y] := by
  intro j v hv
  rw [Nat.zero_add, blk_cell h]
  simpa using hv
theorem take_len (p : Aren) (k t : Int) : (arTake p k t).1.1.length = p.1.length := by
  unfold arTake
  repeat' split
  all_goals simp
theorem give_len (p : Aren) (i : Int) : (arGive p i).1.1.length = p.1.length := by
  unfold arGive
  repeat' split
  all_goals simp
theorem set_len (p : Aren) (i k : Int) : (arSet p i k).1.1.length = p.1.length := by
  unfold arSet
  repeat' split
  all_goals simp
set_option maxRecDepth 100000 in
set_option maxHeartbeats 16000000 in
theorem answers7_walk (A : Option Addr) (n c : Nat) (rs : List Rec3) (fr i0 i1 : Int) (w : World) (hx : Rs w A n c rs) :
    Calls Try.prog 3 #[.agg #[.slice A n c, .int .i64 fr], .agg #[.int .i64 i0, .int .i64 i1]] w fun e w' => e = .returned (.bool true) ∧ Below w.heap.size w w' := by
  have hlen := hx.len
  have HB := Lib.hid (And.intro (Below.refl w.heap.size w) (Nat.le_refl w.heap.size))
  have Rp := Lib.hid hx
  clear hx
  have lep := HB.out.2
  obtain ⟨w1, hw1⟩ : ∃ W, w.alloc (.cells #[.slice A n c, .int .i64 fr] 24) = W := ⟨_, rfl⟩
  have hb : Below w.heap.size w w1 := hw1 ▸ (Below.refl _ _).alloc (Nat.le_refl _) _
  have hv : w1.heap[w.heap.size]? = some (.cells #[.slice A n c, .int .i64 fr] 24) := hw1 ▸ heap_alloc_new _ _
  replace Rp := Lib.hid (Es.below Rp.out hb)
  replace HB := Lib.hid (And.intro (HB.out.1.trans (hb.mono HB.out.2)) (Nat.le_trans HB.out.2 hb.size))
  have Vp := Lib.hid hv
  have gep := lep
  generalize hsp : w.heap.size = sp at *
  clear hb hv lep
  have ltpi := blk_lt Vp.out
  have lei := HB.out.2
  obtain ⟨w2, hw2⟩ : ∃ W, w1.alloc (.cells #[.int .i64 i0, .int .i64 i1] 25) = W := ⟨_, rfl⟩
  have hb : Below w1.heap.size w1 w2 := hw2 ▸ (Below.refl _ _).alloc (Nat.le_refl _) _
  have hv : w2.heap[w1.heap.size]? = some (.cells #[.int .i64 i0, .int .i64 i1] 25) := hw2 ▸ heap_alloc_new _ _
  replace Vp := Lib.hid (blk_below Vp.out hb (blk_lt Vp.out))
  replace Rp := Lib.hid (Es.below Rp.out hb)
  replace HB := Lib.hid (And.intro (HB.out.1.trans (hb.mono HB.out.2)) (Nat.le_trans HB.out.2 hb.size))
  have Vi := Lib.hid hv
  have neip := (Nat.ne_of_lt ltpi).symm
  have gei := lei
  generalize hsi : w1.heap.size = si at *
  clear hb hv ltpi lei
  by_cases hn : (70 : Int) < (n : Int)
  · have b0 : decide ((70 : Int) < (n : Int)) = true := decide_eq_true hn
    clear hn
    have cp0 := blk_cell Vp.out 0; have cp1 := blk_cell Vp.out 1
    have ci0 := blk_cell Vi.out 0; have ci1 := blk_cell Vi.out 1
    simp only [List.getElem?_toArray, List.getElem?_cons_zero, List.getElem?_cons_succ] at cp0 cp1 ci0 ci1
    go_enter Try.func3, Try.ntmps3
    go_wp2_with fail
    refine (alive7 _).mono ?_
    rintro e wa ⟨rfl, hb⟩
    clear cp0 cp1 ci0 ci1
    replace Vp := Lib.hid (blk_below Vp.out hb (blk_lt Vp.out))
    replace Vi := Lib.hid (blk_below Vi.out hb (blk_lt Vi.out))
    replace Rp := Lib.hid (Es.below Rp.out hb)
    replace HB := Lib.hid (And.intro (HB.out.1.trans (hb.mono HB.out.2)) (Nat.le_trans HB.out.2 hb.size))
    clear hb
    have cp0 := blk_cell Vp.out 0; have cp1 := blk_cell Vp.out 1
    simp only [List.getElem?_toArray, List.getElem?_cons_zero, List.getElem?_cons_succ] at cp0 cp1
    go_wp2
    go_ret
    exact ⟨rfl, HB.out.1⟩
  · have b0 : decide ((70 : Int) < (n : Int)) = false := decide_eq_false hn
    have c1 := fun (B : Option Addr) (m d : Nat) (w : World) (h : Rs w B m d rs) => refCopy_any B m d rs fr w h (by have := h.len; omega)
    obtain ⟨rx, fx, ix, ex, hX⟩ : ∃ rx fx ix ex, arTake (rs, fr) i0 i1 = ((rx, fx), ix, ex) := ⟨_, _, _, _, rfl⟩
    obtain ⟨rg, fg, eg, hG⟩ : ∃ rg fg eg, arGive (rs, fr) i0 = ((rg, fg), eg) := ⟨_, _, _, rfl⟩
    obtain ⟨ru, fu, eu, hU⟩ : ∃ ru fu eu, arSet (rs, fr) i0 i1 = ((ru, fu), eu) := ⟨_, _, _, rfl⟩
    have lx := take_len (rs, fr) i0 i1
    have lg := give_len (rs, fr) i0
    have lu := set_len (rs, fr) i0 i1
    rw [hX] at lx; rw [hG] at lg; rw [hU] at lu
    simp only at lx lg lu
    have c2 := fun (B : Option Addr) (m d : Nat) (w : World) (h : Rs w B m d rs) => arnTake_any B m d rs fr i0 i1 w h (by have := h.len; omega)
    have c3 := fun (B : Option Addr) (m d : Nat) (w : World) (h : Rs w B m d rs) => refTake_any B m d rs fr i0 i1 w h (by have := h.len; omega)
    have c4 := fun (B : Option Addr) (m d : Nat) (w : World) (h : Rs w B m d rs) => arnGive_any B m d rs fr i0 w h (by have := h.len; omega)
    have c5 := fun (B : Option Addr) (m d : Nat) (w : World) (h : Rs w B m d rs) => refGive_any B m d rs fr i0 w h (by have := h.len; omega)
    have c6 := fun (B : Option Addr) (m d : Nat) (w : World) (h : Rs w B m d rs) => arnSet_any B m d rs fr i0 i1 w h (by have := h.len; omega)
    have c7 := fun (B : Option Addr) (m d : Nat) (w : World) (h : Rs w B m d rs) => refSet_any B m d rs fr i0 i1 w h (by have := h.len; omega)
    rw [hX] at c2 c3; rw [hG] at c4 c5; rw [hU] at c6 c7
    have d2 : ∀ B m d w, Rs w B m d rs → Calls Try.prog 9 #[.agg #[.slice B m d, .int .i64 fr], .int .i64 i0, .int .i64 i1] w (TakenAs w rx fx ix ex) := c2
    have d3 : ∀ B m d w, Rs w B m d rs → Calls Try.prog 10 #[.agg #[.slice B m d, .int .i64 fr], .int .i64 i0, .int .i64 i1] w (TakenAs w rx fx ix ex) := c3
    have d4 : ∀ B m d w, Rs w B m d rs → Calls Try.prog 11 #[.agg #[.slice B m d, .int .i64 fr], .int .i64 i0] w (GivenAs w rg fg eg) := c4
    have d5 : ∀ B m d w, Rs w B m d rs → Calls Try.prog 12 #[.agg #[.slice B m d, .int .i64 fr], .int .i64 i0] w (GivenAs w rg fg eg) := c5
    have d6 : ∀ B m d w, Rs w B m d rs → Calls Try.prog 13 #[.agg #[.slice B m d, .int .i64 fr], .int .i64 i0, .int .i64 i1] w (GivenAs w ru fu eu) := c6
    have d7 : ∀ B m d w, Rs w B m d rs → Calls Try.prog 14 #[.agg #[.slice B m d, .int .i64 fr], .int .i64 i0, .int .i64 i1] w (GivenAs w ru fu eu) := c7
    have qx := fun (A B : Option Addr) (a1 a2 b1 b2 : Nat) (w : World) (h1 : Rs w A a1 a2 rx) (h2 : Rs w B b1 b2 rx) => same_true (fr := fx) h1 h2 (by have := h1.len; omega)
    have qg := fun (A B : Option Addr) (a1 a2 b1 b2 : Nat) (w : World) (h1 : Rs w A a1 a2 rg) (h2 : Rs w B b1 b2 rg) => same_true (fr := fg) h1 h2 (by have := h1.len; omega)
    have qu := fun (A B : Option Addr) (a1 a2 b1 b2 : Nat) (w : World) (h1 : Rs w A a1 a2 ru) (h2 : Rs w B b1 b2 ru) => same_true (fr := fu) h1 h2 (by have := h1.len; omega)
    have qo := fun (A B : Option Addr) (a1 a2 b1 b2 : Nat) (w : World) (h1 : Rs w A a1 a2 rs) (h2 : Rs w B b1 b2 rs) => same_true (fr := fr) h1 h2 (by have := h1.len; omega)
    obtain ⟨RT, hRT⟩ : ∃ RT, rightS (rs, fr) = RT := ⟨_, rfl⟩
    obtain ⟨FL, hFL⟩ : ∃ FL, freeS (rs, fr) = FL := ⟨_, rfl⟩
    have hfl : FL.length ≤ 70 := by have := (freeS_places (rs, fr)).len; rw [hFL] at this; simp only at this; omega
    have r1 := fun (B : Option Addr) (m d : Nat) (w : World) (h : Rs w B m d rs) => arnRight_any B m d rs fr w h (by have := h.len; omega)
    have r2 := fun (B : Option Addr) (m d : Nat) (w : World) (h : Rs w B m d rs) => refRight_any B m d rs fr w h (by have := h.len; omega)
    have f1 := fun (B : Option Addr) (m d : Nat) (w : World) (h : Rs w B m d rs) => arnFree_any B m d rs fr w h (by have := h.len; omega)
    have f2 := fun (B : Option Addr) (m d : Nat) (w : World) (h : Rs w B m d rs) => refFree_any B m d rs fr w h (by have := h.len; omega)
    rw [hRT] at r1 r2; rw [hFL] at f1 f2
    have ii : ∀ (A B : Option Addr) (n c m d : Nat) w, Is w A n c FL → Is w B m d FL → Calls Try.prog 18 #[.slice A n c, .slice B m d] w fun e w' => e = .returned (.bool true) ∧ Below w.heap.size w w' := fun A B n c m d w h1 h2 => by
      have h := refInts_any A n c FL B m d FL w h1 h2 (by have := h1.len; omega)
      rwa [decide_eq_true rfl] at h
    replace c1 := Lib.hid c1; replace d2 := Lib.hid d2; replace d3 := Lib.hid d3; replace d4 := Lib.hid d4; replace d5 := Lib.hid d5; replace d6 := Lib.hid d6; replace d7 := Lib.hid d7
    replace qx := Lib.hid qx; replace qg := Lib.hid qg; replace qu := Lib.hid qu; replace qo := Lib.hid qo; replace r1 := Lib.hid r1; replace r2 := Lib.hid r2; replace f1 := Lib.hid f1; replace f2 := Lib.hid f2; replace ii := Lib.hid ii
    clear c2 c3 c4 c5 c6 c7 hX hG hU lx lg lu hRT hFL hfl hn
    have cp0 := blk_cell Vp.out 0; have cp1 := blk_cell Vp.out 1
    have ci0 := blk_cell Vi.out 0; have ci1 := blk_cell Vi.out 1
    simp only [List.getElem?_toArray, List.getElem?_cons_zero, List.getElem?_cons_succ] at cp0 cp1 ci0 ci1
    go_enter Try.func3, Try.ntmps3
    go_wp2_with fail
    refine (alive7 _).mono ?_
    rintro e wa ⟨rfl, hb⟩
    clear cp0 cp1 ci0 ci1
    replace Vp := Lib.hid (blk_below Vp.out hb (blk_lt Vp.out))
    replace Vi := Lib.hid (blk_below Vi.out hb (blk_lt Vi.out))
    replace Rp := Lib.hid (Es.below Rp.out hb)
    replace HB := Lib.hid (And.intro (HB.out.1.trans (hb.mono HB.out.2)) (Nat.le_trans HB.out.2 hb.size))
    clear hb
    have cp0 := blk_cell Vp.out 0; have cp1 := blk_cell Vp.out 1
    simp only [List.getElem?_toArray, List.getElem?_cons_zero, List.getElem?_cons_succ] at cp0 cp1
    go_wp2_with fail
    refine (c1.out _ _ _ _ Rp.out).mono ?_
    rintro e w3 ⟨B1, d1, rfl, hown, hb⟩
    clear cp0 cp1
    replace Vp := Lib.hid (blk_below Vp.out hb (blk_lt Vp.out))
    replace Vi := Lib.hid (blk_below Vi.out hb (blk_lt Vi.out))
    replace Rp := Lib.hid (Es.below Rp.out hb)
    replace HB := Lib.hid (And.intro (HB.out.1.trans (hb.mono HB.out.2)) (Nat.le_trans HB.out.2 hb.size))
    clear hb
    obtain ⟨_, _, he, hrs⟩ := rs_of_own hown
    injection he with he1 he2 he3; subst he1; subst he3
    have Ro := Lib.hid hrs; clear hrs hown
    have ltpo := blk_lt Vp.out
    have ltio := blk_lt Vi.out
    have leo := HB.out.2
    obtain ⟨w4, hw4⟩ : ∃ W, w3.alloc (.cells #[.slice B1 n d1, .int .i64 fr] 24) = W := ⟨_, rfl⟩
    have hb : Below w3.heap.size w3 w4 := hw4 ▸ (Below.refl _ _).alloc (Nat.le_refl _) _
    have hv : w4.heap[w3.heap.size]? = some (.cells #[.slice B1 n d1, .int .i64 fr] 24) := hw4 ▸ heap_alloc_new _ _
    replace Vp := Lib.hid (blk_below Vp.out hb (blk_lt Vp.out))
    replace Vi := Lib.hid (blk_below Vi.out hb (blk_lt Vi.out))
    replace Rp := Lib.hid (Es.below Rp.out hb)
    replace Ro := Lib.hid (Es.below Ro.out hb)
    replace HB := Lib.hid (And.intro (HB.out.1.trans (hb.mono HB.out.2)) (Nat.le_trans HB.out.2 hb.size))
    have Vo := Lib.hid hv
    have neop := (Nat.ne_of_lt ltpo).symm
    have neio := Nat.ne_of_lt ltio
    have geo := leo
    generalize hso : w3.heap.size = so at *
    clear hb hv ltpo ltio leo
    have co0 := blk_cell Vo.out 0; have co1 := blk_cell Vo.out 1
    have ci0 := blk_cell Vi.out 0; have ci1 := blk_cell Vi.out 1
    simp only [List.getElem?_toArray, List.getElem?_cons_zero, List.getElem?_cons_succ] at co0 co1 ci0 ci1
    go_wp2_with fail
    refine (d2.out _ _ _ _ Ro.out).mono ?_
    rintro e w5 ⟨B2, m2, d2_, rfl, hrs, hb⟩
    clear co0 co1 ci0 ci1
    replace Vp := Lib.hid (blk_below Vp.out hb (blk_lt Vp.out))
    replace Vi := Lib.hid (blk_below Vi.out hb (blk_lt Vi.out))
    replace Vo := Lib.hid (blk_below Vo.out hb (blk_lt Vo.out))
    replace Rp := Lib.hid (Es.below Rp.out hb)
    replace Ro := Lib.hid (Es.below Ro.out hb)
    replace HB := Lib.hid (And.intro (HB.out.1.trans (hb.mono HB.out.2)) (Nat.le_trans HB.out.2 hb.size))
    have Rx := Lib.hid hrs
    clear hb hrs
    have ltpx := blk_lt Vp.out
    have ltix := blk_lt Vi.out
    have ltox := blk_lt Vo.out
    have lex := HB.out.2
    obtain ⟨w6, hw6⟩ : ∃ W, w5.alloc (.cells #[.slice B2 m2 d2_, .int .i64 fx] 24) = W := ⟨_, rfl⟩
    have hb : Below w5.heap.size w5 w6 := hw6 ▸ (Below.refl _ _).alloc (Nat.le_refl _) _
    have hv : w6.heap[w5.heap.size]? = some (.cells #[.slice B2 m2 d2_, .int .i64 fx] 24) := hw6 ▸ heap_alloc_new _ _
    replace Vp := Lib.hid (blk_below Vp.out hb (blk_lt Vp.out))
    replace Vi := Lib.hid (blk_below Vi.out hb (blk_lt Vi.out))
    replace Vo := Lib.hid (blk_below Vo.out hb (blk_lt Vo.out))
    replace Rp := Lib.hid (Es.below Rp.out hb)
    replace Ro := Lib.hid (Es.below Ro.out hb)
    replace Rx := Lib.hid (Es.below Rx.out hb)
    replace HB := Lib.hid (And.intro (HB.out.1.trans (hb.mono HB.out.2)) (Nat.le_trans HB.out.2 hb.size))
    have Vx := Lib.hid hv
    have nepx := Nat.ne_of_lt ltpx
    have neix := Nat.ne_of_lt ltix
    have neox := Nat.ne_of_lt ltox
    have gex := lex
    generalize hsx : w5.heap.size = sx at *
    clear hb hv ltpx ltix ltox lex
    have cp0 := blk_cell Vp.out 0; have cp1 := blk_cell Vp.out 1
    have ci0 := blk_cell Vi.out 0; have ci1 := blk_cell Vi.out 1
    simp only [List.getElem?_toArray, List.getElem?_cons_zero, List.getElem?_cons_succ] at cp0 cp1 ci0 ci1
    go_wp2_with fail
    refine (d3.out _ _ _ _ Rp.out).mono ?_
    rintro e w7 ⟨B3, m3, d3_, rfl, hrs, hb⟩
    clear cp0 cp1 ci0 ci1
    replace Vp := Lib.hid (blk_below Vp.out hb (blk_lt Vp.out))
    replace Vi := Lib.hid (blk_below Vi.out hb (blk_lt Vi.out))
    replace Vo := Lib.hid (blk_below Vo.out hb (blk_lt Vo.out))
    replace Vx := Lib.hid (blk_below Vx.out hb (blk_lt Vx.out))
    replace Rp := Lib.hid (Es.below Rp.out hb)
    replace Ro := Lib.hid (Es.below Ro.out hb)
    replace Rx := Lib.hid (Es.below Rx.out hb)
    replace HB := Lib.hid (And.intro (HB.out.1.trans (hb.mono HB.out.2)) (Nat.le_trans HB.out.2 hb.size))
    have Ry := Lib.hid hrs
    clear hb hrs
    have ltpy := blk_lt Vp.out
    have ltiy := blk_lt Vi.out
    have ltoy := blk_lt Vo.out
    have ltxy := blk_lt Vx.out
    have ley := HB.out.2
    obtain ⟨w8, hw8⟩ : ∃ W, w7.alloc (.cells #[.slice B3 m3 d3_, .int .i64 fx] 24) = W := ⟨_, rfl⟩
    have hb : Below w7.heap.size w7 w8 := hw8 ▸ (Below.refl _ _).alloc (Nat.le_refl _) _
    have hv : w8.heap[w7.heap.size]? = some (.cells #[.slice B3 m3 d3_, .int .i64 fx] 24) := hw8 ▸ heap_alloc_new _ _
    replace Vp := Lib.hid (blk_below Vp.out hb (blk_lt Vp.out))
    replace Vi := Lib.hid (blk_below Vi.out hb (blk_lt Vi.out))
    replace Vo := Lib.hid (blk_below Vo.out hb (blk_lt Vo.out))
    replace Vx := Lib.hid (blk_below Vx.out hb (blk_lt Vx.out))
    replace Rp := Lib.hid (Es.below Rp.out hb)
    replace Ro := Lib.hid (Es.below Ro.out hb)
    replace Rx := Lib.hid (Es.below Rx.out hb)
    replace Ry := Lib.hid (Es.below Ry.out hb)
    replace HB := Lib.hid (And.intro (HB.out.1.trans (hb.mono HB.out.2)) (Nat.le_trans HB.out.2 hb.size))
    have Vy := Lib.hid hv
    have nepy := Nat.ne_of_lt ltpy
    have neiy := Nat.ne_of_lt ltiy
    have neoy := Nat.ne_of_lt ltoy
    have nexy := Nat.ne_of_lt ltxy
    have gey := ley
    generalize hsy : w7.heap.size = sy at *
    clear hb hv ltpy ltiy ltoy ltxy ley
    have co0 := blk_cell Vo.out 0; have co1 := blk_cell Vo.out 1
    have ci0 := blk_cell Vi.out 0; have ci1 := blk_cell Vi.out 1
    simp only [List.getElem?_toArray, List.getElem?_cons_zero, List.getElem?_cons_succ] at co0 co1 ci0 ci1
    go_wp2_with fail
    refine (d4.out _ _ _ _ Ro.out).mono ?_
    rintro e w9 ⟨B4, m4, d4_, rfl, hrs, hb⟩
    clear co0 co1 ci0 ci1
    replace Vp := Lib.hid (blk_below Vp.out hb (blk_lt Vp.out))
    replace Vi := Lib.hid (blk_below Vi.out hb (blk_lt Vi.out))
    replace Vo := Lib.hid (blk_below Vo.out hb (blk_lt Vo.out))
    replace Vx := Lib.hid (blk_below Vx.out hb (blk_lt Vx.out))
    replace Vy := Lib.hid (blk_below Vy.out hb (blk_lt Vy.out))
    replace Rp := Lib.hid (Es.below Rp.out hb)
    replace Ro := Lib.hid (Es.below Ro.out hb)
    replace Rx := Lib.hid (Es.below Rx.out hb)
    replace Ry := Lib.hid (Es.below Ry.out hb)
    replace HB := Lib.hid (And.intro (HB.out.1.trans (hb.mono HB.out.2)) (Nat.le_trans HB.out.2 hb.size))
    have Rg := Lib.hid hrs
    clear hb hrs
    have ltpg := blk_lt Vp.out
    have ltig := blk_lt Vi.out
    have ltog := blk_lt Vo.out
    have ltxg := blk_lt Vx.out
    have ltyg := blk_lt Vy.out
    have leg := HB.out.2
    obtain ⟨w10, hw10⟩ : ∃ W, w9.alloc (.cells #[.slice B4 m4 d4_, .int .i64 fg] 24) = W := ⟨_, rfl⟩
    have hb : Below w9.heap.size w9 w10 := hw10 ▸ (Below.refl _ _).alloc (Nat.le_refl _) _
    have hv : w10.heap[w9.heap.size]? = some (.cells #[.slice B4 m4 d4_, .int .i64 fg] 24) := hw10 ▸ heap_alloc_new _ _
    replace Vp := Lib.hid (blk_below Vp.out hb (blk_lt Vp.out))
    replace Vi := Lib.hid (blk_below Vi.out hb (blk_lt Vi.out))
    replace Vo := Lib.hid (blk_below Vo.out hb (blk_lt Vo.out))
    replace Vx := Lib.hid (blk_below Vx.out hb (blk_lt Vx.out))
    replace Vy := Lib.hid (blk_below Vy.out hb (blk_lt Vy.out))
    replace Rp := Lib.hid (Es.below Rp.out hb)
    replace Ro := Lib.hid (Es.below Ro.out hb)
    replace Rx := Lib.hid (Es.below Rx.out hb)
    replace Ry := Lib.hid (Es.below Ry.out hb)
    replace Rg := Lib.hid (Es.below Rg.out hb)
    replace HB := Lib.hid (And.intro (HB.out.1.trans (hb.mono HB.out.2)) (Nat.le_trans HB.out.2 hb.size))
    have Vg := Lib.hid hv
    have negp := (Nat.ne_of_lt ltpg).symm
    have negi := (Nat.ne_of_lt ltig).symm
    have nego := (Nat.ne_of_lt ltog).symm
    have negx := (Nat.ne_of_lt ltxg).symm
    have negy := (Nat.ne_of_lt ltyg).symm
    have geg := leg
    generalize hsg : w9.heap.size = sg at *
    clear hb hv ltpg ltig ltog ltxg ltyg leg
    have cp0 := blk_cell Vp.out 0; have cp1 := blk_cell Vp.out 1
    have ci0 := blk_cell Vi.out 0; have ci1 := blk_cell Vi.out 1
    simp only [List.getElem?_toArray, List.getElem?_cons_zero, List.getElem?_cons_succ] at cp0 cp1 ci0 ci1
    go_wp2_with fail
    refine (d5.out _ _ _ _ Rp.out).mono ?_
    rintro e w11 ⟨B5, m5, d5_, rfl, hrs, hb⟩
    clear cp0 cp1 ci0 ci1
    replace Vp := Lib.hid (blk_below Vp.out hb (blk_lt Vp.out))
    replace Vi := Lib.hid (blk_below Vi.out hb (blk_lt Vi.out))
    replace Vo := Lib.hid (blk_below Vo.out hb (blk_lt Vo.out))
    replace Vx := Lib.hid (blk_below Vx.out hb (blk_lt Vx.out))
    replace Vy := Lib.hid (blk_below Vy.out hb (blk_lt Vy.out))
    replace Vg := Lib.hid (blk_below Vg.out hb (blk_lt Vg.out))
    replace Rp := Lib.hid (Es.below Rp.out hb)
    replace Ro := Lib.hid (Es.below Ro.out hb)
    replace Rx := Lib.hid (Es.below Rx.out hb)
    replace Ry := Lib.hid (Es.below Ry.out hb)
    replace Rg := Lib.hid (Es.below Rg.out hb)
    replace HB := Lib.hid (And.intro (HB.out.1.trans (hb.mono HB.out.2)) (Nat.le_trans HB.out.2 hb.size))
    have Rh := Lib.hid hrs
    clear hb hrs
    have ltph := blk_lt Vp.out
    have ltih := blk_lt Vi.out
    have ltoh := blk_lt Vo.out
    have ltxh := blk_lt Vx.out
    have ltyh := blk_lt Vy.out
    have ltgh := blk_lt Vg.out
    have leh := HB.out.2
    obtain ⟨w12, hw12⟩ : ∃ W, w11.alloc (.cells #[.slice B5 m5 d5_, .int .i64 fg] 24) = W := ⟨_, rfl⟩
    have hb : Below w11.heap.size w11 w12 := hw12 ▸ (Below.refl _ _).alloc (Nat.le_refl _) _
    have hv : w12.heap[w11.heap.size]? = some (.cells #[.slice B5 m5 d5_, .int .i64 fg] 24) := hw12 ▸ heap_alloc_new _ _
    replace Vp := Lib.hid (blk_below Vp.out hb (blk_lt Vp.out))
    replace Vi := Lib.hid (blk_below Vi.out hb (blk_lt Vi.out))
    replace Vo := Lib.hid (blk_below Vo.out hb (blk_lt Vo.out))
    replace Vx := Lib.hid (blk_below Vx.out hb (blk_lt Vx.out))
    replace Vy := Lib.hid (blk_below Vy.out hb (blk_lt Vy.out))
    replace Vg := Lib.hid (blk_below Vg.out hb (blk_lt Vg.out))
    replace Rp := Lib.hid (Es.below Rp.out hb)
    replace Ro := Lib.hid (Es.below Ro.out hb)
    replace Rx := Lib.hid (Es.below Rx.out hb)
    replace Ry := Lib.hid (Es.below Ry.out hb)
    replace Rg := Lib.hid (Es.below Rg.out hb)
    replace Rh := Lib.hid (Es.below Rh.out hb)
    replace HB := Lib.hid (And.intro (HB.out.1.trans (hb.mono HB.out.2)) (Nat.le_trans HB.out.2 hb.size))
    have Vh := Lib.hid hv
    have nehp := (Nat.ne_of_lt ltph).symm
    have nehi := (Nat.ne_of_lt ltih).symm
    have neho := (Nat.ne_of_lt ltoh).symm
    have nehx := (Nat.ne_of_lt ltxh).symm
    have nehy := (Nat.ne_of_lt ltyh).symm
    have negh := Nat.ne_of_lt ltgh
    have geh := leh
    generalize hsh : w11.heap.size = sh at *
    clear hb hv ltph ltih ltoh ltxh ltyh ltgh leh
    have co0 := blk_cell Vo.out 0; have co1 := blk_cell Vo.out 1
    have ci0 := blk_cell Vi.out 0; have ci1 := blk_cell Vi.out 1
    simp only [List.getElem?_toArray, List.getElem?_cons_zero, List.getElem?_cons_succ] at co0 co1 ci0 ci1
    go_wp2_with fail
    refine (d6.out _ _ _ _ Ro.out).mono ?_
    rintro e w13 ⟨B6, m6, d6_, rfl, hrs, hb⟩
    clear co0 co1 ci0 ci1
    replace Vp := Lib.hid (blk_below Vp.out hb (blk_lt Vp.out))
    replace Vi := Lib.hid (blk_below Vi.out hb (blk_lt Vi.out))
    replace Vo := Lib.hid (blk_below Vo.out hb (blk_lt Vo.out))
    replace Vx := Lib.hid (blk_below Vx.out hb (blk_lt Vx.out))
    replace Vy := Lib.hid (blk_below Vy.out hb (blk_lt Vy.out))
    replace Vg := Lib.hid (blk_below Vg.out hb (blk_lt Vg.out))
    replace Vh := Lib.hid (blk_below Vh.out hb (blk_lt Vh.out))
    replace Rp := Lib.hid (Es.below Rp.out hb)
    replace Ro := Lib.hid (Es.below Ro.out hb)
    replace Rx := Lib.hid (Es.below Rx.out hb)
    replace Ry := Lib.hid (Es.below Ry.out hb)
    replace Rg := Lib.hid (Es.below Rg.out hb)
    replace Rh := Lib.hid (Es.below Rh.out hb)
    replace HB := Lib.hid (And.intro (HB.out.1.trans (hb.mono HB.out.2)) (Nat.le_trans HB.out.2 hb.size))
    have Ru := Lib.hid hrs
    clear hb hrs
    have ltpu := blk_lt Vp.out
    have ltiu := blk_lt Vi.out
    have ltou := blk_lt Vo.out
    have ltxu := blk_lt Vx.out
    have ltyu := blk_lt Vy.out
    have ltgu := blk_lt Vg.out
    have lthu := blk_lt Vh.out
    have leu := HB.out.2
    obtain ⟨w14, hw14⟩ : ∃ W, w13.alloc (.cells #[.slice B6 m6 d6_, .int .i64 fu] 24) = W := ⟨_, rfl⟩
    have hb : Below w13.heap.size w13 w14 := hw14 ▸ (Below.refl _ _).alloc (Nat.le_refl _) _
    have hv : w14.heap[w13.heap.size]? = some (.cells #[.slice B6 m6 d6_, .int .i64 fu] 24) := hw14 ▸ heap_alloc_new _ _
    replace Vp := Lib.hid (blk_below Vp.out hb (blk_lt Vp.out))
    replace Vi := Lib.hid (blk_below Vi.out hb (blk_lt Vi.out))
    replace Vo := Lib.hid (blk_below Vo.out hb (blk_lt Vo.out))
    replace Vx := Lib.hid (blk_below Vx.out hb (blk_lt Vx.out))
    replace Vy := Lib.hid (blk_below Vy.out hb (blk_lt Vy.out))
    replace Vg := Lib.hid (blk_below Vg.out hb (blk_lt Vg.out))
    replace Vh := Lib.hid (blk_below Vh.out hb (blk_lt Vh.out))
    replace Rp := Lib.hid (Es.below Rp.out hb)
    replace Ro := Lib.hid (Es.below Ro.out hb)
    replace Rx := Lib.hid (Es.below Rx.out hb)
    replace Ry := Lib.hid (Es.below Ry.out hb)
    replace Rg := Lib.hid (Es.below Rg.out hb)
    replace Rh := Lib.hid (Es.below Rh.out hb)
    replace Ru := Lib.hid (Es.below Ru.out hb)
    replace HB := Lib.hid (And.intro (HB.out.1.trans (hb.mono HB.out.2)) (Nat.le_trans HB.out.2 hb.size))
    have Vu := Lib.hid hv
    have nepu := Nat.ne_of_lt ltpu
    have neiu := Nat.ne_of_lt ltiu
    have neou := Nat.ne_of_lt ltou
    have neux := (Nat.ne_of_lt ltxu).symm
    have neuy := (Nat.ne_of_lt ltyu).symm
    have negu := Nat.ne_of_lt ltgu
    have nehu := Nat.ne_of_lt lthu
    have geu := leu
    generalize hsu : w13.heap.size = su at *
    clear hb hv ltpu ltiu ltou ltxu ltyu ltgu lthu leu
    have cp0 := blk_cell Vp.out 0; have cp1 := blk_cell Vp.out 1
    have ci0 := blk_cell Vi.out 0; have ci1 := blk_cell Vi.out 1
    simp only [List.getElem?_toArray, List.getElem?_cons_zero, List.getElem?_cons_succ] at cp0 cp1 ci0 ci1
    go_wp2_with fail
    refine (d7.out _ _ _ _ Rp.out).mono ?_
    rintro e w15 ⟨B7, m7, d7_, rfl, hrs, hb⟩
    clear cp0 cp1 ci0 ci1
    replace Vp := Lib.hid (blk_below Vp.out hb (blk_lt Vp.out))
    replace Vi := Lib.hid (blk_below Vi.out hb (blk_lt Vi.out))
    replace Vo := Lib.hid (blk_below Vo.out hb (blk_lt Vo.out))
    replace Vx := Lib.hid (blk_below Vx.out hb (blk_lt Vx.out))
    replace Vy := Lib.hid (blk_below Vy.out hb (blk_lt Vy.out))
    replace Vg := Lib.hid (blk_below Vg.out hb (blk_lt Vg.out))
    replace Vh := Lib.hid (blk_below Vh.out hb (blk_lt Vh.out))
    replace Vu := Lib.hid (blk_below Vu.out hb (blk_lt Vu.out))
    replace Rp := Lib.hid (Es.below Rp.out hb)
    replace Ro := Lib.hid (Es.below Ro.out hb)
    replace Rx := Lib.hid (Es.below Rx.out hb)
    replace Ry := Lib.hid (Es.below Ry.out hb)
    replace Rg := Lib.hid (Es.below Rg.out hb)
    replace Rh := Lib.hid (Es.below Rh.out hb)
    replace Ru := Lib.hid (Es.below Ru.out hb)
    replace HB := Lib.hid (And.intro (HB.out.1.trans (hb.mono HB.out.2)) (Nat.le_trans HB.out.2 hb.size))
    have Rv := Lib.hid hrs
    clear hb hrs
    have ltpv := blk_lt Vp.out
    have ltiv := blk_lt Vi.out
    have ltov := blk_lt Vo.out
    have ltxv := blk_lt Vx.out
    have ltyv := blk_lt Vy.out
    have ltgv := blk_lt Vg.out
    have lthv := blk_lt Vh.out
    have ltuv := blk_lt Vu.out
    have lev := HB.out.2
    obtain ⟨w16, hw16⟩ : ∃ W, w15.alloc (.cells #[.slice B7 m7 d7_, .int .i64 fu] 24) = W := ⟨_, rfl⟩
    have hb : Below w15.heap.size w15 w16 := hw16 ▸ (Below.refl _ _).alloc (Nat.le_refl _) _
    have hv : w16.heap[w15.heap.size]? = some (.cells #[.slice B7 m7 d7_, .int .i64 fu] 24) := hw16 ▸ heap_alloc_new _ _
    replace Vp := Lib.hid (blk_below Vp.out hb (blk_lt Vp.out))
    replace Vi := Lib.hid (blk_below Vi.out hb (blk_lt Vi.out))
    replace Vo := Lib.hid (blk_below Vo.out hb (blk_lt Vo.out))
    replace Vx := Lib.hid (blk_below Vx.out hb (blk_lt Vx.out))
    replace Vy := Lib.hid (blk_below Vy.out hb (blk_lt Vy.out))
    replace Vg := Lib.hid (blk_below Vg.out hb (blk_lt Vg.out))
    replace Vh := Lib.hid (blk_below Vh.out hb (blk_lt Vh.out))
    replace Vu := Lib.hid (blk_below Vu.out hb (blk_lt Vu.out))
    replace Rp := Lib.hid (Es.below Rp.out hb)
    replace Ro := Lib.hid (Es.below Ro.out hb)
    replace Rx := Lib.hid (Es.below Rx.out hb)
    replace Ry := Lib.hid (Es.below Ry.out hb)
    replace Rg := Lib.hid (Es.below Rg.out hb)
    replace Rh := Lib.hid (Es.below Rh.out hb)
    replace Ru := Lib.hid (Es.below Ru.out hb)
    replace Rv := Lib.hid (Es.below Rv.out hb)
    replace HB := Lib.hid (And.intro (HB.out.1.trans (hb.mono HB.out.2)) (Nat.le_trans HB.out.2 hb.size))
    have Vv := Lib.hid hv
    have nepv := Nat.ne_of_lt ltpv
    have neiv := Nat.ne_of_lt ltiv
    have neov := Nat.ne_of_lt ltov
    have nevx := (Nat.ne_of_lt ltxv).symm
    have nevy := (Nat.ne_of_lt ltyv).symm
    have negv := Nat.ne_of_lt ltgv
    have nehv := Nat.ne_of_lt lthv
    have neuv := Nat.ne_of_lt ltuv
    have gev := lev
    generalize hsv : w15.heap.size = sv at *
    clear hb hv ltpv ltiv ltov ltxv ltyv ltgv lthv ltuv lev
    go_wp2
    refine wp_region_noPanic ?_
    refine wp_region_held_drew (S := (fun wv => Below w16.heap.size w16 wv)) (by kernel_rfl) ((Below.refl w16.heap.size w16).drew) (fun hS => ?_)
    refine wpAnyH_take (i := 0) (oi := ({ dst := some 80, op := Op.load 24 (Operand.tmp 6), type := 24, pos := "law.go:38", after := #[], guard := none } : Oper)) (v := .agg (([.slice B2 m2 d2_, .int .i64 fx] : List Value)).toArray) rfl (by kernel_rfl) (by kernel_rfl) (by kernel_rfl) (fun _ _ _ h => h) (yieldsIf_load_mid (by rfl) _ _ (by rfl) (sx) 0 (by rfl) (([.slice B2 m2 d2_, .int .i64 fx] : List Value)) _ (fun wv hS => blk_rng (blk_below Vx.out hS (blk_lt Vx.out))) Try.underlying24 (by rfl) (by kernel_rfl)) hS ?_
    try simp only [Act.put, List.setIfInBounds_toArray, List.set_cons_zero, List.set_cons_succ]
    refine wpAnyH_take (i := 1) (oi := ({ dst := some 81, op := Op.load 24 (Operand.tmp 9), type := 24, pos := "law.go:38", after := #[], guard := none } : Oper)) (v := .agg (([.slice B3 m3 d3_, .int .i64 fx] : List Value)).toArray) rfl (by kernel_rfl) (by kernel_rfl) (by kernel_rfl) (fun _ _ _ h => h) (yieldsIf_load_mid (by rfl) _ _ (by rfl) (sy) 0 (by rfl) (([.slice B3 m3 d3_, .int .i64 fx] : List Value)) _ (fun wv hS => blk_rng (blk_below Vy.out hS (blk_lt Vy.out))) Try.underlying24 (by rfl) (by kernel_rfl)) hS ?_
    try simp only [Act.put, List.setIfInBounds_toArray, List.set_cons_zero, List.set_cons_succ]
    refine wpAnyH_ready (rs := [2]) (by kernel_rfl) (by simp) (AllReadyH.cons (o := ({ dst := some 82, op := Op.call { callee := Callee.value (Operand.func 15), args := #[Operand.tmp 80, Operand.tmp 81], argTypes := #[24, 24] }, type := 4, pos := "law.go:38", after := #[{ on := 0, ground := Ground.data }, { on := 1, ground := Ground.data }], guard := none } : Oper)) rfl (fun K hK => ?_) AllReadyH.nil)
    go_simp
    refine (qx.out _ _ _ _ _ _ _ (Es.below Rx.out hS) (Es.below Ry.out hS)).mono ?_; rintro e u2 ⟨rfl, hb⟩
    replace hS := hS.trans (hb.mono hS.size)
    clear hb
    go_wp2_with fail
    refine Shut.out hK _ _ (by first | exact hS | trivial) (fun _ => ?_)
    clear hK K
    try simp only [Act.put, List.setIfInBounds_toArray, List.set_cons_zero, List.set_cons_succ]
    refine wpAnyH_take (i := 3) (oi := ({ dst := some 83, op := Op.move (Operand.tmp 82), type := 4, pos := "law.go:38", after := #[{ on := 2, ground := Ground.data }, { on := 2, ground := Ground.chain }], guard := none } : Oper)) (v := ?_) rfl (by kernel_rfl) (by kernel_rfl) (by kernel_rfl) (fun _ _ _ h => h) (Or.inl ⟨by rfl, ?_⟩) hS ?_
    rotate_left
    · intro wv _; go_simp; try with_reducible rfl
    try simp only [Act.put, List.setIfInBounds_toArray, List.set_cons_zero, List.set_cons_succ]
    refine wpAnyH_take (i := 4) (oi := ({ dst := some 84, op := Op.move (Operand.tmp 7), type := 3, pos := "law.go:38", after := #[{ on := 3, ground := Ground.guard }], guard := some (3, true) } : Oper)) (v := ?_) rfl (by kernel_rfl) (by kernel_rfl) (by kernel_rfl) (fun _ _ _ h => h) (Or.inl ⟨by rfl, ?_⟩) hS ?_
    rotate_left
    · intro wv _; go_simp; try with_reducible rfl
    try simp only [Act.put, List.setIfInBounds_toArray, List.set_cons_zero, List.set_cons_succ]
    refine wpAnyH_take (i := 5) (oi := ({ dst := some 85, op := Op.move (Operand.tmp 10), type := 3, pos := "law.go:38", after := #[{ on := 3, ground := Ground.guard }], guard := some (3, true) } : Oper)) (v := ?_) rfl (by kernel_rfl) (by kernel_rfl) (by kernel_rfl) (fun _ _ _ h => h) (Or.inl ⟨by rfl, ?_⟩) hS ?_
    rotate_left
    · intro wv _; go_simp; try with_reducible rfl
    try simp only [Act.put, List.setIfInBounds_toArray, List.set_cons_zero, List.set_cons_succ]
    refine wpAnyH_take (i := 6) (oi := ({ dst := some 86, op := Op.binOp BinOp.eql 3 (Operand.tmp 84) (Operand.tmp 85) 3, type := 4, pos := "law.go:38", after := #[{ on := 4, ground := Ground.data }, { on := 5, ground := Ground.data }, { on := 3, ground := Ground.guard }], guard := some (3, true) } : Oper)) (v := ?_) rfl (by kernel_rfl) (by kernel_rfl) (by kernel_rfl) (fun _ _ _ h => h) (Or.inl ⟨by rfl, ?_⟩) hS ?_
    rotate_left
    · intro wv _; go_simp; try with_reducible rfl
    try simp only [Act.put, List.setIfInBounds_toArray, List.set_cons_zero, List.set_cons_succ]
    refine wpAnyH_take (i := 7) (oi := ({ dst := some 87, op := Op.pick (Operand.tmp 83) (Operand.tmp 86) (Operand.const (Value.bool false)), type := 4, pos := "law.go:38", after := #[{ on := 3, ground := Ground.data }, { on := 6, ground := Ground.data }], guard := none } : Oper)) (v := ?_) rfl (by kernel_rfl) (by kernel_rfl) (by kernel_rfl) (fun _ _ _ h => h) (Or.inl ⟨by rfl, ?_⟩) hS ?_
    rotate_left
    · intro wv _; go_simp; try with_reducible rfl
    try simp only [Act.put, List.setIfInBounds_toArray, List.set_cons_zero, List.set_cons_succ]
    refine wpAnyH_take (i := 8) (oi := ({ dst := some 88, op := Op.move (Operand.tmp 87), type := 4, pos := "law.go:38", after := #[{ on := 7, ground := Ground.data }, { on := 3, ground := Ground.chain }], guard := none } : Oper)) (v := ?_) rfl (by kernel_rfl) (by kernel_rfl) (by kernel_rfl) (fun _ _ _ h => h) (Or.inl ⟨by rfl, ?_⟩) hS ?_
    rotate_left
    · intro wv _; go_simp; try with_reducible rfl
    try simp only [Act.put, List.setIfInBounds_toArray, List.set_cons_zero, List.set_cons_succ]
    refine wpAnyH_take (i := 9) (oi := ({ dst := some 89, op := Op.move (Operand.tmp 8), type := 28, pos := "law.go:38", after := #[{ on := 8, ground := Ground.guard }], guard := some (8, true) } : Oper)) (v := ?_) rfl (by kernel_rfl) (by kernel_rfl) (by kernel_rfl) (fun _ _ _ h => h) (Or.inl ⟨by rfl, ?_⟩) hS ?_
    rotate_left
    · intro wv _; go_simp; try with_reducible rfl
    try simp only [Act.put, List.setIfInBounds_toArray, List.set_cons_zero, List.set_cons_succ]
    refine wpAnyH_take (i := 10) (oi := ({ dst := some 90, op := Op.move (Operand.tmp 11), type := 28, pos := "law.go:38", after := #[{ on := 8, ground := Ground.guard }], guard := some (8, true) } : Oper)) (v := ?_) rfl (by kernel_rfl) (by kernel_rfl) (by kernel_rfl) (fun _ _ _ h => h) (Or.inl ⟨by rfl, ?_⟩) hS ?_
    rotate_left
    · intro wv _; go_simp; try with_reducible rfl
    try simp only [Act.put, List.setIfInBounds_toArray, List.set_cons_zero, List.set_cons_succ]
    refine wpAnyH_take (i := 11) (oi := ({ dst := some 91, op := Op.binOp BinOp.eql 28 (Operand.tmp 89) (Operand.tmp 90) 28, type := 4, pos := "law.go:38", after := #[{ on := 9, ground := Ground.data }, { on := 10, ground := Ground.data }, { on := 8, ground := Ground.guard }], guard := some (8, true) } : Oper)) (v := ?_) rfl (by kernel_rfl) (by kernel_rfl) (by kernel_rfl) (fun _ _ _ h => h) (Or.inl ⟨by rfl, ?_⟩) hS ?_
    rotate_left
    · intro wv _; go_simp; try with_reducible rfl
    try simp only [Act.put, List.setIfInBounds_toArray, List.set_cons_zero, List.set_cons_succ]
    refine wpAnyH_take (i := 12) (oi := ({ dst := some 92, op := Op.pick (Operand.tmp 88) (Operand.tmp 91) (Operand.const (Value.bool false)), type := 4, pos := "law.go:38", after := #[{ on := 8, ground := Ground.data }, { on := 11, ground := Ground.data }], guard := none } : Oper)) (v := ?_) rfl (by kernel_rfl) (by kernel_rfl) (by kernel_rfl) (fun _ _ _ h => h) (Or.inl ⟨by rfl, ?_⟩) hS ?_
    rotate_left
    · intro wv _; go_simp; try with_reducible rfl
    try simp only [Act.put, List.setIfInBounds_toArray, List.set_cons_zero, List.set_cons_succ]
    refine wpAnyH_take (i := 13) (oi := ({ dst := some 93, op := Op.move (Operand.tmp 92), type := 4, pos := "law.go:38", after := #[{ on := 12, ground := Ground.data }, { on := 8, ground := Ground.chain }], guard := none } : Oper)) (v := ?_) rfl (by kernel_rfl) (by kernel_rfl) (by kernel_rfl) (fun _ _ _ h => h) (Or.inl ⟨by rfl, ?_⟩) hS ?_
    rotate_left
    · intro wv _; go_simp; try with_reducible rfl
    try simp only [Act.put, List.setIfInBounds_toArray, List.set_cons_zero, List.set_cons_succ]
    refine wpAnyH_take (i := 14) (oi := ({ dst := some 94, op := Op.load 24 (Operand.tmp 12), type := 24, pos := "law.go:38", after := #[{ on := 13, ground := Ground.guard }], guard := some (13, true) } : Oper)) (v := .agg (([.slice B4 m4 d4_, .int .i64 fg] : List Value)).toArray) rfl (by kernel_rfl) (by kernel_rfl) (by kernel_rfl) (fun _ _ _ h => h) (yieldsIf_load_mid (by rfl) _ _ (by rfl) (sg) 0 (by rfl) (([.slice B4 m4 d4_, .int .i64 fg] : List Value)) _ (fun wv hS => blk_rng (blk_below Vg.out hS (blk_lt Vg.out))) Try.underlying24 (by rfl) (by kernel_rfl)) hS ?_
    try simp only [Act.put, List.setIfInBounds_toArray, List.set_cons_zero, List.set_cons_succ]
    refine wpAnyH_take (i := 15) (oi := ({ dst := some 95, op := Op.load 24 (Operand.tmp 14), type := 24, pos := "law.go:38", after := #[{ on := 13, ground := Ground.guard }], guard := some (13, true) } : Oper)) (v := .agg (([.slice B5 m5 d5_, .int .i64 fg] : List Value)).toArray) rfl (by kernel_rfl) (by kernel_rfl) (by kernel_rfl) (fun _ _ _ h => h) (yieldsIf_load_mid (by rfl) _ _ (by rfl) (sh) 0 (by rfl) (([.slice B5 m5 d5_, .int .i64 fg] : List Value)) _ (fun wv hS => blk_rng (blk_below Vh.out hS (blk_lt Vh.out))) Try.underlying24 (by rfl) (by kernel_rfl)) hS ?_
    try simp only [Act.put, List.setIfInBounds_toArray, List.set_cons_zero, List.set_cons_succ]
    refine wpAnyH_ready (rs := [16]) (by kernel_rfl) (by simp) (AllReadyH.cons (o := ({ dst := some 96, op := Op.call { callee := Callee.value (Operand.func 15), args := #[Operand.tmp 94, Operand.tmp 95], argTypes := #[24, 24] }, type := 4, pos := "law.go:38", after := #[{ on := 14, ground := Ground.data }, { on := 15, ground := Ground.data }, { on := 13, ground := Ground.chain }, { on := 13, ground := Ground.guard }], guard := some (13, true) } : Oper)) rfl (fun K hK => ?_) AllReadyH.nil)
    go_simp
    refine (qg.out _ _ _ _ _ _ _ (Es.below Rg.out hS) (Es.below Rh.out hS)).mono ?_; rintro e u16 ⟨rfl, hb⟩
    replace hS := hS.trans (hb.mono hS.size)
    clear hb
    go_wp2_with fail
    refine Shut.out hK _ _ (by first | exact hS | trivial) (fun _ => ?_)
    clear hK K
    try simp only [Act.put, List.setIfInBounds_toArray, List.set_cons_zero, List.set_cons_succ]
    refine wpAnyH_take (i := 17) (oi := ({ dst := some 97, op := Op.pick (Operand.tmp 93) (Operand.tmp 96) (Operand.const (Value.bool false)), type := 4, pos := "law.go:38", after := #[{ on := 13, ground := Ground.data }, { on := 16, ground := Ground.data }], guard := none } : Oper)) (v := ?_) rfl (by kernel_rfl) (by kernel_rfl) (by kernel_rfl) (fun _ _ _ h => h) (Or.inl ⟨by rfl, ?_⟩) hS ?_
    rotate_left
    · intro wv _; go_simp; try with_reducible rfl
    try simp only [Act.put, List.setIfInBounds_toArray, List.set_cons_zero, List.set_cons_succ]
    refine wpAnyH_take (i := 18) (oi := ({ dst := some 98, op := Op.move (Operand.tmp 97), type := 4, pos := "law.go:38", after := #[{ on := 17, ground := Ground.data }, { on := 16, ground := Ground.chain }], guard := none } : Oper)) (v := ?_) rfl (by kernel_rfl) (by kernel_rfl) (by kernel_rfl) (fun _ _ _ h => h) (Or.inl ⟨by rfl, ?_⟩) hS ?_
    rotate_left
    · intro wv _; go_simp; try with_reducible rfl
    try simp only [Act.put, List.setIfInBounds_toArray, List.set_cons_zero, List.set_cons_succ]
    refine wpAnyH_take (i := 19) (oi := ({ dst := some 99, op := Op.move (Operand.tmp 13), type := 28, pos := "law.go:38", after := #[{ on := 18, ground := Ground.guard }], guard := some (18, true) } : Oper)) (v := ?_) rfl (by kernel_rfl) (by kernel_rfl) (by kernel_rfl) (fun _ _ _ h => h) (Or.inl ⟨by rfl, ?_⟩) hS ?_
    rotate_left
    · intro wv _; go_simp; try with_reducible rfl
    try simp only [Act.put, List.setIfInBounds_toArray, List.set_cons_zero, List.set_cons_succ]
    refine wpAnyH_take (i := 20) (oi := ({ dst := some 100, op := Op.move (Operand.tmp 15), type := 28, pos := "law.go:38", after := #[{ on := 18, ground := Ground.guard }], guard := some (18, true) } : Oper)) (v := ?_) rfl (by kernel_rfl) (by kernel_rfl) (by kernel_rfl) (fun _ _ _ h => h) (Or.inl ⟨by rfl, ?_⟩) hS ?_
    rotate_left
    · intro wv _; go_simp; try with_reducible rfl
    try simp only [Act.put, List.setIfInBounds_toArray, List.set_cons_zero, List.set_cons_succ]
    refine wpAnyH_take (i := 21) (oi := ({ dst := some 101, op := Op.binOp BinOp.eql 28 (Operand.tmp 99) (Operand.tmp 100) 28, type := 4, pos := "law.go:38", after := #[{ on := 19, ground := Ground.data }, { on := 20, ground := Ground.data }, { on := 18, ground := Ground.guard }], guard := some (18, true) } : Oper)) (v := ?_) rfl (by kernel_rfl) (by kernel_rfl) (by kernel_rfl) (fun _ _ _ h => h) (Or.inl ⟨by rfl, ?_⟩) hS ?_
    rotate_left
    · intro wv _; go_simp; try with_reducible rfl
    try simp only [Act.put, List.setIfInBounds_toArray, List.set_cons_zero, List.set_cons_succ]
    refine wpAnyH_take (i := 22) (oi := ({ dst := some 102, op := Op.pick (Operand.tmp 98) (Operand.tmp 101) (Operand.const (Value.bool false)), type := 4, pos := "law.go:38", after := #[{ on := 18, ground := Ground.data }, { on := 21, ground := Ground.data }], guard := none } : Oper)) (v := ?_) rfl (by kernel_rfl) (by kernel_rfl) (by kernel_rfl) (fun _ _ _ h => h) (Or.inl ⟨by rfl, ?_⟩) hS ?_
    rotate_left
    · intro wv _; go_simp; try with_reducible rfl
    try simp only [Act.put, List.setIfInBounds_toArray, List.set_cons_zero, List.set_cons_succ]
    refine wpAnyH_take (i := 23) (oi := ({ dst := some 103, op := Op.move (Operand.tmp 102), type := 4, pos := "law.go:38", after := #[{ on := 22, ground := Ground.data }, { on := 18, ground := Ground.chain }], guard := none } : Oper)) (v := ?_) rfl (by kernel_rfl) (by kernel_rfl) (by kernel_rfl) (fun _ _ _ h => h) (Or.inl ⟨by rfl, ?_⟩) hS ?_
    rotate_left
    · intro wv _; go_simp; try with_reducible rfl
    try simp only [Act.put, List.setIfInBounds_toArray, List.set_cons_zero, List.set_cons_succ]
    refine wpAnyH_take (i := 24) (oi := ({ dst := some 104, op := Op.load 24 (Operand.tmp 16), type := 24, pos := "law.go:38", after := #[{ on := 23, ground := Ground.guard }], guard := some (23, true) } : Oper)) (v := .agg (([.slice B6 m6 d6_, .int .i64 fu] : List Value)).toArray) rfl (by kernel_rfl) (by kernel_rfl) (by kernel_rfl) (fun _ _ _ h => h) (yieldsIf_load_mid (by rfl) _ _ (by rfl) (su) 0 (by rfl) (([.slice B6 m6 d6_, .int .i64 fu] : List Value)) _ (fun wv hS => blk_rng (blk_below Vu.out hS (blk_lt Vu.out))) Try.underlying24 (by rfl) (by kernel_rfl)) hS ?_
    try simp only [Act.put, List.setIfInBounds_toArray, List.set_cons_zero, List.set_cons_succ]
    refine wpAnyH_take (i := 25) (oi := ({ dst := some 105, op := Op.load 24 (Operand.tmp 18), type := 24, pos := "law.go:38", after := #[{ on := 23, ground := Ground.guard }], guard := some (23, true) } : Oper)) (v := .agg (([.slice B7 m7 d7_, .int .i64 fu] : List Value)).toArray) rfl (by kernel_rfl) (by kernel_rfl) (by kernel_rfl) (fun _ _ _ h => h) (yieldsIf_load_mid (by rfl) _ _ (by rfl) (sv) 0 (by rfl) (([.slice B7 m7 d7_, .int .i64 fu] : List Value)) _ (fun wv hS => blk_rng (blk_below Vv.out hS (blk_lt Vv.out))) Try.underlying24 (by rfl) (by kernel_rfl)) hS ?_
    try simp only [Act.put, List.setIfInBounds_toArray, List.set_cons_zero, List.set_cons_succ]
    refine wpAnyH_ready (rs := [26]) (by kernel_rfl) (by simp) (AllReadyH.cons (o := ({ dst := some 106, op := Op.call { callee := Callee.value (Operand.func 15), args := #[Operand.tmp 104, Operand.tmp 105], argTypes := #[24, 24] }, type := 4, pos := "law.go:38", after := #[{ on := 24, ground := Ground.data }, { on := 25, ground := Ground.data }, { on := 23, ground := Ground.chain }, { on := 23, ground := Ground.guard }], guard := some (23, true) } : Oper)) rfl (fun K hK => ?_) AllReadyH.nil)
    go_simp
    refine (qu.out _ _ _ _ _ _ _ (Es.below Ru.out hS) (Es.below Rv.out hS)).mono ?_; rintro e u26 ⟨rfl, hb⟩
    replace hS := hS.trans (hb.mono hS.size)
    clear hb
    go_wp2_with fail
    refine Shut.out hK _ _ (by first | exact hS | trivial) (fun _ => ?_)
    clear hK K
    try simp only [Act.put, List.setIfInBounds_toArray, List.set_cons_zero, List.set_cons_succ]
    refine wpAnyH_take (i := 27) (oi := ({ dst := some 107, op := Op.pick (Operand.tmp 103) (Operand.tmp 106) (Operand.const (Value.bool false)), type := 4, pos := "law.go:38", after := #[{ on := 23, ground := Ground.data }, { on := 26, ground := Ground.data }], guard := none } : Oper)) (v := ?_) rfl (by kernel_rfl) (by kernel_rfl) (by kernel_rfl) (fun _ _ _ h => h) (Or.inl ⟨by rfl, ?_⟩) hS ?_
    rotate_left
    · intro wv _; go_simp; try with_reducible rfl
    try simp only [Act.put, List.setIfInBounds_toArray, List.set_cons_zero, List.set_cons_succ]
    refine wpAnyH_take (i := 28) (oi := ({ dst := some 108, op := Op.move (Operand.tmp 107), type := 4, pos := "law.go:38", after := #[{ on := 27, ground := Ground.data }, { on := 26, ground := Ground.chain }], guard := none } : Oper)) (v := ?_) rfl (by kernel_rfl) (by kernel_rfl) (by kernel_rfl) (fun _ _ _ h => h) (Or.inl ⟨by rfl, ?_⟩) hS ?_
    rotate_left
    · intro wv _; go_simp; try with_reducible rfl
    try simp only [Act.put, List.setIfInBounds_toArray, List.set_cons_zero, List.set_cons_succ]
    refine wpAnyH_take (i := 29) (oi := ({ dst := some 109, op := Op.move (Operand.tmp 17), type := 28, pos := "law.go:38", after := #[{ on := 28, ground := Ground.guard }], guard := some (28, true) } : Oper)) (v := ?_) rfl (by kernel_rfl) (by kernel_rfl) (by kernel_rfl) (fun _ _ _ h => h) (Or.inl ⟨by rfl, ?_⟩) hS ?_
    rotate_left
    · intro wv _; go_simp; try with_reducible rfl
    try simp only [Act.put, List.setIfInBounds_toArray, List.set_cons_zero, List.set_cons_succ]
    refine wpAnyH_take (i := 30) (oi := ({ dst := some 110, op := Op.move (Operand.tmp 19), type := 28, pos := "law.go:38", after := #[{ on := 28, ground := Ground.guard }], guard := some (28, true) } : Oper)) (v := ?_) rfl (by kernel_rfl) (by kernel_rfl) (by kernel_rfl) (fun _ _ _ h => h) (Or.inl ⟨by rfl, ?_⟩) hS ?_
    rotate_left
    · intro wv _; go_simp; try with_reducible rfl
    try simp only [Act.put, List.setIfInBounds_toArray, List.set_cons_zero, List.set_cons_succ]
    refine wpAnyH_take (i := 31) (oi := ({ dst := some 111, op := Op.binOp BinOp.eql 28 (Operand.tmp 109) (Operand.tmp 110) 28, type := 4, pos := "law.go:38", after := #[{ on := 29, ground := Ground.data }, { on := 30, ground := Ground.data }, { on := 28, ground := Ground.guard }], guard := some (28, true) } : Oper)) (v := ?_) rfl (by kernel_rfl) (by kernel_rfl) (by kernel_rfl) (fun _ _ _ h => h) (Or.inl ⟨by rfl, ?_⟩) hS ?_
    rotate_left
    · intro wv _; go_simp; try with_reducible rfl
    try simp only [Act.put, List.setIfInBounds_toArray, List.set_cons_zero, List.set_cons_succ]
    refine wpAnyH_take (i := 32) (oi := ({ dst := some 112, op := Op.pick (Operand.tmp 108) (Operand.tmp 111) (Operand.const (Value.bool false)), type := 4, pos := "law.go:38", after := #[{ on := 28, ground := Ground.data }, { on := 31, ground := Ground.data }], guard := none } : Oper)) (v := ?_) rfl (by kernel_rfl) (by kernel_rfl) (by kernel_rfl) (fun _ _ _ h => h) (Or.inl ⟨by rfl, ?_⟩) hS ?_
    rotate_left
    · intro wv _; go_simp; try with_reducible rfl
    try simp only [Act.put, List.setIfInBounds_toArray, List.set_cons_zero, List.set_cons_succ]
    refine wpAnyH_take (i := 33) (oi := ({ dst := some 113, op := Op.move (Operand.tmp 112), type := 4, pos := "law.go:38", after := #[{ on := 32, ground := Ground.data }, { on := 28, ground := Ground.chain }], guard := none } : Oper)) (v := ?_) rfl (by kernel_rfl) (by kernel_rfl) (by kernel_rfl) (fun _ _ _ h => h) (Or.inl ⟨by rfl, ?_⟩) hS ?_
    rotate_left
    · intro wv _; go_simp; try with_reducible rfl
    try simp only [Act.put, List.setIfInBounds_toArray, List.set_cons_zero, List.set_cons_succ]
    refine wpAnyH_take (i := 34) (oi := ({ dst := some 114, op := Op.load 24 (Operand.tmp 2), type := 24, pos := "law.go:38", after := #[{ on := 33, ground := Ground.guard }], guard := some (33, true) } : Oper)) (v := .agg (([.slice A n c, .int .i64 fr] : List Value)).toArray) rfl (by kernel_rfl) (by kernel_rfl) (by kernel_rfl) (fun _ _ _ h => h) (yieldsIf_load_mid (by rfl) _ _ (by rfl) (sp) 0 (by rfl) (([.slice A n c, .int .i64 fr] : List Value)) _ (fun wv hS => blk_rng (blk_below Vp.out hS (blk_lt Vp.out))) Try.underlying24 (by rfl) (by kernel_rfl)) hS ?_
    try simp only [Act.put, List.setIfInBounds_toArray, List.set_cons_zero, List.set_cons_succ]
    refine wpAnyH_take (i := 36) (oi := ({ dst := some 116, op := Op.load 24 (Operand.tmp 2), type := 24, pos := "law.go:38", after := #[{ on := 33, ground := Ground.guard }], guard := some (33, true) } : Oper)) (v := .agg (([.slice A n c, .int .i64 fr] : List Value)).toArray) rfl (by kernel_rfl) (by kernel_rfl) (by kernel_rfl) (fun _ _ _ h => h) (yieldsIf_load_mid (by rfl) _ _ (by rfl) (sp) 0 (by rfl) (([.slice A n c, .int .i64 fr] : List Value)) _ (fun wv hS => blk_rng (blk_below Vp.out hS (blk_lt Vp.out))) Try.underlying24 (by rfl) (by kernel_rfl)) hS ?_
    try simp only [Act.put, List.setIfInBounds_toArray, List.set_cons_zero, List.set_cons_succ]
    refine wpAnyH_ready (rs := [35]) (by kernel_rfl) (by simp) (AllReadyH.cons (o := ({ dst := some 115, op := Op.call { callee := Callee.value (Operand.func 16), args := #[Operand.tmp 114], argTypes := #[24] }, type := 4, pos := "law.go:38", after := #[{ on := 34, ground := Ground.data }, { on := 33, ground := Ground.chain }, { on := 33, ground := Ground.guard }], guard := some (33, true) } : Oper)) rfl (fun K hK => ?_) AllReadyH.nil)
    go_simp
    refine (r1.out _ _ _ _ (Es.below Rp.out hS)).mono ?_; rintro e u35 ⟨rfl, hb⟩
    replace hS := hS.trans (hb.mono hS.size)
    clear hb
    go_wp2_with fail
    refine Shut.out hK _ _ (by first | exact hS | trivial) (fun _ => ?_)
    clear hK K
    try simp only [Act.put, List.setIfInBounds_toArray, List.set_cons_zero, List.set_cons_succ]
    refine wpAnyH_ready (rs := [37]) (by kernel_rfl) (by simp) (AllReadyH.cons (o := ({ dst := some 117, op := Op.call { callee := Callee.value (Operand.func 17), args := #[Operand.tmp 116], argTypes := #[24] }, type := 4, pos := "law.go:38", after := #[{ on := 36, ground := Ground.data }, { on := 35, ground := Ground.chain }, { on := 33, ground := Ground.guard }], guard := some (33, true) } : Oper)) rfl (fun K hK => ?_) AllReadyH.nil)
    go_simp
    refine (r2.out _ _ _ _ (Es.below Rp.out hS)).mono ?_; rintro e u37 ⟨rfl, hb⟩
    replace hS := hS.trans (hb.mono hS.size)
    clear hb
    go_wp2_with fail
    refine Shut.out hK _ _ (by first | exact hS | trivial) (fun _ => ?_)
    clear hK K
    try simp only [Act.put, List.setIfInBounds_toArray, List.set_cons_zero, List.set_cons_succ]
    refine wpAnyH_take (i := 38) (oi := ({ dst := some 118, op := Op.binOp BinOp.eql 4 (Operand.tmp 115) (Operand.tmp 117) 4, type := 4, pos := "law.go:38", after := #[{ on := 35, ground := Ground.data }, { on := 37, ground := Ground.data }, { on := 33, ground := Ground.guard }], guard := some (33, true) } : Oper)) (v := ?_) rfl (by kernel_rfl) (by kernel_rfl) (by kernel_rfl) (fun _ _ _ h => h) (Or.inl ⟨by rfl, ?_⟩) hS ?_
    rotate_left
    · intro wv _; go_simp; try with_reducible rfl
    try simp only [Act.put, List.setIfInBounds_toArray, List.set_cons_zero, List.set_cons_succ]
    refine wpAnyH_take (i := 39) (oi := ({ dst := some 119, op := Op.pick (Operand.tmp 113) (Operand.tmp 118) (Operand.const (Value.bool false)), type := 4, pos := "law.go:38", after := #[{ on := 33, ground := Ground.data }, { on := 38, ground := Ground.data }], guard := none } : Oper)) (v := ?_) rfl (by kernel_rfl) (by kernel_rfl) (by kernel_rfl) (fun _ _ _ h => h) (Or.inl ⟨by rfl, ?_⟩) hS ?_
    rotate_left
    · intro wv _; go_simp; try with_reducible rfl
    try simp only [Act.put, List.setIfInBounds_toArray, List.set_cons_zero, List.set_cons_succ]
    refine wpAnyH_take (i := 40) (oi := ({ dst := some 120, op := Op.move (Operand.tmp 119), type := 4, pos := "law.go:38", after := #[{ on := 39, ground := Ground.data }, { on := 37, ground := Ground.chain }], guard := none } : Oper)) (v := ?_) rfl (by kernel_rfl) (by kernel_rfl) (by kernel_rfl) (fun _ _ _ h => h) (Or.inl ⟨by rfl, ?_⟩) hS ?_
    rotate_left
    · intro wv _; go_simp; try with_reducible rfl
    try simp only [Act.put, List.setIfInBounds_toArray, List.set_cons_zero, List.set_cons_succ]
    refine wpAnyH_take (i := 41) (oi := ({ dst := some 121, op := Op.load 24 (Operand.tmp 2), type := 24, pos := "law.go:38", after := #[{ on := 40, ground := Ground.guard }], guard := some (40, true) } : Oper)) (v := .agg (([.slice A n c, .int .i64 fr] : List Value)).toArray) rfl (by kernel_rfl) (by kernel_rfl) (by kernel_rfl) (fun _ _ _ h => h) (yieldsIf_load_mid (by rfl) _ _ (by rfl) (sp) 0 (by rfl) (([.slice A n c, .int .i64 fr] : List Value)) _ (fun wv hS => blk_rng (blk_below Vp.out hS (blk_lt Vp.out))) Try.underlying24 (by rfl) (by kernel_rfl)) hS ?_
    try simp only [Act.put, List.setIfInBounds_toArray, List.set_cons_zero, List.set_cons_succ]
    refine wpAnyH_take (i := 43) (oi := ({ dst := some 123, op := Op.load 24 (Operand.tmp 2), type := 24, pos := "law.go:38", after := #[{ on := 40, ground := Ground.guard }], guard := some (40, true) } : Oper)) (v := .agg (([.slice A n c, .int .i64 fr] : List Value)).toArray) rfl (by kernel_rfl) (by kernel_rfl) (by kernel_rfl) (fun _ _ _ h => h) (yieldsIf_load_mid (by rfl) _ _ (by rfl) (sp) 0 (by rfl) (([.slice A n c, .int .i64 fr] : List Value)) _ (fun wv hS => blk_rng (blk_below Vp.out hS (blk_lt Vp.out))) Try.underlying24 (by rfl) (by kernel_rfl)) hS ?_
    try simp only [Act.put, List.setIfInBounds_toArray, List.set_cons_zero, List.set_cons_succ]
    refine wpAnyH_ready (rs := [42]) (by kernel_rfl) (by simp) (AllReadyH.cons (o := ({ dst := some 122, op := Op.call { callee := Callee.value (Operand.func 19), args := #[Operand.tmp 121], argTypes := #[24] }, type := 37, pos := "law.go:38", after := #[{ on := 41, ground := Ground.data }, { on := 40, ground := Ground.chain }, { on := 40, ground := Ground.guard }], guard := some (40, true) } : Oper)) rfl (fun K hK => ?_) AllReadyH.nil)
    go_simp
    refine (f1.out _ _ _ _ (Es.below Rp.out hS)).mono ?_; rintro e u42 ⟨A1, n1, e1, rfl, his, hb⟩
    have I1 := Lib.hid his; clear his
    replace hS := hS.trans (hb.mono hS.size)
    clear hb
    go_wp2_with fail
    refine Shut.out hK _ _ (by first | exact hS | trivial) (fun _ => ?_)
    clear hK K
    try simp only [Act.put, List.setIfInBounds_toArray, List.set_cons_zero, List.set_cons_succ]
    refine wpAnyH_ready (rs := [44]) (by kernel_rfl) (by simp) (AllReadyH.cons (o := ({ dst := some 124, op := Op.call { callee := Callee.value (Operand.func 20), args := #[Operand.tmp 123], argTypes := #[24] }, type := 37, pos := "law.go:38", after := #[{ on := 43, ground := Ground.data }, { on := 42, ground := Ground.chain }, { on := 40, ground := Ground.guard }], guard := some (40, true) } : Oper)) rfl (fun K hK => ?_) AllReadyH.nil)
    go_simp
    refine (f2.out _ _ _ _ (Es.below Rp.out hS)).mono ?_; rintro e u44 ⟨A2, n2, e2, rfl, his, hb⟩
    have I2 := Lib.hid his; clear his
    replace I1 := Lib.hid (Es.below I1.out hb)
    replace hS := hS.trans (hb.mono hS.size)
    clear hb
    go_wp2_with fail
    refine Shut.out hK _ _ (by first | exact hS | trivial) (fun _ => ?_)
    clear hK K
    try simp only [Act.put, List.setIfInBounds_toArray, List.set_cons_zero, List.set_cons_succ]
    refine wpAnyH_ready (rs := [45]) (by kernel_rfl) (by simp) (AllReadyH.cons (o := ({ dst := some 125, op := Op.call { callee := Callee.value (Operand.func 18), args := #[Operand.tmp 122, Operand.tmp 124], argTypes := #[37, 37] }, type := 4, pos := "law.go:38", after := #[{ on := 42, ground := Ground.data }, { on := 44, ground := Ground.data }, { on := 44, ground := Ground.chain }, { on := 40, ground := Ground.guard }], guard := some (40, true) } : Oper)) rfl (fun K hK => ?_) AllReadyH.nil)
    go_simp
    refine (ii.out _ _ _ _ _ _ _ I1.out I2.out).mono ?_; rintro e u45 ⟨rfl, hb⟩
    replace hS := hS.trans (hb.mono hS.size)
    clear hb
    go_wp2_with fail
    refine Shut.out hK _ _ (by first | exact hS | trivial) (fun _ => ?_)
    clear hK K
    try simp only [Act.put, List.setIfInBounds_toArray, List.set_cons_zero, List.set_cons_succ]
    refine wpAnyH_take (i := 46) (oi := ({ dst := some 126, op := Op.pick (Operand.tmp 120) (Operand.tmp 125) (Operand.const (Value.bool false)), type := 4, pos := "law.go:38", after := #[{ on := 40, ground := Ground.data }, { on := 45, ground := Ground.data }], guard := none } : Oper)) (v := ?_) rfl (by kernel_rfl) (by kernel_rfl) (by kernel_rfl) (fun _ _ _ h => h) (Or.inl ⟨by rfl, ?_⟩) hS ?_
    rotate_left
    · intro wv _; go_simp; try with_reducible rfl
    try simp only [Act.put, List.setIfInBounds_toArray, List.set_cons_zero, List.set_cons_succ]
    refine wpAnyH_take (i := 47) (oi := ({ dst := some 127, op := Op.move (Operand.tmp 126), type := 4, pos := "law.go:38", after := #[{ on := 46, ground := Ground.data }, { on := 45, ground := Ground.chain }], guard := none } : Oper)) (v := ?_) rfl (by kernel_rfl) (by kernel_rfl) (by kernel_rfl) (fun _ _ _ h => h) (Or.inl ⟨by rfl, ?_⟩) hS ?_
    rotate_left
    · intro wv _; go_simp; try with_reducible rfl
    try simp only [Act.put, List.setIfInBounds_toArray, List.set_cons_zero, List.set_cons_succ]
    refine wpAnyH_take (i := 48) (oi := ({ dst := some 128, op := Op.load 24 (Operand.tmp 5), type := 24, pos := "law.go:38", after := #[{ on := 47, ground := Ground.guard }], guard := some (47, true) } : Oper)) (v := .agg (([.slice B1 n d1, .int .i64 fr] : List Value)).toArray) rfl (by kernel_rfl) (by kernel_rfl) (by kernel_rfl) (fun _ _ _ h => h) (yieldsIf_load_mid (by rfl) _ _ (by rfl) (so) 0 (by rfl) (([.slice B1 n d1, .int .i64 fr] : List Value)) _ (fun wv hS => blk_rng (blk_below Vo.out hS (blk_lt Vo.out))) Try.underlying24 (by rfl) (by kernel_rfl)) hS ?_
    try simp only [Act.put, List.setIfInBounds_toArray, List.set_cons_zero, List.set_cons_succ]
    refine wpAnyH_take (i := 49) (oi := ({ dst := some 129, op := Op.load 24 (Operand.tmp 2), type := 24, pos := "law.go:38", after := #[{ on := 47, ground := Ground.guard }], guard := some (47, true) } : Oper)) (v := .agg (([.slice A n c, .int .i64 fr] : List Value)).toArray) rfl (by kernel_rfl) (by kernel_rfl) (by kernel_rfl) (fun _ _ _ h => h) (yieldsIf_load_mid (by rfl) _ _ (by rfl) (sp) 0 (by rfl) (([.slice A n c, .int .i64 fr] : List Value)) _ (fun wv hS => blk_rng (blk_below Vp.out hS (blk_lt Vp.out))) Try.underlying24 (by rfl) (by kernel_rfl)) hS ?_
    try simp only [Act.put, List.setIfInBounds_toArray, List.set_cons_zero, List.set_cons_succ]
    refine wpAnyH_ready (rs := [50]) (by kernel_rfl) (by simp) (AllReadyH.cons (o := ({ dst := some 130, op := Op.call { callee := Callee.value (Operand.func 15), args := #[Operand.tmp 128, Operand.tmp 129], argTypes := #[24, 24] }, type := 4, pos := "law.go:38", after := #[{ on := 48, ground := Ground.data }, { on := 49, ground := Ground.data }, { on := 47, ground := Ground.chain }, { on := 47, ground := Ground.guard }], guard := some (47, true) } : Oper)) rfl (fun K hK => ?_) AllReadyH.nil)
    go_simp
    refine (qo.out _ _ _ _ _ _ _ (Es.below Ro.out hS) (Es.below Rp.out hS)).mono ?_; rintro e u50 ⟨rfl, hb⟩
    replace hS := hS.trans (hb.mono hS.size)
    clear hb
    go_wp2_with fail
    refine Shut.out hK _ _ (by first | exact hS | trivial) (fun _ => ?_)
    clear hK K
    try simp only [Act.put, List.setIfInBounds_toArray, List.set_cons_zero, List.set_cons_succ]
    refine wpAnyH_take (i := 51) (oi := ({ dst := some 131, op := Op.pick (Operand.tmp 127) (Operand.tmp 130) (Operand.const (Value.bool false)), type := 4, pos := "law.go:38", after := #[{ on := 47, ground := Ground.data }, { on := 50, ground := Ground.data }], guard := none } : Oper)) (v := ?_) rfl (by kernel_rfl) (by kernel_rfl) (by kernel_rfl) (fun _ _ _ h => h) (Or.inl ⟨by rfl, ?_⟩) hS ?_
    rotate_left
    · intro wv _; go_simp; try with_reducible rfl
    try simp only [Act.put, List.setIfInBounds_toArray, List.set_cons_zero, List.set_cons_succ]
    refine wpAnyH_take (i := 52) (oi := ({ dst := some 4, op := Op.assign (Operand.tmp 131), type := 4, pos := "law.go:38", after := #[{ on := 51, ground := Ground.data }, { on := 50, ground := Ground.chain }, { on := 0, ground := Ground.phase }, { on := 1, ground := Ground.phase }, { on := 2, ground := Ground.phase }, { on := 3, ground := Ground.phase }, { on := 4, ground := Ground.phase }, { on := 5, ground := Ground.phase }, { on := 6, ground := Ground.phase }, { on := 7, ground := Ground.phase }, { on := 8, ground := Ground.phase }, { on := 9, ground := Ground.phase }, { on := 10, ground := Ground.phase }, { on := 11, ground := Ground.phase }, { on := 12, ground := Ground.phase }, { on := 13, ground := Ground.phase }, { on := 14, ground := Ground.phase }, { on := 15, ground := Ground.phase }, { on := 16, ground := Ground.phase }, { on := 17, ground := Ground.phase }, { on := 18, ground := Ground.phase }, { on := 19, ground := Ground.phase }, { on := 20, ground := Ground.phase }, { on := 21, ground := Ground.phase }, { on := 22, ground := Ground.phase }, { on := 23, ground := Ground.phase }, { on := 24, ground := Ground.phase }, { on := 25, ground := Ground.phase }, { on := 26, ground := Ground.phase }, { on := 27, ground := Ground.phase }, { on := 28, ground := Ground.phase }, { on := 29, ground := Ground.phase }, { on := 30, ground := Ground.phase }, { on := 31, ground := Ground.phase }, { on := 32, ground := Ground.phase }, { on := 33, ground := Ground.phase }, { on := 34, ground := Ground.phase }, { on := 35, ground := Ground.phase }, { on := 36, ground := Ground.phase }, { on := 37, ground := Ground.phase }, { on := 38, ground := Ground.phase }, { on := 39, ground := Ground.phase }, { on := 40, ground := Ground.phase }, { on := 41, ground := Ground.phase }, { on := 42, ground := Ground.phase }, { on := 43, ground := Ground.phase }, { on := 44, ground := Ground.phase }, { on := 45, ground := Ground.phase }, { on := 46, ground := Ground.phase }, { on := 47, ground := Ground.phase }, { on := 48, ground := Ground.phase }, { on := 49, ground := Ground.phase }, { on := 50, ground := Ground.phase }, { on := 51, ground := Ground.phase }], guard := none } : Oper)) (v := ?_) rfl (by kernel_rfl) (by kernel_rfl) (by kernel_rfl) (fun _ _ _ h => h) (Or.inl ⟨by rfl, ?_⟩) hS ?_
    rotate_left
    · intro wv _; go_simp; try with_reducible rfl
    try simp only [Act.put, List.setIfInBounds_toArray, List.set_cons_zero, List.set_cons_succ]
    refine wpAnyH_done (by kernel_rfl) ?_ _
    refine NoPanic.normal ?_
    go_wp2
    go_ret
    exact ⟨rfl, HB.out.1.trans (hS.mono HB.out.2)⟩
end Go.Proofs.Ytglccgmhcncghaa
