/- The walks of ArenaMakes and ArenaBack: they answer true, over any world; no condition. -/
import Derived.Test.YtglccgmhcncghaaAreS
import Derived.Test.YtglccgmhcncghaaAreN
import Derived.Test.YtglccgmhcncghaaL
namespace Go.Proofs.Ytglccgmhcncghaa
set_option linter.unusedVariables false
set_option linter.unusedSimpArgs false
open Go.RowKit
theorem same_true {rs : List Rec3} {fr : Int} {A B : Option Addr} {n c m d : Nat} {w : World} (h1 : Rs w A n c rs) (h2 : Rs w B m d rs) (hn : n ≤ 16384) :
    Calls Try.prog 15 #[.agg #[.slice A n c, .int .i64 fr], .agg #[.slice B m d, .int .i64 fr]] w fun e w' => e = .returned (.bool true) ∧ Below w.heap.size w w' := by
  have h := refSame_any A n c rs fr B m d rs fr w h1 h2 hn
  rwa [decide_eq_true rfl] at h
set_option maxRecDepth 100000 in
set_option maxHeartbeats 8000000 in
theorem makes7_walk (n : Int) (w : World) (n0 : (Lit.int .i64 n).wf = true) :
    Calls Try.prog 4 #[.int .i64 n] w fun e w' => e = .returned (.bool true) ∧ Below w.heap.size w w' := by
  have hn := bounds_i64 n0
  have hm1 := fun w => arnMake_any n w (by omega) (by omega)
  have hm2 := fun w => refMake_any n w (by omega) (by omega)
  have HB := Lib.hid (And.intro (Below.refl w.heap.size w) (Nat.le_refl w.heap.size))
  obtain ⟨rs, fr, er, L, hp, hlen, hcase⟩ : ∃ (rs : List Rec3) (fr er : Int) (L : List Int), arMake n = ((rs, fr), er) ∧ rs.length ≤ 64 ∧ ((er = 1) ∨ (er = 0 ∧ rightS (rs, fr) = true ∧ freeS (rs, fr) = L ∧ (L.length : Int) = n)) := by
    rcases make_cases n with h | ⟨k, rfl, hk⟩
    · exact ⟨_, _, _, [], h, by simp, Or.inl rfl⟩
    · obtain ⟨h1, h2⟩ := make_ok hk
      exact ⟨_, _, _, _, h1, by rw [freshL_len]; exact hk, Or.inr ⟨rfl, h2.right, h2.free, by rw [upTo_len]⟩⟩
  rw [hp] at hm1 hm2
  have c1 : ∀ w, Calls Try.prog 21 #[.int .i64 n] w (GivenAs w rs fr er) := hm1
  have c2 : ∀ w, Calls Try.prog 22 #[.int .i64 n] w (GivenAs w rs fr er) := hm2
  have c3 := fun (A B : Option Addr) (a1 a2 b1 b2 : Nat) (w : World) (h1 : Rs w A a1 a2 rs) (h2 : Rs w B b1 b2 rs) => same_true (fr := fr) h1 h2 (by have := h1.len; omega)
  have c4 := fun (A : Option Addr) (a1 a2 : Nat) (w : World) (h1 : Rs w A a1 a2 rs) => arnRight_any A a1 a2 rs fr w h1 (by have := h1.len; omega)
  have c5 := fun (A : Option Addr) (a1 a2 : Nat) (w : World) (h1 : Rs w A a1 a2 rs) => arnFree_any A a1 a2 rs fr w h1 (by have := h1.len; omega)
  replace c1 := Lib.hid c1; replace c2 := Lib.hid c2; replace c3 := Lib.hid c3; replace c4 := Lib.hid c4; replace c5 := Lib.hid c5
  clear hm1 hm2 hp hlen n0
  rcases hcase with rfl | ⟨rfl, hr, hf, hl⟩
  · go_enter Try.func4, Try.ntmps4
    go_wp2_with fail
    refine (alive7 _).mono ?_
    rintro e wa ⟨rfl, hb⟩
    replace HB := Lib.hid (And.intro (HB.out.1.trans (hb.mono HB.out.2)) (Nat.le_trans HB.out.2 hb.size))
    clear hb
    go_wp2_with fail
    refine (c1.out _).mono ?_
    rintro e w1 ⟨B1, m1, d1, rfl, hrs, hb⟩
    replace HB := Lib.hid (And.intro (HB.out.1.trans (hb.mono HB.out.2)) (Nat.le_trans HB.out.2 hb.size))
    have Ra := Lib.hid hrs
    clear hb hrs
    have lea := HB.out.2
    obtain ⟨w2, hw2⟩ : ∃ W, w1.alloc (.cells #[.slice B1 m1 d1, .int .i64 fr] 24) = W := ⟨_, rfl⟩
    have hb : Below w1.heap.size w1 w2 := hw2 ▸ (Below.refl _ _).alloc (Nat.le_refl _) _
    have hv : w2.heap[w1.heap.size]? = some (.cells #[.slice B1 m1 d1, .int .i64 fr] 24) := hw2 ▸ heap_alloc_new _ _
    replace Ra := Lib.hid (Es.below Ra.out hb)
    replace HB := Lib.hid (And.intro (HB.out.1.trans (hb.mono HB.out.2)) (Nat.le_trans HB.out.2 hb.size))
    have Va := Lib.hid hv
    have gea := lea
    generalize hsa : w1.heap.size = sa at *
    clear hb hv lea
    go_wp2_with fail
    refine (c2.out _).mono ?_
    rintro e w3 ⟨B2, m2, d2, rfl, hrs, hb⟩
    replace Va := Lib.hid (blk_below Va.out hb (blk_lt Va.out))
    replace Ra := Lib.hid (Es.below Ra.out hb)
    replace HB := Lib.hid (And.intro (HB.out.1.trans (hb.mono HB.out.2)) (Nat.le_trans HB.out.2 hb.size))
    have Rb := Lib.hid hrs
    clear hb hrs
    have ltab := blk_lt Va.out
    have leb := HB.out.2
    obtain ⟨w4, hw4⟩ : ∃ W, w3.alloc (.cells #[.slice B2 m2 d2, .int .i64 fr] 24) = W := ⟨_, rfl⟩
    have hb : Below w3.heap.size w3 w4 := hw4 ▸ (Below.refl _ _).alloc (Nat.le_refl _) _
    have hv : w4.heap[w3.heap.size]? = some (.cells #[.slice B2 m2 d2, .int .i64 fr] 24) := hw4 ▸ heap_alloc_new _ _
    replace Va := Lib.hid (blk_below Va.out hb (blk_lt Va.out))
    replace Ra := Lib.hid (Es.below Ra.out hb)
    replace Rb := Lib.hid (Es.below Rb.out hb)
    replace HB := Lib.hid (And.intro (HB.out.1.trans (hb.mono HB.out.2)) (Nat.le_trans HB.out.2 hb.size))
    have Vb := Lib.hid hv
    have neab := Nat.ne_of_lt ltab
    have geb := leb
    generalize hsb : w3.heap.size = sb at *
    clear hb hv ltab leb
    have ca0 := blk_cell Va.out 0; have ca1 := blk_cell Va.out 1
    have cb0 := blk_cell Vb.out 0; have cb1 := blk_cell Vb.out 1
    simp only [List.getElem?_toArray, List.getElem?_cons_zero, List.getElem?_cons_succ] at ca0 ca1 cb0 cb1
    go_wp2_with fail
    refine (c3.out _ _ _ _ _ _ _ Ra.out Rb.out).mono ?_
    rintro e w5 ⟨rfl, hb⟩
    clear ca0 ca1 cb0 cb1
    replace Va := Lib.hid (blk_below Va.out hb (blk_lt Va.out))
    replace Vb := Lib.hid (blk_below Vb.out hb (blk_lt Vb.out))
    replace Ra := Lib.hid (Es.below Ra.out hb)
    replace Rb := Lib.hid (Es.below Rb.out hb)
    replace HB := Lib.hid (And.intro (HB.out.1.trans (hb.mono HB.out.2)) (Nat.le_trans HB.out.2 hb.size))
    clear hb
    go_wp2
    all_goals
      go_ret
      exact ⟨rfl, HB.out.1⟩
  · rw [hr] at c4; rw [hf] at c5
    have HL := Lib.hid hl
    clear hr hf hl
    go_enter Try.func4, Try.ntmps4
    go_wp2_with fail
    refine (alive7 _).mono ?_
    rintro e wa ⟨rfl, hb⟩
    replace HB := Lib.hid (And.intro (HB.out.1.trans (hb.mono HB.out.2)) (Nat.le_trans HB.out.2 hb.size))
    clear hb
    go_wp2_with fail
    refine (c1.out _).mono ?_
    rintro e w1 ⟨B1, m1, d1, rfl, hrs, hb⟩
    replace HB := Lib.hid (And.intro (HB.out.1.trans (hb.mono HB.out.2)) (Nat.le_trans HB.out.2 hb.size))
    have Ra := Lib.hid hrs
    clear hb hrs
    have lea := HB.out.2
    obtain ⟨w2, hw2⟩ : ∃ W, w1.alloc (.cells #[.slice B1 m1 d1, .int .i64 fr] 24) = W := ⟨_, rfl⟩
    have hb : Below w1.heap.size w1 w2 := hw2 ▸ (Below.refl _ _).alloc (Nat.le_refl _) _
    have hv : w2.heap[w1.heap.size]? = some (.cells #[.slice B1 m1 d1, .int .i64 fr] 24) := hw2 ▸ heap_alloc_new _ _
    replace Ra := Lib.hid (Es.below Ra.out hb)
    replace HB := Lib.hid (And.intro (HB.out.1.trans (hb.mono HB.out.2)) (Nat.le_trans HB.out.2 hb.size))
    have Va := Lib.hid hv
    have gea := lea
    generalize hsa : w1.heap.size = sa at *
    clear hb hv lea
    go_wp2_with fail
    refine (c2.out _).mono ?_
    rintro e w3 ⟨B2, m2, d2, rfl, hrs, hb⟩
    replace Va := Lib.hid (blk_below Va.out hb (blk_lt Va.out))
    replace Ra := Lib.hid (Es.below Ra.out hb)
    replace HB := Lib.hid (And.intro (HB.out.1.trans (hb.mono HB.out.2)) (Nat.le_trans HB.out.2 hb.size))
    have Rb := Lib.hid hrs
    clear hb hrs
    have ltab := blk_lt Va.out
    have leb := HB.out.2
    obtain ⟨w4, hw4⟩ : ∃ W, w3.alloc (.cells #[.slice B2 m2 d2, .int .i64 fr] 24) = W := ⟨_, rfl⟩
    have hb : Below w3.heap.size w3 w4 := hw4 ▸ (Below.refl _ _).alloc (Nat.le_refl _) _
    have hv : w4.heap[w3.heap.size]? = some (.cells #[.slice B2 m2 d2, .int .i64 fr] 24) := hw4 ▸ heap_alloc_new _ _
    replace Va := Lib.hid (blk_below Va.out hb (blk_lt Va.out))
    replace Ra := Lib.hid (Es.below Ra.out hb)
    replace Rb := Lib.hid (Es.below Rb.out hb)
    replace HB := Lib.hid (And.intro (HB.out.1.trans (hb.mono HB.out.2)) (Nat.le_trans HB.out.2 hb.size))
    have Vb := Lib.hid hv
    have neab := Nat.ne_of_lt ltab
    have geb := leb
    generalize hsb : w3.heap.size = sb at *
    clear hb hv ltab leb
    have ca0 := blk_cell Va.out 0; have ca1 := blk_cell Va.out 1
    have cb0 := blk_cell Vb.out 0; have cb1 := blk_cell Vb.out 1
    simp only [List.getElem?_toArray, List.getElem?_cons_zero, List.getElem?_cons_succ] at ca0 ca1 cb0 cb1
    go_wp2_with fail
    refine (c3.out _ _ _ _ _ _ _ Ra.out Rb.out).mono ?_
    rintro e w5 ⟨rfl, hb⟩
    clear ca0 ca1 cb0 cb1
    replace Va := Lib.hid (blk_below Va.out hb (blk_lt Va.out))
    replace Vb := Lib.hid (blk_below Vb.out hb (blk_lt Vb.out))
    replace Ra := Lib.hid (Es.below Ra.out hb)
    replace Rb := Lib.hid (Es.below Rb.out hb)
    replace HB := Lib.hid (And.intro (HB.out.1.trans (hb.mono HB.out.2)) (Nat.le_trans HB.out.2 hb.size))
    clear hb
    have ca0 := blk_cell Va.out 0; have ca1 := blk_cell Va.out 1
    simp only [List.getElem?_toArray, List.getElem?_cons_zero, List.getElem?_cons_succ] at ca0 ca1
    go_wp2_with fail
    refine (c4.out _ _ _ _ Ra.out).mono ?_
    rintro e w6 ⟨rfl, hb⟩
    clear ca0 ca1
    replace Va := Lib.hid (blk_below Va.out hb (blk_lt Va.out))
    replace Vb := Lib.hid (blk_below Vb.out hb (blk_lt Vb.out))
    replace Ra := Lib.hid (Es.below Ra.out hb)
    replace Rb := Lib.hid (Es.below Rb.out hb)
    replace HB := Lib.hid (And.intro (HB.out.1.trans (hb.mono HB.out.2)) (Nat.le_trans HB.out.2 hb.size))
    clear hb
    have ca0 := blk_cell Va.out 0; have ca1 := blk_cell Va.out 1
    simp only [List.getElem?_toArray, List.getElem?_cons_zero, List.getElem?_cons_succ] at ca0 ca1
    go_wp2_with fail
    refine (c5.out _ _ _ _ Ra.out).mono ?_
    rintro e w7 ⟨A1, n1, e1, rfl, his, hb⟩
    clear ca0 ca1
    replace Va := Lib.hid (blk_below Va.out hb (blk_lt Va.out))
    replace Vb := Lib.hid (blk_below Vb.out hb (blk_lt Vb.out))
    replace Ra := Lib.hid (Es.below Ra.out hb)
    replace Rb := Lib.hid (Es.below Rb.out hb)
    replace HB := Lib.hid (And.intro (HB.out.1.trans (hb.mono HB.out.2)) (Nat.le_trans HB.out.2 hb.size))
    clear hb
    have hln : ((n1 : Int) == n) = true := by have h1 := Is.len his; have h2 := HL.out; simp; omega
    clear his
    go_wp2
    all_goals
      go_ret
      exact ⟨rfl, HB.out.1⟩
theorem take_cases (p : Aren) (key task : Int) : (∃ er : Int, arTake p key task = (p, 0, er) ∧ er ≠ 0) ∨
    ∃ (i : Nat) (l' : List Int), Ok p ((i : Int) :: l') ∧ i < p.1.length ∧ arTake p key task = ((p.1.set i (key, task, -1), (recAt p.1 i).2.2), (i : Int), 0) ∧ Ok (p.1.set i (key, task, -1), (recAt p.1 i).2.2) l' ∧
      arGive (p.1.set i (key, task, -1), (recAt p.1 i).2.2) i = (p, 0) ∧ arGive p i = (p, 7) := by
  cases hr : rightS p with
  | false => exact Or.inl ⟨1, by unfold arTake; rw [if_pos (Or.inl hr)], by decide⟩
  | true =>
    by_cases h1 : key < 0
    · exact Or.inl ⟨1, by unfold arTake; rw [if_pos (Or.inr (Or.inl h1))], by decide⟩
    · by_cases h2 : task < 0
      · exact Or.inl ⟨1, by unfold arTake; rw [if_pos (Or.inr (Or.inr h2))], by decide⟩
      · obtain ⟨l, hl⟩ := Ok.of hr
        rcases take_ok hl (show 0 ≤ key by omega) (show 0 ≤ task by omega) with ⟨_, he⟩ | ⟨i, l', rfl, hi, g1, g2, g3, he, hx⟩
        · exact Or.inl ⟨6, he, by decide⟩
        · obtain ⟨b1, b2⟩ := take_back hl hi g1 g2 g3 hx
          exact Or.inr ⟨i, l', hl, hi, he, hx, b1, b2⟩
set_option maxRecDepth 100000 in
set_option maxHeartbeats 8000000 in
theorem back7_walk (A : Option Addr) (n c : Nat) (rs : List Rec3) (fr key task : Int) (w : World) (hx : Rs w A n c rs) :
    Calls Try.prog 5 #[.agg #[.slice A n c, .int .i64 fr], .int .i64 key, .int .i64 task] w fun e w' => e = .returned (.bool true) ∧ Below w.heap.size w w' := by
  have hlen := hx.len
  have HB := Lib.hid (And.intro (Below.refl w.heap.size w) (Nat.le_refl w.heap.size))
  have Rp := Lib.hid hx
  clear hx
  have lep := HB.out.2
  obtain ⟨w1, hw1⟩ : ∃ W, w.alloc (.cells #[.slice A n c, .int .i64 fr] 24) = W := ⟨_, rfl⟩
  have hb : Below w.heap.size w w1 := hw1 ▸ (Below.refl _ _).alloc (Nat.le_refl _) _
  have hv : w1.heap[w.heap.size]? = some (.cells #[.slice A n c, .int .i64 fr] 24) := hw1 ▸ heap_alloc_new _ _
  replace Rp := Lib.hid (Es.below Rp.out hb)
  replace HB := Lib.hid (And.intro (HB.out.1.trans (hb.mono HB.out.2)) (Nat.le_trans HB.out.2 hb.size))
  have Vp := Lib.hid hv
  have gep := lep
  generalize hsp : w.heap.size = sp at *
  clear hb hv lep
  by_cases hn : (70 : Int) < (n : Int)
  · have b0 : decide ((70 : Int) < (n : Int)) = true := decide_eq_true hn
    clear hn
    have cp0 := blk_cell Vp.out 0; have cp1 := blk_cell Vp.out 1
    simp only [List.getElem?_toArray, List.getElem?_cons_zero, List.getElem?_cons_succ] at cp0 cp1
    go_enter Try.func5, Try.ntmps5
    go_wp2_with fail
    refine (alive7 _).mono ?_
    rintro e wa ⟨rfl, hb⟩
    clear cp0 cp1
    replace Vp := Lib.hid (blk_below Vp.out hb (blk_lt Vp.out))
    replace Rp := Lib.hid (Es.below Rp.out hb)
    replace HB := Lib.hid (And.intro (HB.out.1.trans (hb.mono HB.out.2)) (Nat.le_trans HB.out.2 hb.size))
    clear hb
    have cp0 := blk_cell Vp.out 0; have cp1 := blk_cell Vp.out 1
    simp only [List.getElem?_toArray, List.getElem?_cons_zero, List.getElem?_cons_succ] at cp0 cp1
    go_wp2
    go_ret
    exact ⟨rfl, HB.out.1⟩
  · have b0 : decide ((70 : Int) < (n : Int)) = false := decide_eq_false hn
    have c0 := fun (B : Option Addr) (m d : Nat) (w : World) (h : Rs w B m d rs) => arnTake_any B m d rs fr key task w h (by have := h.len; omega)
    have c1 := fun (A B : Option Addr) (a1 a2 b1 b2 : Nat) (w : World) (h1 : Rs w A a1 a2 rs) (h2 : Rs w B b1 b2 rs) => same_true (fr := fr) h1 h2 (by have := h1.len; omega)
    replace c1 := Lib.hid c1
    rcases take_cases (rs, fr) key task with ⟨er, he, hne⟩ | ⟨i, l', hok, hi, he, hok2, hg1, hg2⟩
    · rw [he] at c0
      have c2 : ∀ B m d w, Rs w B m d rs → Calls Try.prog 9 #[.agg #[.slice B m d, .int .i64 fr], .int .i64 key, .int .i64 task] w (TakenAs w rs fr 0 er) := c0
      replace c2 := Lib.hid c2
      have b1 : (er != 0) = true := by simpa using hne
      clear c0 he hne hn
      have cp0 := blk_cell Vp.out 0; have cp1 := blk_cell Vp.out 1
      simp only [List.getElem?_toArray, List.getElem?_cons_zero, List.getElem?_cons_succ] at cp0 cp1
      go_enter Try.func5, Try.ntmps5
      go_wp2_with fail
      refine (alive7 _).mono ?_
      rintro e wa ⟨rfl, hb⟩
      clear cp0 cp1
      replace Vp := Lib.hid (blk_below Vp.out hb (blk_lt Vp.out))
      replace Rp := Lib.hid (Es.below Rp.out hb)
      replace HB := Lib.hid (And.intro (HB.out.1.trans (hb.mono HB.out.2)) (Nat.le_trans HB.out.2 hb.size))
      clear hb
      have cp0 := blk_cell Vp.out 0; have cp1 := blk_cell Vp.out 1
      simp only [List.getElem?_toArray, List.getElem?_cons_zero, List.getElem?_cons_succ] at cp0 cp1
      go_wp2_with fail
      refine (c2.out _ _ _ _ Rp.out).mono ?_
      rintro e w2 ⟨B1, m1, d1, rfl, hrs, hb⟩
      clear cp0 cp1
      replace Vp := Lib.hid (blk_below Vp.out hb (blk_lt Vp.out))
      replace Rp := Lib.hid (Es.below Rp.out hb)
      replace HB := Lib.hid (And.intro (HB.out.1.trans (hb.mono HB.out.2)) (Nat.le_trans HB.out.2 hb.size))
      have Rx := Lib.hid hrs
      clear hb hrs
      have ltpx := blk_lt Vp.out
      have lex := HB.out.2
      obtain ⟨w3, hw3⟩ : ∃ W, w2.alloc (.cells #[.slice B1 m1 d1, .int .i64 fr] 24) = W := ⟨_, rfl⟩
      have hb : Below w2.heap.size w2 w3 := hw3 ▸ (Below.refl _ _).alloc (Nat.le_refl _) _
      have hv : w3.heap[w2.heap.size]? = some (.cells #[.slice B1 m1 d1, .int .i64 fr] 24) := hw3 ▸ heap_alloc_new _ _
      replace Vp := Lib.hid (blk_below Vp.out hb (blk_lt Vp.out))
      replace Rp := Lib.hid (Es.below Rp.out hb)
      replace Rx := Lib.hid (Es.below Rx.out hb)
      replace HB := Lib.hid (And.intro (HB.out.1.trans (hb.mono HB.out.2)) (Nat.le_trans HB.out.2 hb.size))
      have Vx := Lib.hid hv
      have nepx := Nat.ne_of_lt ltpx
      have gex := lex
      generalize hsx : w2.heap.size = sx at *
      clear hb hv ltpx lex
      have cx0 := blk_cell Vx.out 0; have cx1 := blk_cell Vx.out 1
      have cp0 := blk_cell Vp.out 0; have cp1 := blk_cell Vp.out 1
      simp only [List.getElem?_toArray, List.getElem?_cons_zero, List.getElem?_cons_succ] at cx0 cx1 cp0 cp1
      go_wp2_with fail
      refine (c1.out _ _ _ _ _ _ _ Rx.out Rp.out).mono ?_
      rintro e w4 ⟨rfl, hb⟩
      clear cx0 cx1 cp0 cp1
      replace Vp := Lib.hid (blk_below Vp.out hb (blk_lt Vp.out))
      replace Vx := Lib.hid (blk_below Vx.out hb (blk_lt Vx.out))
      replace Rp := Lib.hid (Es.below Rp.out hb)
      replace Rx := Lib.hid (Es.below Rx.out hb)
      replace HB := Lib.hid (And.intro (HB.out.1.trans (hb.mono HB.out.2)) (Nat.le_trans HB.out.2 hb.size))
      clear hb
      go_wp2
      go_ret
      exact ⟨rfl, HB.out.1⟩
    · rw [he] at c0
      obtain ⟨rs2, hrs2⟩ : ∃ rs2, rs.set i (key, task, -1) = rs2 := ⟨_, rfl⟩
      obtain ⟨fr2, hfr2⟩ : ∃ fr2, (recAt rs i).2.2 = fr2 := ⟨_, rfl⟩
      simp only at c0 hok2 hg1 hg2 hi
      rw [hrs2, hfr2] at c0 hok2 hg1
      have hl2 : rs2.length = n := by rw [← hrs2, List.length_set]; exact hlen
      have c2 : ∀ B m d w, Rs w B m d rs → Calls Try.prog 9 #[.agg #[.slice B m d, .int .i64 fr], .int .i64 key, .int .i64 task] w (TakenAs w rs2 fr2 (i : Int) 0) := c0
      have c3 : ∀ B m d w, Rs w B m d rs → Calls Try.prog 19 #[.agg #[.slice B m d, .int .i64 fr]] w (IntsPost w ((i : Int) :: l')) := fun B m d w h => by
        have := arnFree_any B m d rs fr w h (by have := h.len; omega)
        rwa [hok.free] at this
      have c4 : ∀ B m d w, Rs w B m d rs2 → Calls Try.prog 19 #[.agg #[.slice B m d, .int .i64 fr2]] w (IntsPost w l') := fun B m d w h => by
        have := arnFree_any B m d rs2 fr2 w h (by have := h.len; omega)
        rwa [hok2.free] at this
      have c5 : ∀ B m d w, Rs w B m d rs2 → Calls Try.prog 16 #[.agg #[.slice B m d, .int .i64 fr2]] w fun e w' => e = .returned (.bool true) ∧ Below w.heap.size w w' := fun B m d w h => by
        have := arnRight_any B m d rs2 fr2 w h (by have := h.len; omega)
        rwa [hok2.right] at this
      have c6 : ∀ B m d w, Rs w B m d rs2 → Calls Try.prog 11 #[.agg #[.slice B m d, .int .i64 fr2], .int .i64 (i : Int)] w (GivenAs w rs fr 0) := fun B m d w h => by
        have := arnGive_any B m d rs2 fr2 (i : Int) w h (by have := h.len; omega)
        rwa [hg1] at this
      have c7 : ∀ B m d w, Rs w B m d rs → Calls Try.prog 11 #[.agg #[.slice B m d, .int .i64 fr], .int .i64 (i : Int)] w (GivenAs w rs fr 7) := fun B m d w h => by
        have := arnGive_any B m d rs fr (i : Int) w h (by have := h.len; omega)
        rwa [hg2] at this
      have HLL := Lib.hid (show l'.length ≤ 64 by have h1 := hok2.size; have h2 := Places.len (n := rs2.length) (l := l') ⟨hok2.nodup, chain_places hok2.chain⟩; simp only at h1; omega)
      replace c2 := Lib.hid c2
      replace c3 := Lib.hid c3
      replace c4 := Lib.hid c4
      replace c5 := Lib.hid c5
      replace c6 := Lib.hid c6
      replace c7 := Lib.hid c7
      clear c0 he hn hok hok2 hg1 hg2 hrs2 hfr2 hi hl2
      have cp0 := blk_cell Vp.out 0; have cp1 := blk_cell Vp.out 1
      simp only [List.getElem?_toArray, List.getElem?_cons_zero, List.getElem?_cons_succ] at cp0 cp1
      go_enter Try.func5, Try.ntmps5
      go_wp2_with fail
      refine (alive7 _).mono ?_
      rintro e wa ⟨rfl, hb⟩
      clear cp0 cp1
      replace Vp := Lib.hid (blk_below Vp.out hb (blk_lt Vp.out))
      replace Rp := Lib.hid (Es.below Rp.out hb)
      replace HB := Lib.hid (And.intro (HB.out.1.trans (hb.mono HB.out.2)) (Nat.le_trans HB.out.2 hb.size))
      clear hb
      have cp0 := blk_cell Vp.out 0; have cp1 := blk_cell Vp.out 1
      simp only [List.getElem?_toArray, List.getElem?_cons_zero, List.getElem?_cons_succ] at cp0 cp1
      go_wp2_with fail
      refine (c2.out _ _ _ _ Rp.out).mono ?_
      rintro e w2 ⟨B1, m1, d1, rfl, hrs, hb⟩
      clear cp0 cp1
      replace Vp := Lib.hid (blk_below Vp.out hb (blk_lt Vp.out))
      replace Rp := Lib.hid (Es.below Rp.out hb)
      replace HB := Lib.hid (And.intro (HB.out.1.trans (hb.mono HB.out.2)) (Nat.le_trans HB.out.2 hb.size))
      have Rx := Lib.hid hrs
      clear hb hrs
      have ltpx := blk_lt Vp.out
      have lex := HB.out.2
      obtain ⟨w3, hw3⟩ : ∃ W, w2.alloc (.cells #[.slice B1 m1 d1, .int .i64 fr2] 24) = W := ⟨_, rfl⟩
      have hb : Below w2.heap.size w2 w3 := hw3 ▸ (Below.refl _ _).alloc (Nat.le_refl _) _
      have hv : w3.heap[w2.heap.size]? = some (.cells #[.slice B1 m1 d1, .int .i64 fr2] 24) := hw3 ▸ heap_alloc_new _ _
      replace Vp := Lib.hid (blk_below Vp.out hb (blk_lt Vp.out))
      replace Rp := Lib.hid (Es.below Rp.out hb)
      replace Rx := Lib.hid (Es.below Rx.out hb)
      replace HB := Lib.hid (And.intro (HB.out.1.trans (hb.mono HB.out.2)) (Nat.le_trans HB.out.2 hb.size))
      have Vx := Lib.hid hv
      have nepx := Nat.ne_of_lt ltpx
      have gex := lex
      generalize hsx : w2.heap.size = sx at *
      clear hb hv ltpx lex
      have cp0 := blk_cell Vp.out 0; have cp1 := blk_cell Vp.out 1
      simp only [List.getElem?_toArray, List.getElem?_cons_zero, List.getElem?_cons_succ] at cp0 cp1
      go_wp2_with fail
      refine (c3.out _ _ _ _ Rp.out).mono ?_
      rintro e w4 ⟨A1, n1, e1, rfl, his, hb⟩
      clear cp0 cp1
      replace Vp := Lib.hid (blk_below Vp.out hb (blk_lt Vp.out))
      replace Vx := Lib.hid (blk_below Vx.out hb (blk_lt Vx.out))
      replace Rp := Lib.hid (Es.below Rp.out hb)
      replace Rx := Lib.hid (Es.below Rx.out hb)
      replace HB := Lib.hid (And.intro (HB.out.1.trans (hb.mono HB.out.2)) (Nat.le_trans HB.out.2 hb.size))
      clear hb
      have hn1 : n1 = l'.length + 1 := by have := Is.len his; simp at this; omega
      subst hn1
      obtain ⟨b, off, y, rfl, hbb, k0, hdr⟩ := Is.look his 0 (by omega)
      have hy : y = (i : Int) := by simp at hdr; exact hdr.symm
      subst hy
      rw [Nat.add_zero] at k0
      have b2 : ((l'.length : Int) + 1 == 0) = false := by simp; omega
      have b3 : ((i : Int) != (i : Int)) = false := by simp
      clear his hdr hbb
      have cx0 := blk_cell Vx.out 0; have cx1 := blk_cell Vx.out 1
      simp only [List.getElem?_toArray, List.getElem?_cons_zero, List.getElem?_cons_succ] at cx0 cx1
      go_wp2_with fail
      refine (c4.out _ _ _ _ Rx.out).mono ?_
      rintro e w5 ⟨A2, n2, e2, rfl, his, hb⟩
      clear cx0 cx1
      replace Vp := Lib.hid (blk_below Vp.out hb (blk_lt Vp.out))
      replace Vx := Lib.hid (blk_below Vx.out hb (blk_lt Vx.out))
      replace Rp := Lib.hid (Es.below Rp.out hb)
      replace Rx := Lib.hid (Es.below Rx.out hb)
      replace HB := Lib.hid (And.intro (HB.out.1.trans (hb.mono HB.out.2)) (Nat.le_trans HB.out.2 hb.size))
      clear hb
      have hn2 : n2 = l'.length := (Is.len his).symm
      subst hn2
      have hw1 : l'.length ≤ 64 := HLL.out
      clear his k0
      have cx0 := blk_cell Vx.out 0; have cx1 := blk_cell Vx.out 1
      simp only [List.getElem?_toArray, List.getElem?_cons_zero, List.getElem?_cons_succ] at cx0 cx1
      go_wp2_with fail
      refine (c5.out _ _ _ _ Rx.out).mono ?_
      rintro e w6 ⟨rfl, hb⟩
      clear cx0 cx1
      replace Vp := Lib.hid (blk_below Vp.out hb (blk_lt Vp.out))
      replace Vx := Lib.hid (blk_below Vx.out hb (blk_lt Vx.out))
      replace Rp := Lib.hid (Es.below Rp.out hb)
      replace Rx := Lib.hid (Es.below Rx.out hb)
      replace HB := Lib.hid (And.intro (HB.out.1.trans (hb.mono HB.out.2)) (Nat.le_trans HB.out.2 hb.size))
      clear hb
      have cx0 := blk_cell Vx.out 0; have cx1 := blk_cell Vx.out 1
      simp only [List.getElem?_toArray, List.getElem?_cons_zero, List.getElem?_cons_succ] at cx0 cx1
      go_wp2_with fail
      refine (c6.out _ _ _ _ Rx.out).mono ?_
      rintro e w7 ⟨B3, m3, d3, rfl, hrs, hb⟩
      clear cx0 cx1
      replace Vp := Lib.hid (blk_below Vp.out hb (blk_lt Vp.out))
      replace Vx := Lib.hid (blk_below Vx.out hb (blk_lt Vx.out))
      replace Rp := Lib.hid (Es.below Rp.out hb)
      replace Rx := Lib.hid (Es.below Rx.out hb)
      replace HB := Lib.hid (And.intro (HB.out.1.trans (hb.mono HB.out.2)) (Nat.le_trans HB.out.2 hb.size))
      have Ry := Lib.hid hrs
      clear hb hrs
      have ltpy := blk_lt Vp.out
      have ltxy := blk_lt Vx.out
      have ley := HB.out.2
      obtain ⟨w8, hw8⟩ : ∃ W, w7.alloc (.cells #[.slice B3 m3 d3, .int .i64 fr] 24) = W := ⟨_, rfl⟩
      have hb : Below w7.heap.size w7 w8 := hw8 ▸ (Below.refl _ _).alloc (Nat.le_refl _) _
      have hv : w8.heap[w7.heap.size]? = some (.cells #[.slice B3 m3 d3, .int .i64 fr] 24) := hw8 ▸ heap_alloc_new _ _
      replace Vp := Lib.hid (blk_below Vp.out hb (blk_lt Vp.out))
      replace Vx := Lib.hid (blk_below Vx.out hb (blk_lt Vx.out))
      replace Rp := Lib.hid (Es.below Rp.out hb)
      replace Rx := Lib.hid (Es.below Rx.out hb)
      replace Ry := Lib.hid (Es.below Ry.out hb)
      replace HB := Lib.hid (And.intro (HB.out.1.trans (hb.mono HB.out.2)) (Nat.le_trans HB.out.2 hb.size))
      have Vy := Lib.hid hv
      have nepy := Nat.ne_of_lt ltpy
      have nexy := Nat.ne_of_lt ltxy
      have gey := ley
      generalize hsy : w7.heap.size = sy at *
      clear hb hv ltpy ltxy ley
      have cy0 := blk_cell Vy.out 0; have cy1 := blk_cell Vy.out 1
      simp only [List.getElem?_toArray, List.getElem?_cons_zero, List.getElem?_cons_succ] at cy0 cy1
      go_wp2_with fail
      refine (c7.out _ _ _ _ Ry.out).mono ?_
      rintro e w9 ⟨B4, m4, d4, rfl, hrs, hb⟩
      clear cy0 cy1
      replace Vp := Lib.hid (blk_below Vp.out hb (blk_lt Vp.out))
      replace Vx := Lib.hid (blk_below Vx.out hb (blk_lt Vx.out))
      replace Vy := Lib.hid (blk_below Vy.out hb (blk_lt Vy.out))
      replace Rp := Lib.hid (Es.below Rp.out hb)
      replace Rx := Lib.hid (Es.below Rx.out hb)
      replace Ry := Lib.hid (Es.below Ry.out hb)
      replace HB := Lib.hid (And.intro (HB.out.1.trans (hb.mono HB.out.2)) (Nat.le_trans HB.out.2 hb.size))
      have Rz := Lib.hid hrs
      clear hb hrs
      have ltpz := blk_lt Vp.out
      have ltxz := blk_lt Vx.out
      have ltyz := blk_lt Vy.out
      have lez := HB.out.2
      obtain ⟨w10, hw10⟩ : ∃ W, w9.alloc (.cells #[.slice B4 m4 d4, .int .i64 fr] 24) = W := ⟨_, rfl⟩
      have hb : Below w9.heap.size w9 w10 := hw10 ▸ (Below.refl _ _).alloc (Nat.le_refl _) _
      have hv : w10.heap[w9.heap.size]? = some (.cells #[.slice B4 m4 d4, .int .i64 fr] 24) := hw10 ▸ heap_alloc_new _ _
      replace Vp := Lib.hid (blk_below Vp.out hb (blk_lt Vp.out))
      replace Vx := Lib.hid (blk_below Vx.out hb (blk_lt Vx.out))
      replace Vy := Lib.hid (blk_below Vy.out hb (blk_lt Vy.out))
      replace Rp := Lib.hid (Es.below Rp.out hb)
      replace Rx := Lib.hid (Es.below Rx.out hb)
      replace Ry := Lib.hid (Es.below Ry.out hb)
      replace Rz := Lib.hid (Es.below Rz.out hb)
      replace HB := Lib.hid (And.intro (HB.out.1.trans (hb.mono HB.out.2)) (Nat.le_trans HB.out.2 hb.size))
      have Vz := Lib.hid hv
      have nepz := Nat.ne_of_lt ltpz
      have nexz := Nat.ne_of_lt ltxz
      have neyz := Nat.ne_of_lt ltyz
      have gez := lez
      generalize hsz : w9.heap.size = sz at *
      clear hb hv ltpz ltxz ltyz lez
      have cy0 := blk_cell Vy.out 0; have cy1 := blk_cell Vy.out 1
      have cp0 := blk_cell Vp.out 0; have cp1 := blk_cell Vp.out 1
      simp only [List.getElem?_toArray, List.getElem?_cons_zero, List.getElem?_cons_succ] at cy0 cy1 cp0 cp1
      go_wp2_with fail
      refine (c1.out _ _ _ _ _ _ _ Ry.out Rp.out).mono ?_
      rintro e w11 ⟨rfl, hb⟩
      clear cy0 cy1 cp0 cp1
      replace Vp := Lib.hid (blk_below Vp.out hb (blk_lt Vp.out))
      replace Vx := Lib.hid (blk_below Vx.out hb (blk_lt Vx.out))
      replace Vy := Lib.hid (blk_below Vy.out hb (blk_lt Vy.out))
      replace Vz := Lib.hid (blk_below Vz.out hb (blk_lt Vz.out))
      replace Rp := Lib.hid (Es.below Rp.out hb)
      replace Rx := Lib.hid (Es.below Rx.out hb)
      replace Ry := Lib.hid (Es.below Ry.out hb)
      replace Rz := Lib.hid (Es.below Rz.out hb)
      replace HB := Lib.hid (And.intro (HB.out.1.trans (hb.mono HB.out.2)) (Nat.le_trans HB.out.2 hb.size))
      clear hb
      go_wp2
      go_ret
      exact ⟨rfl, HB.out.1⟩
end Go.Proofs.Ytglccgmhcncghaa
