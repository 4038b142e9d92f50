/- The walk of ArenaAlone: it answers true, over any world; no condition. -/
import Derived.Test.YtglccgmhcncghaaAreU
namespace Go.Proofs.Ytglccgmhcncghaa
set_option linter.unusedVariables false
set_option linter.unusedSimpArgs false
open Go.RowKit
/-- the first numbers, and the last. -/
theorem Is.sliceh {P : Program} {w : World} {A : Option Addr} {n c : Nat} {xs : List Int} (h : Is w A n c xs) (t : TypeId) (ht : P.underlying t = some (.slice (P.elem t)))
    (hsz : ∀ W : World, (sizeOf (P.elem t)).run P W = .ok 1 W) (g : Int) (m : Nat) (hg : g = (m : Nat)) (hm : m ≤ n) :
    ∃ A2 c2, (∀ W : World, (Instr.slice t (.slice A n c) none (some (.int .i64 g)) none).run P W = .ok (.slice A2 m c2) W) ∧ Is w A2 m c2 (xs.take m) := by
  have hcap := Es.cap h
  have hlen := h.len
  refine ⟨if c = 0 then A else A.map (·.add (0 * 1)), c - 0, fun W => ?_, ?_⟩
  · rw [run_slice_h W t A n c ht .i64 g (by omega) (by omega), hsz]
    have e2 : g.toNat - 0 = m := by omega
    simp only [Result.andThen, sliced, e2]
  · refine ⟨?_, by omega, intC_one _, fun hm0 => ?_⟩
    · rw [intC_len, List.length_take]; omega
    · obtain ⟨b, off, rfl, hb, hc⟩ := Es.mem h (by omega)
      rw [if_neg (by omega)]
      refine ⟨b, off, by simp [add_plain], hb, fun j u hj => hc j u ?_⟩
      have hjl : j < m := by
        rcases Nat.lt_or_ge j m with h1 | h1
        · exact h1
        · rw [List.getElem?_eq_none (by rw [intC_len, List.length_take]; omega)] at hj; cases hj
      unfold intC at hj ⊢
      rw [List.getElem?_map, List.getElem?_take, if_pos hjl] at hj
      rw [List.getElem?_map]; exact hj
theorem Is.slicel {P : Program} {w : World} {A : Option Addr} {n c : Nat} {xs : List Int} (h : Is w A n c xs) (t : TypeId) (ht : P.underlying t = some (.slice (P.elem t)))
    (hsz : ∀ W : World, (sizeOf (P.elem t)).run P W = .ok 1 W) (l : Int) (k : Nat) (hl : l = (k : Nat)) (hk : k ≤ n) :
    ∃ A2 c2, (∀ W : World, (Instr.slice t (.slice A n c) (some (.int .i64 l)) none none).run P W = .ok (.slice A2 (n - k) c2) W) ∧ Is w A2 (n - k) c2 (xs.drop k) := by
  have hcap := Es.cap h
  have hlen := h.len
  refine ⟨if c = k then A else A.map (·.add (k * 1)), c - k, fun W => ?_, ?_⟩
  · rw [run_slice_l W t A n c ht .i64 l (by omega) (by omega), hsz]
    have e1 : l.toNat = k := by omega
    simp only [Result.andThen, sliced, e1]
  · refine ⟨?_, by omega, intC_one _, fun hm0 => ?_⟩
    · rw [intC_len, List.length_drop]; omega
    · obtain ⟨b, off, rfl, hb, hc⟩ := Es.mem h (by omega)
      rw [if_neg (by omega)]
      refine ⟨b, off + k, by simp [add_plain], hb, fun j u hj => ?_⟩
      rw [Nat.add_assoc]
      refine hc (k + j) u ?_
      unfold intC at hj ⊢
      rw [List.getElem?_map, List.getElem?_drop] at hj
      rw [List.getElem?_map]; exact hj
/-- the records lie in a block of records. -/
def Rt (w : World) (B : Option Addr) (m : Nat) : Prop := 0 < m → ∃ b o cs fr, B = some ⟨b, o, none⟩ ∧ w.heap[b]? = some (.cells cs 47 fr)
section
variable {w w' : World} {B : Option Addr} {m d : Nat} {rs : List Rec3} {v : Value}
theorem Rt.below (h : Rt w B m) (hb : Below w.heap.size w w') : Rt w' B m := fun hm => by
  obtain ⟨b, o, cs, fr, e, hh⟩ := h hm
  have hl : b < w.heap.size := by
    rcases Nat.lt_or_ge b w.heap.size with h1 | h1
    · exact h1
    · rw [Array.getElem?_eq_none h1] at hh; cases hh
  exact ⟨b, o, cs, fr, e, by rw [hb.block b hl]; exact hh⟩
theorem Rt.of_own {base : Nat} {cs : List Value} (h : w.ownsRow base 47 3 (.slice B m d) m cs) : Rt w B m := fun hm => by
  rcases h.2 with ⟨_, h0⟩ | ⟨g, cap, cur, h1, h2, h3, h4⟩
  · omega
  · injection h1 with h1; exact ⟨g, 0, cur, _, h1, h3⟩
/-- numbers of one's own lie in a block of numbers. -/
def Ri (w : World) (v : Value) : Prop := ∀ k, v.ownBlock = some k → ∃ cur fr, w.heap[k]? = some (.cells cur 3 fr)
theorem own_int {base n : Nat} {xs : List Value} (h : w.ownsRow base 3 1 v n xs) : Ri w v := fun k hk => by
  rcases h.2 with ⟨rfl, _⟩ | ⟨g, cap, cur, rfl, h2, h3, h4⟩
  · cases hk
  · simp [Value.ownBlock] at hk; subst hk; exact ⟨cur, _, h3⟩
theorem grown_at {b : Nat} {cs : Array Value} {T : TypeId} {fr : Nat × Nat} (g : w.grownBy w' v.ownBlock) (hi : Ri w v) (hT : T ≠ 3) (h : w.heap[b]? = some (.cells cs T fr)) : w'.heap[b]? = some (.cells cs T fr) := by
  have hl : b < w.heap.size := by
    rcases Nat.lt_or_ge b w.heap.size with h1 | h1
    · exact h1
    · rw [Array.getElem?_eq_none h1] at h; cases h
  rw [g.block b hl ?_]; exact h
  intro e
  obtain ⟨cur, fr2, h2⟩ := hi b e.symm
  rw [h] at h2; injection h2 with h2; injection h2 with _ h2; exact hT h2
theorem grown_rt (g : w.grownBy w' v.ownBlock) (hi : Ri w v) (h : Rt w B m) : Rt w' B m := fun hm => by
  obtain ⟨b, o, cs, fr, e, hh⟩ := h hm
  exact ⟨b, o, cs, fr, e, grown_at g hi (by decide) hh⟩
theorem grown_rs (g : w.grownBy w' v.ownBlock) (hi : Ri w v) (t : Rt w B m) (h : Rs w B m d rs) : Rs w' B m d rs := by
  refine ⟨Es.len h, Es.cap h, Es.one h, fun hm => ?_⟩
  obtain ⟨b, off, e, hb, hc⟩ := Es.mem h hm
  obtain ⟨b2, o2, cs, fr, e2, hh⟩ := t hm
  rw [e] at e2; injection e2 with e2; injection e2 with e2 _; subst e2
  have h2 := grown_at g hi (by decide) hh
  refine ⟨b, off, e, Nat.lt_of_lt_of_le hb g.size, fun j u hj => ?_⟩
  have := hc j u hj
  unfold World.cell? at this ⊢
  rw [hh] at this; rw [h2]; exact this
theorem Rt.set {s o : Nat} {x y u : Value} (h : Rt w B m) (hs : w.heap[s]? = some (.cells #[x, y] 24)) : Rt (w.setCell ⟨s, o, none⟩ u) B m := fun hm => by
  obtain ⟨b, o2, cs, fr, e, hh⟩ := h hm
  refine ⟨b, o2, cs, fr, e, ?_⟩
  rw [Below.heap_setCell _ _ _ _ ?_]; exact hh
  intro e2; simp only at e2; subst e2; rw [hs] at hh; injection hh with hh; injection hh with _ hh; exact absurd hh (by decide)
end
/-- an arena that comes back, in a block of records; with a place. -/
def GivenT (w : World) (rs : List Rec3) (fr er : Int) (e : Ending) (w' : World) : Prop :=
  ∃ B m d, e = .returned (.tuple #[.agg #[.slice B m d, .int .i64 fr], .int .i64 er]) ∧ Rs w' B m d rs ∧ Rt w' B m ∧ Below w.heap.size w w'
def TakenT (w : World) (rs : List Rec3) (fr i er : Int) (e : Ending) (w' : World) : Prop :=
  ∃ B m d, e = .returned (.tuple #[.agg #[.slice B m d, .int .i64 fr], .int .i64 i, .int .i64 er]) ∧ Rs w' B m d rs ∧ Rt w' B m ∧ Below w.heap.size w w'
theorem GiveAll.t {w : World} {r : Aren × Int} {e : Ending} {w' : World} (h : GiveAll w r e w') : GivenT w r.1.1 r.1.2 r.2 e w' := by
  obtain ⟨B, m, d, h1, h2, h3⟩ := h; exact ⟨B, m, d, h1, rs_own h2, Rt.of_own h2, h3⟩
theorem TakeAll.t {w : World} {r : Aren × Int × Int} {e : Ending} {w' : World} (h : TakeAll w r e w') : TakenT w r.1.1 r.1.2 r.2.1 r.2.2 e w' := by
  obtain ⟨B, m, d, h1, h2, h3⟩ := h; exact ⟨B, m, d, h1, rs_own h2, Rt.of_own h2, h3⟩
theorem arnTake_t (A : Option Addr) (n c : Nat) (rs : List Rec3) (fr key task : Int) (w : World) (hx : Rs w A n c rs) (ht : Rt w A n) (hn : n ≤ 16384) :
    Calls Try.prog 9 #[.agg #[.slice A n c, .int .i64 fr], .int .i64 key, .int .i64 task] w (TakenT w (arTake (rs, fr) key task).1.1 (arTake (rs, fr) key task).1.2 (arTake (rs, fr) key task).2.1 (arTake (rs, fr) key task).2.2) := (arnTake_all A n c rs fr key task w hx hn).mono fun _ _ h => h.t
theorem arnGive_t (A : Option Addr) (n c : Nat) (rs : List Rec3) (fr i : Int) (w : World) (hx : Rs w A n c rs) (ht : Rt w A n) (hn : n ≤ 16384) :
    Calls Try.prog 11 #[.agg #[.slice A n c, .int .i64 fr], .int .i64 i] w (GivenT w (arGive (rs, fr) i).1.1 (arGive (rs, fr) i).1.2 (arGive (rs, fr) i).2) := (arnGive_all A n c rs fr i w hx hn).mono fun _ _ h => h.t
theorem arnMake_t (n : Int) (w : World) (n0 : -9223372036854775808 ≤ n) (n1 : n ≤ 9223372036854775807) :
    Calls Try.prog 21 #[.int .i64 n] w (GivenT w (arMake n).1.1 (arMake n).1.2 (arMake n).2) := (arnMake_all n w n0 n1).mono fun _ _ h => h.t
theorem app_nums (W : World) (base : Nat) (v : Value) (n : Nat) (T : List Int) (hown : W.ownsRow base 3 1 v n (intC T)) (A : Option Addr) (m c : Nat) (xs : List Int) (h : Is W A m c xs) (hn : n + m ≤ 400) (hb : base ≤ W.heap.size) :
    ∃ A' c' w', (Builtin.append_ #[37, 37] 37 #[v, .slice A m c]).run Try.prog W = .ok (.slice A' (n + m) c') w' ∧ w'.ownsRow base 3 1 (.slice A' (n + m) c') (n + m) (intC (T ++ xs)) ∧ W.grownBy w' v.ownBlock := by
  obtain ⟨i5, hi5, hz0, hz1, hz2⟩ := info_of infoInt
  obtain ⟨v', w', hr, h2, h3, h4⟩ := eapp_own (P := Try.prog) W base 37 37 3 i5 _ 1 _ Try.underlying37 hi5 hz0 hz1 hz2 rfl (by decide) v n _ hown A m c _ h (by unfold maxLen; omega) (by omega) hb
  rw [← intC_app] at h2
  obtain ⟨A', c', rfl, hb'⟩ := Es.of_own h2 (intC_one _)
  exact ⟨A', c', w', hr, h2, h3⟩
theorem sizeInts (W : World) : (sizeOf (Try.prog.elem 37)).run Try.prog W = .ok 1 W := by kernel_rfl
theorem undInts : Try.prog.underlying 37 = some (.slice (Try.prog.elem 37)) := by kernel_rfl
set_option maxRecDepth 100000 in
set_option maxHeartbeats 16000000 in
theorem alone7_walk (k0 : Int) (A : Option Addr) (n c : Nat) (bs : List Int) (w : World) (hk0 : 0 ≤ k0) (hk1 : k0 ≤ 255) (hx : Bs w A n c bs) :
    Calls Try.prog 6 #[.int .u8 k0, .slice A n c] w fun e w' => e = .returned (.bool true) ∧ Below w.heap.size w w' := by
  have HB := Lib.hid (And.intro (Below.refl w.heap.size w) (Nat.le_refl w.heap.size))
  have HX := Lib.hid hx; have HX0 := Lib.hid hx
  clear hx
  by_cases hn : (100 : Int) < (n : Int)
  · have b0 : decide ((100 : Int) < (n : Int)) = true := decide_eq_true hn
    clear hn
    go_enter Try.func6, Try.ntmps6
    go_wp2_with fail
    refine (alive7 _).mono ?_
    rintro e wa ⟨rfl, hb⟩
    replace HB := Lib.hid (And.intro (HB.out.1.trans (hb.mono HB.out.2)) (Nat.le_trans HB.out.2 hb.size))
    clear hb
    go_wp2
    go_ret
    exact ⟨rfl, HB.out.1⟩
  · have b0 : decide ((100 : Int) < (n : Int)) = false := decide_eq_false hn
    have hn1 : n ≤ 100 := by omega
    clear hn
    obtain ⟨k, rfl⟩ : ∃ k : Nat, k0 = k := ⟨k0.toNat, by omega⟩
    have hrem : (k : Int).tmod 20 = ((k % 20 : Nat) : Int) := rfl
    obtain ⟨z, hz⟩ : ∃ z : Nat, k % 20 = z := ⟨_, rfl⟩
    have hz1 : z < 20 := by omega
    rw [hz] at hrem
    obtain ⟨hm, ho⟩ := make_ok (n := z) (by omega)
    have tn := Turn.first (n := z) (by omega)
    have c1 := fun w => arnMake_t (z : Int) w (by omega) (by omega)
    rw [hm] at c1
    generalize freshL 0 z = rs0 at *
    generalize (if z = 0 then (-1 : Int) else 0) = fr0 at *
    have d1 : ∀ w, Calls Try.prog 21 #[.int .i64 (z : Int)] w (GivenT w rs0 fr0 0) := c1
    replace d1 := Lib.hid d1
    have TN := Lib.hid tn
    clear hm ho c1 tn hz
    go_enter Try.func6, Try.ntmps6
    go_wp2_with fail
    refine (alive7 _).mono ?_
    rintro e wa ⟨rfl, hb⟩
    replace HB := Lib.hid (And.intro (HB.out.1.trans (hb.mono HB.out.2)) (Nat.le_trans HB.out.2 hb.size))
    replace HX := Lib.hid (HX.out.below hb)
    clear hb
    go_wp2_with fail
    refine (d1.out _).mono ?_
    rintro e w1 ⟨B1, m1, e1, rfl, hrs, hrt, hb⟩
    have Ta := Lib.hid hrt; clear hrt
    replace HX := Lib.hid (HX.out.below hb)
    replace HB := Lib.hid (And.intro (HB.out.1.trans (hb.mono HB.out.2)) (Nat.le_trans HB.out.2 hb.size))
    have Ra := Lib.hid hrs
    clear hb hrs d1
    have hbx : Below _ _ _ := (Below.refl w1.heap.size w1).alloc (Nat.le_refl _) (.cells #[.slice B1 m1 e1, .int .i64 fr0] 24)
    replace HX := Lib.hid (HX.out.below hbx)
    have lea := HB.out.2
    obtain ⟨w2, hw2⟩ : ∃ W, w1.alloc (.cells #[.slice B1 m1 e1, .int .i64 fr0] 24) = W := ⟨_, rfl⟩
    have hb : Below w1.heap.size w1 w2 := hw2 ▸ (Below.refl _ _).alloc (Nat.le_refl _) _
    have hv : w2.heap[w1.heap.size]? = some (.cells #[.slice B1 m1 e1, .int .i64 fr0] 24) := hw2 ▸ heap_alloc_new _ _
    replace Ta := Lib.hid (Rt.below Ta.out hb)
    replace Ra := Lib.hid (Es.below Ra.out hb)
    replace HB := Lib.hid (And.intro (HB.out.1.trans (hb.mono HB.out.2)) (Nat.le_trans HB.out.2 hb.size))
    have Va := Lib.hid hv
    have gea := lea
    generalize hsa : w1.heap.size = sa at *
    clear hb hv lea
    rw [hw2] at HX
    clear hbx
    have HS := Lib.hid (show sa + 1 ≤ w2.heap.size from blk_lt Va.out)
    go_wp2
    go_loopw [8, 9, 10, 11, 12, 13, 14, 15] (fun tv iv _ _ _ _ _ _ wr => ∃ (i tl tc : Nat) (TA B : Option Addr) (m d : Nat) (rs : List Rec3) (fr : Int) (T l : List Int), tv = .slice TA tl tc ∧ iv = .int .i64 (i : Int) ∧ i ≤ n ∧ Hid (wr.heap[sa]? = some (.cells #[.slice B m d, .int .i64 fr] 24)) ∧ Hid (Rs wr B m d rs) ∧ Hid (Rt wr B m) ∧ Hid (Turn z (rs, fr) l T) ∧ Hid (wr.ownsRow (sa + 1) 3 1 (.slice TA tl tc) tl (intC T)) ∧ Hid (Bs wr A n c bs) ∧ Hid (Below w.heap.size w wr ∧ w.heap.size ≤ wr.heap.size)) (fun _ iv _ _ _ _ _ _ _ => n - (intOf iv).toNat)
    case atStart => exact ⟨0, 0, 0, none, _, _, _, _, _, _, _, rfl, rfl, by omega, Va.out, Ra.out, Ta.out, TN.out, World.ownsRow_nil _ _ _ _, HX.out, HB.out⟩
    case round =>
      obtain ⟨i, tl, tc, TA, B, m, d, rs, fr, T, l, rfl, rfl, hi, va, ra, ta, tu, ow, bx, hbw⟩ := hrel
      clear Va Ra Ta TN HX HB hw2 hsa HS
      by_cases hlt : i < n
      · have b1 : decide ((i : Int) < (n : Int)) = true := by simpa using hlt
        obtain ⟨b, off, y, rfl, hb0, hc, y0, y1, _, _⟩ := bx.out.look i hlt
        have i0 : (0 : Int) ≤ (i : Int) := by omega
        have i1 : (i : Int) < (n : Int) := by omega
        have tll : T.length = tl := by have := ow.out.1; rw [intC_len] at this; omega
        by_cases he0 : y % 2 = 0
        · have e0 : (y % 2 == 0) = true := by simp [he0]
          clear he0
          have h2 : rs.length = z := tu.out.len
          have ct := arnTake_t B m d rs fr (i : Int) (i : Int) wr ra.out ta.out (by have h1 := ra.out.len; omega)
          rcases tu.out.take (k := (i : Int)) i0 with ⟨hfull, he⟩ | ⟨hroom, q, idx, l2, he, hni, tu2⟩
          · rw [he] at ct
            replace ct : Hid (Calls Try.prog 9 #[.agg #[.slice B m d, .int .i64 fr], .int .i64 (i : Int), .int .i64 (i : Int)] wr (TakenT wr rs fr 0 6)) := Lib.hid ct
            have b2 : decide ((tl : Int) < (z : Int)) = false := decide_eq_false (by omega)
            have hzt : z ≤ tl := by omega
            clear he hfull tll h2
            have ca0 := blk_cell va.out 0; have ca1 := blk_cell va.out 1
            simp only [List.getElem?_toArray, List.getElem?_cons_zero, List.getElem?_cons_succ] at ca0 ca1
            go_wp2_with fail
            refine ct.out.mono ?_
            rintro e w3 ⟨B2, m2, d2, rfl, hrs, hrt, hb⟩
            replace va := Lib.hid (blk_below va.out hb (blk_lt va.out))
            replace ra := Lib.hid (Es.below ra.out hb)
            replace ta := Lib.hid (Rt.below ta.out hb)
            replace ow := Lib.hid (own_below ow.out hb)
            replace bx := Lib.hid (bx.out.below hb)
            replace hbw := Lib.hid (And.intro (hbw.out.1.trans (hb.mono hbw.out.2)) (Nat.le_trans hbw.out.2 hb.size))
            clear hb hrs hrt ct ca0 ca1 hc
            obtain ⟨w4, hw4⟩ : ∃ W, w3.alloc (.cells #[.slice B2 m2 d2, .int .i64 fr] 24) = W := ⟨_, rfl⟩
            have hb : Below w3.heap.size w3 w4 := hw4 ▸ (Below.refl _ _).alloc (Nat.le_refl _) _
            have hv : w4.heap[w3.heap.size]? = some (.cells #[.slice B2 m2 d2, .int .i64 fr] 24) := hw4 ▸ heap_alloc_new _ _
            have gx : w.heap.size ≤ w3.heap.size := hbw.out.2
            have lax := blk_lt va.out
            replace va := Lib.hid (blk_below va.out hb (blk_lt va.out))
            replace ra := Lib.hid (Es.below ra.out hb)
            replace ta := Lib.hid (Rt.below ta.out hb)
            replace ow := Lib.hid (own_below ow.out hb)
            replace bx := Lib.hid (bx.out.below hb)
            replace hbw := Lib.hid (And.intro (hbw.out.1.trans (hb.mono hbw.out.2)) (Nat.le_trans hbw.out.2 hb.size))
            have vx := Lib.hid hv
            have nax := Nat.ne_of_lt lax
            generalize hsx : w3.heap.size = sx at *
            clear hb hv lax
            go_wp2
            go_roundw
            case rel => exact ⟨i + 1, tl, tc, TA, B, m, d, rs, fr, T, l, rfl, by go_num, by omega, va, ra, ta, tu, ow, bx, hbw⟩
            case measure => simp [intOf]; omega
          · obtain ⟨qs, qf⟩ := q
            rw [he] at ct
            replace ct : Hid (Calls Try.prog 9 #[.agg #[.slice B m d, .int .i64 fr], .int .i64 (i : Int), .int .i64 (i : Int)] wr (TakenT wr qs qf idx 0)) := Lib.hid ct
            have b2 : decide ((tl : Int) < (z : Int)) = true := decide_eq_true (by omega)
            have hzt : tl < z := by omega
            have hzn : ¬ z ≤ tl := by omega
            have TU2 := Lib.hid tu2
            have hl100 : tl ≤ 100 := by omega
            have HH := Lib.hid (fun (W : World) (h : Is W TA tl tc T) => refHas_any TA tl tc T idx W h (by omega))
            rw [decide_eq_false hni] at HH
            clear he hroom h2 tu2 hni tu
            have ca0 := blk_cell va.out 0; have ca1 := blk_cell va.out 1
            simp only [List.getElem?_toArray, List.getElem?_cons_zero, List.getElem?_cons_succ] at ca0 ca1
            go_wp2_with fail
            refine ct.out.mono ?_
            rintro e w3 ⟨B2, m2, d2, rfl, hrs, hrt, hb⟩
            replace va := Lib.hid (blk_below va.out hb (blk_lt va.out))
            replace ra := Lib.hid (Es.below ra.out hb)
            replace ta := Lib.hid (Rt.below ta.out hb)
            replace ow := Lib.hid (own_below ow.out hb)
            replace bx := Lib.hid (bx.out.below hb)
            replace hbw := Lib.hid (And.intro (hbw.out.1.trans (hb.mono hbw.out.2)) (Nat.le_trans hbw.out.2 hb.size))
            have rx := Lib.hid hrs; have tx := Lib.hid hrt
            clear hb hrs hrt ct ca0 ca1 hc ra ta
            obtain ⟨w4, hw4⟩ : ∃ W, w3.alloc (.cells #[.slice B2 m2 d2, .int .i64 qf] 24) = W := ⟨_, rfl⟩
            have hb : Below w3.heap.size w3 w4 := hw4 ▸ (Below.refl _ _).alloc (Nat.le_refl _) _
            have hv : w4.heap[w3.heap.size]? = some (.cells #[.slice B2 m2 d2, .int .i64 qf] 24) := hw4 ▸ heap_alloc_new _ _
            have gx : w.heap.size ≤ w3.heap.size := hbw.out.2
            have lax := blk_lt va.out
            replace va := Lib.hid (blk_below va.out hb (blk_lt va.out))
            replace rx := Lib.hid (Es.below rx.out hb)
            replace tx := Lib.hid (Rt.below tx.out hb)
            replace ow := Lib.hid (own_below ow.out hb)
            replace bx := Lib.hid (bx.out.below hb)
            replace hbw := Lib.hid (And.intro (hbw.out.1.trans (hb.mono hbw.out.2)) (Nat.le_trans hbw.out.2 hb.size))
            have vx := Lib.hid hv
            have nax := Nat.ne_of_lt lax
            generalize hsx : w3.heap.size = sx at *
            clear hb hv lax
            have his : Is w4 TA tl tc T := by
              obtain ⟨A9, c9, e9, h9⟩ := Es.of_own ow.out (intC_one _)
              injection e9 with e1 e2 e3; subst e1; subst e3; exact h9
            replace HH := Lib.hid (HH.out w4 his)
            clear his
            go_wp2_with fail
            refine HH.out.mono ?_
            rintro e w5 ⟨rfl, rfl⟩
            have bd : Below w4.heap.size w4 (w4.drew.alloc (.cells #[.int .i64 idx] 3)) := (Below.refl _ _).drew.alloc (Nat.le_refl _) _
            have oi : Is (w4.drew.alloc (.cells #[.int .i64 idx] 3)) (some ⟨w4.heap.size, 0, none⟩) 1 1 [idx] := int_mk (w := w4.drew) [idx] rfl
            have own5 := own_below ow.out bd
            have sx4 := blk_lt vx.out
            obtain ⟨A5, c5, w6, hap, own6, gr⟩ := app_nums _ (sa + 1) _ tl T own5 _ 1 1 [idx] oi (by omega) (Nat.le_trans (Nat.succ_le_of_lt (blk_lt va.out)) bd.size)
            have hRi := own_int own5
            have va6 := grown_at gr hRi (by decide) (blk_below va.out bd (blk_lt va.out))
            have vx6 := grown_at gr hRi (by decide) (blk_below vx.out bd (blk_lt vx.out))
            have tx5 := Rt.below tx.out bd
            have tx6 := grown_rt gr hRi tx5
            have rx6 := grown_rs gr hRi tx5 (Es.below rx.out bd)
            have hbw6 := (hbw.out.1.trans (bd.mono hbw.out.2)).grown gr (Nat.le_trans hbw.out.2 bd.size) (fun k hk => by have := (own5.lt k hk).1; omega)
            have u0 := blk_cell va6 0; have u1 := blk_cell va6 1; have t0 := blk_frozen va6 0; have t1 := blk_frozen va6 1
            simp only [List.getElem?_toArray, List.getElem?_cons_zero, List.getElem?_cons_succ] at u0 u1
            have VX6 := Lib.hid vx6
            have VA7 := Lib.hid (blk_pair va6 (.slice B2 m2 d2) (.int .i64 qf))
            have va60 := blk_first va6 (.slice B2 m2 d2)
            have RX7 := Lib.hid (rs_apart (o := 1) (v := .int .i64 qf) (rs_apart (o := 0) (v := .slice B2 m2 d2) rx6 va6) va60)
            have TX7 := Lib.hid (Rt.set (o := 1) (u := .int .i64 qf) (Rt.set (o := 0) (u := .slice B2 m2 d2) tx6 va6) va60)
            have OW7 := Lib.hid (own_apart (k := sa) (o := 1) (u := .int .i64 qf) (own_apart (k := sa) (o := 0) (u := .slice B2 m2 d2) own6 (by omega)) (by omega))
            have hbw7 := (hbw6.setCell (p := ⟨sa, 0, none⟩) gea (.slice B2 m2 d2)).setCell (p := ⟨sa, 1, none⟩) gea (.int .i64 qf)
            have HBW7 := Lib.hid (And.intro hbw7 hbw7.size)
            have BX7 := Lib.hid (HX0.out.below hbw7)
            have VX4 := Lib.hid vx.out
            clear va va6 vx vx6 tx tx5 tx6 rx rx6 hbw hbw6 hbw7 own5 own6 ow oi gr bd hRi va60 HH bx sx4
            go_wp2_with fail
            refine wp_region_noPanic ?_
            refine wp_region_held_drew (S := (fun wv => wv.heap[sx]? = some (.cells #[.slice B2 m2 d2, .int .i64 qf] 24))) (by kernel_rfl) (VX4.out) (fun hS => ?_)
            refine wpAnyH_take (i := 0) (oi := ({ dst := some 76, op := Op.load 24 (Operand.tmp 10), type := 24, pos := "law.go:94", after := #[], guard := none } : Oper)) (v := .agg (([.slice B2 m2 d2, .int .i64 qf] : List Value)).toArray) rfl (by kernel_rfl) (by kernel_rfl) (by kernel_rfl) (fun _ _ _ h => h) (yieldsIf_load_mid (by rfl) _ _ (by rfl) (sx) 0 (by rfl) (([.slice B2 m2 d2, .int .i64 qf] : List Value)) _ (fun wv hS => blk_rng hS) Try.underlying24 (by rfl) (by kernel_rfl)) hS ?_
            try simp only [Act.put, List.setIfInBounds_toArray, List.set_cons_zero, List.set_cons_succ]
            refine wpAnyH_take (i := 1) (oi := ({ dst := some 77, op := Op.move (Operand.tmp 8), type := 37, pos := "law.go:94", after := #[], guard := none } : Oper)) (v := ?_) rfl (by kernel_rfl) (by kernel_rfl) (by kernel_rfl) (fun _ _ _ h => h) (Or.inl ⟨by rfl, ?_⟩) hS ?_
            rotate_left
            · intro wv _; go_simp; try with_reducible rfl
            try simp only [Act.put, List.setIfInBounds_toArray, List.set_cons_zero, List.set_cons_succ]
            refine wpAnyH_take (i := 2) (oi := ({ dst := some 78, op := Op.move (Operand.tmp 11), type := 3, pos := "law.go:94", after := #[], guard := none } : Oper)) (v := ?_) rfl (by kernel_rfl) (by kernel_rfl) (by kernel_rfl) (fun _ _ _ h => h) (Or.inl ⟨by rfl, ?_⟩) hS ?_
            rotate_left
            · intro wv _; go_simp; try with_reducible rfl
            try simp only [Act.put, List.setIfInBounds_toArray, List.set_cons_zero, List.set_cons_succ]
            refine wpAnyH_ready (rs := [3]) (by kernel_rfl) (by simp) (AllReadyH.cons (o := ({ dst := some 79, op := Op.buildSlice 37 1 #[(0, Operand.tmp 78)], type := 37, pos := "law.go:94", after := #[{ on := 2, ground := Ground.data }], guard := none } : Oper)) rfl (fun K hK => ?_) AllReadyH.nil)
            go_simp
            replace hS := blk_below hS ((Below.refl _ _).alloc (Nat.le_refl _) (.cells #[.int .i64 idx] 3)) (blk_lt hS)
            refine Shut.out hK _ _ (by first | exact hS | trivial) (fun _ => ?_)
            clear hK K
            try simp only [Act.put, List.setIfInBounds_toArray, List.set_cons_zero, List.set_cons_succ]
            refine wpAnyH_ready (rs := [4]) (by kernel_rfl) (by simp) (AllReadyH.cons (o := ({ dst := some 80, op := Op.call { callee := Callee.builtin Builtin.append, args := #[Operand.tmp 77, Operand.tmp 79], argTypes := #[37, 37] }, type := 37, pos := "law.go:94", after := #[{ on := 1, ground := Ground.data }, { on := 3, ground := Ground.data }], guard := none } : Oper)) rfl (fun K hK => ?_) AllReadyH.nil)
            refine op_app_run7 (by rfl) rfl rfl rfl hap ?_
            replace hS := VX6.out
            refine Shut.out hK _ _ (by first | exact hS | trivial) (fun _ => ?_)
            clear hK K
            try simp only [Act.put, List.setIfInBounds_toArray, List.set_cons_zero, List.set_cons_succ]
            refine wpAnyH_ready (rs := [5]) (by kernel_rfl) (by simp) (AllReadyH.cons (o := ({ dst := none, op := Op.store 24 (Operand.tmp 6) (Operand.tmp 76), type := 0, pos := "law.go:94", after := #[{ on := 0, ground := Ground.data }, { on := 4, ground := Ground.chain }, { on := 0, ground := Ground.phase }, { on := 1, ground := Ground.textOnly Departure.lateStores }, { on := 2, ground := Ground.textOnly Departure.lateStores }, { on := 3, ground := Ground.textOnly Departure.lateStores }, { on := 4, ground := Ground.textOnly Departure.lateStoresUnsure }], guard := none } : Oper)) rfl (fun K hK => ?_) AllReadyH.nil)
            go_simp
            replace hS := (Below.heap_setCell (w6.setCell ⟨sa, 0, none⟩ (.slice B2 m2 d2)) ⟨sa, 1, none⟩ (.int .i64 qf) sx (by simp only; exact nax.symm)).trans ((Below.heap_setCell w6 ⟨sa, 0, none⟩ (.slice B2 m2 d2) sx (by simp only; exact nax.symm)).trans hS)
            refine Shut.out hK _ _ (by first | exact hS | trivial) (fun _ => ?_)
            clear hK K
            try simp only [Act.put, List.setIfInBounds_toArray, List.set_cons_zero, List.set_cons_succ]
            refine wpAnyH_take (i := 6) (oi := ({ dst := some 8, op := Op.assign (Operand.tmp 80), type := 37, pos := "law.go:94", after := #[{ on := 4, ground := Ground.data }, { on := 5, ground := Ground.chain }, { on := 0, ground := Ground.phase }, { on := 1, ground := Ground.phase }, { on := 2, ground := Ground.phase }, { on := 3, ground := Ground.phase }, { on := 4, ground := Ground.phase }, { on := 5, ground := Ground.phase }], guard := none } : Oper)) (v := ?_) rfl (by kernel_rfl) (by kernel_rfl) (by kernel_rfl) (fun _ _ _ h => h) (Or.inl ⟨by rfl, ?_⟩) hS ?_
            rotate_left
            · intro wv _; go_simp; try with_reducible rfl
            try simp only [Act.put, List.setIfInBounds_toArray, List.set_cons_zero, List.set_cons_succ]
            refine wpAnyH_done (by kernel_rfl) ?_ _
            refine NoPanic.normal ?_
            go_wp2
            go_roundw
            case rel => exact ⟨i + 1, tl + 1, c5, A5, B2, m2, d2, qs, qf, T ++ [idx], l2, rfl, by go_num, by omega, VA7, RX7, TX7, TU2, OW7, BX7, HBW7⟩
            case measure => simp [intOf]; omega
        · have e0 : (y % 2 == 0) = false := by simp [he0]
          clear he0
          by_cases ht0 : tl = 0
          · have t0 : ((tl : Int) == 0) = true := by simp [ht0]
            clear ht0
            have h2 : rs.length = z := tu.out.len
            have ct := arnTake_t B m d rs fr (i : Int) (i : Int) wr ra.out ta.out (by have h1 := ra.out.len; omega)
            rcases tu.out.take (k := (i : Int)) i0 with ⟨hfull, he⟩ | ⟨hroom, q, idx, l2, he, hni, tu2⟩
            · rw [he] at ct
              replace ct : Hid (Calls Try.prog 9 #[.agg #[.slice B m d, .int .i64 fr], .int .i64 (i : Int), .int .i64 (i : Int)] wr (TakenT wr rs fr 0 6)) := Lib.hid ct
              have b2 : decide ((tl : Int) < (z : Int)) = false := decide_eq_false (by omega)
              have hzt : z ≤ tl := by omega
              clear he hfull tll h2
              have ca0 := blk_cell va.out 0; have ca1 := blk_cell va.out 1
              simp only [List.getElem?_toArray, List.getElem?_cons_zero, List.getElem?_cons_succ] at ca0 ca1
              go_wp2_with fail
              refine ct.out.mono ?_
              rintro e w3 ⟨B2, m2, d2, rfl, hrs, hrt, hb⟩
              replace va := Lib.hid (blk_below va.out hb (blk_lt va.out))
              replace ra := Lib.hid (Es.below ra.out hb)
              replace ta := Lib.hid (Rt.below ta.out hb)
              replace ow := Lib.hid (own_below ow.out hb)
              replace bx := Lib.hid (bx.out.below hb)
              replace hbw := Lib.hid (And.intro (hbw.out.1.trans (hb.mono hbw.out.2)) (Nat.le_trans hbw.out.2 hb.size))
              clear hb hrs hrt ct ca0 ca1 hc
              obtain ⟨w4, hw4⟩ : ∃ W, w3.alloc (.cells #[.slice B2 m2 d2, .int .i64 fr] 24) = W := ⟨_, rfl⟩
              have hb : Below w3.heap.size w3 w4 := hw4 ▸ (Below.refl _ _).alloc (Nat.le_refl _) _
              have hv : w4.heap[w3.heap.size]? = some (.cells #[.slice B2 m2 d2, .int .i64 fr] 24) := hw4 ▸ heap_alloc_new _ _
              have gx : w.heap.size ≤ w3.heap.size := hbw.out.2
              have lax := blk_lt va.out
              replace va := Lib.hid (blk_below va.out hb (blk_lt va.out))
              replace ra := Lib.hid (Es.below ra.out hb)
              replace ta := Lib.hid (Rt.below ta.out hb)
              replace ow := Lib.hid (own_below ow.out hb)
              replace bx := Lib.hid (bx.out.below hb)
              replace hbw := Lib.hid (And.intro (hbw.out.1.trans (hb.mono hbw.out.2)) (Nat.le_trans hbw.out.2 hb.size))
              have vx := Lib.hid hv
              have nax := Nat.ne_of_lt lax
              generalize hsx : w3.heap.size = sx at *
              clear hb hv lax
              go_wp2
              go_roundw
              case rel => exact ⟨i + 1, tl, tc, TA, B, m, d, rs, fr, T, l, rfl, by go_num, by omega, va, ra, ta, tu, ow, bx, hbw⟩
              case measure => simp [intOf]; omega
            · obtain ⟨qs, qf⟩ := q
              rw [he] at ct
              replace ct : Hid (Calls Try.prog 9 #[.agg #[.slice B m d, .int .i64 fr], .int .i64 (i : Int), .int .i64 (i : Int)] wr (TakenT wr qs qf idx 0)) := Lib.hid ct
              have b2 : decide ((tl : Int) < (z : Int)) = true := decide_eq_true (by omega)
              have hzt : tl < z := by omega
              have hzn : ¬ z ≤ tl := by omega
              have TU2 := Lib.hid tu2
              have hl100 : tl ≤ 100 := by omega
              have HH := Lib.hid (fun (W : World) (h : Is W TA tl tc T) => refHas_any TA tl tc T idx W h (by omega))
              rw [decide_eq_false hni] at HH
              clear he hroom h2 tu2 hni tu
              have ca0 := blk_cell va.out 0; have ca1 := blk_cell va.out 1
              simp only [List.getElem?_toArray, List.getElem?_cons_zero, List.getElem?_cons_succ] at ca0 ca1
              go_wp2_with fail
              refine ct.out.mono ?_
              rintro e w3 ⟨B2, m2, d2, rfl, hrs, hrt, hb⟩
              replace va := Lib.hid (blk_below va.out hb (blk_lt va.out))
              replace ra := Lib.hid (Es.below ra.out hb)
              replace ta := Lib.hid (Rt.below ta.out hb)
              replace ow := Lib.hid (own_below ow.out hb)
              replace bx := Lib.hid (bx.out.below hb)
              replace hbw := Lib.hid (And.intro (hbw.out.1.trans (hb.mono hbw.out.2)) (Nat.le_trans hbw.out.2 hb.size))
              have rx := Lib.hid hrs; have tx := Lib.hid hrt
              clear hb hrs hrt ct ca0 ca1 hc ra ta
              obtain ⟨w4, hw4⟩ : ∃ W, w3.alloc (.cells #[.slice B2 m2 d2, .int .i64 qf] 24) = W := ⟨_, rfl⟩
              have hb : Below w3.heap.size w3 w4 := hw4 ▸ (Below.refl _ _).alloc (Nat.le_refl _) _
              have hv : w4.heap[w3.heap.size]? = some (.cells #[.slice B2 m2 d2, .int .i64 qf] 24) := hw4 ▸ heap_alloc_new _ _
              have gx : w.heap.size ≤ w3.heap.size := hbw.out.2
              have lax := blk_lt va.out
              replace va := Lib.hid (blk_below va.out hb (blk_lt va.out))
              replace rx := Lib.hid (Es.below rx.out hb)
              replace tx := Lib.hid (Rt.below tx.out hb)
              replace ow := Lib.hid (own_below ow.out hb)
              replace bx := Lib.hid (bx.out.below hb)
              replace hbw := Lib.hid (And.intro (hbw.out.1.trans (hb.mono hbw.out.2)) (Nat.le_trans hbw.out.2 hb.size))
              have vx := Lib.hid hv
              have nax := Nat.ne_of_lt lax
              generalize hsx : w3.heap.size = sx at *
              clear hb hv lax
              have his : Is w4 TA tl tc T := by
                obtain ⟨A9, c9, e9, h9⟩ := Es.of_own ow.out (intC_one _)
                injection e9 with e1 e2 e3; subst e1; subst e3; exact h9
              replace HH := Lib.hid (HH.out w4 his)
              clear his
              go_wp2_with fail
              refine HH.out.mono ?_
              rintro e w5 ⟨rfl, rfl⟩
              have bd : Below w4.heap.size w4 (w4.drew.alloc (.cells #[.int .i64 idx] 3)) := (Below.refl _ _).drew.alloc (Nat.le_refl _) _
              have oi : Is (w4.drew.alloc (.cells #[.int .i64 idx] 3)) (some ⟨w4.heap.size, 0, none⟩) 1 1 [idx] := int_mk (w := w4.drew) [idx] rfl
              have own5 := own_below ow.out bd
              have sx4 := blk_lt vx.out
              obtain ⟨A5, c5, w6, hap, own6, gr⟩ := app_nums _ (sa + 1) _ tl T own5 _ 1 1 [idx] oi (by omega) (Nat.le_trans (Nat.succ_le_of_lt (blk_lt va.out)) bd.size)
              have hRi := own_int own5
              have va6 := grown_at gr hRi (by decide) (blk_below va.out bd (blk_lt va.out))
              have vx6 := grown_at gr hRi (by decide) (blk_below vx.out bd (blk_lt vx.out))
              have tx5 := Rt.below tx.out bd
              have tx6 := grown_rt gr hRi tx5
              have rx6 := grown_rs gr hRi tx5 (Es.below rx.out bd)
              have hbw6 := (hbw.out.1.trans (bd.mono hbw.out.2)).grown gr (Nat.le_trans hbw.out.2 bd.size) (fun k hk => by have := (own5.lt k hk).1; omega)
              have u0 := blk_cell va6 0; have u1 := blk_cell va6 1; have t0 := blk_frozen va6 0; have t1 := blk_frozen va6 1
              simp only [List.getElem?_toArray, List.getElem?_cons_zero, List.getElem?_cons_succ] at u0 u1
              have VX6 := Lib.hid vx6
              have VA7 := Lib.hid (blk_pair va6 (.slice B2 m2 d2) (.int .i64 qf))
              have va60 := blk_first va6 (.slice B2 m2 d2)
              have RX7 := Lib.hid (rs_apart (o := 1) (v := .int .i64 qf) (rs_apart (o := 0) (v := .slice B2 m2 d2) rx6 va6) va60)
              have TX7 := Lib.hid (Rt.set (o := 1) (u := .int .i64 qf) (Rt.set (o := 0) (u := .slice B2 m2 d2) tx6 va6) va60)
              have OW7 := Lib.hid (own_apart (k := sa) (o := 1) (u := .int .i64 qf) (own_apart (k := sa) (o := 0) (u := .slice B2 m2 d2) own6 (by omega)) (by omega))
              have hbw7 := (hbw6.setCell (p := ⟨sa, 0, none⟩) gea (.slice B2 m2 d2)).setCell (p := ⟨sa, 1, none⟩) gea (.int .i64 qf)
              have HBW7 := Lib.hid (And.intro hbw7 hbw7.size)
              have BX7 := Lib.hid (HX0.out.below hbw7)
              have VX4 := Lib.hid vx.out
              clear va va6 vx vx6 tx tx5 tx6 rx rx6 hbw hbw6 hbw7 own5 own6 ow oi gr bd hRi va60 HH bx sx4
              go_wp2_with fail
              refine wp_region_noPanic ?_
              refine wp_region_held_drew (S := (fun wv => wv.heap[sx]? = some (.cells #[.slice B2 m2 d2, .int .i64 qf] 24))) (by kernel_rfl) (VX4.out) (fun hS => ?_)
              refine wpAnyH_take (i := 0) (oi := ({ dst := some 76, op := Op.load 24 (Operand.tmp 10), type := 24, pos := "law.go:94", after := #[], guard := none } : Oper)) (v := .agg (([.slice B2 m2 d2, .int .i64 qf] : List Value)).toArray) rfl (by kernel_rfl) (by kernel_rfl) (by kernel_rfl) (fun _ _ _ h => h) (yieldsIf_load_mid (by rfl) _ _ (by rfl) (sx) 0 (by rfl) (([.slice B2 m2 d2, .int .i64 qf] : List Value)) _ (fun wv hS => blk_rng hS) Try.underlying24 (by rfl) (by kernel_rfl)) hS ?_
              try simp only [Act.put, List.setIfInBounds_toArray, List.set_cons_zero, List.set_cons_succ]
              refine wpAnyH_take (i := 1) (oi := ({ dst := some 77, op := Op.move (Operand.tmp 8), type := 37, pos := "law.go:94", after := #[], guard := none } : Oper)) (v := ?_) rfl (by kernel_rfl) (by kernel_rfl) (by kernel_rfl) (fun _ _ _ h => h) (Or.inl ⟨by rfl, ?_⟩) hS ?_
              rotate_left
              · intro wv _; go_simp; try with_reducible rfl
              try simp only [Act.put, List.setIfInBounds_toArray, List.set_cons_zero, List.set_cons_succ]
              refine wpAnyH_take (i := 2) (oi := ({ dst := some 78, op := Op.move (Operand.tmp 11), type := 3, pos := "law.go:94", after := #[], guard := none } : Oper)) (v := ?_) rfl (by kernel_rfl) (by kernel_rfl) (by kernel_rfl) (fun _ _ _ h => h) (Or.inl ⟨by rfl, ?_⟩) hS ?_
              rotate_left
              · intro wv _; go_simp; try with_reducible rfl
              try simp only [Act.put, List.setIfInBounds_toArray, List.set_cons_zero, List.set_cons_succ]
              refine wpAnyH_ready (rs := [3]) (by kernel_rfl) (by simp) (AllReadyH.cons (o := ({ dst := some 79, op := Op.buildSlice 37 1 #[(0, Operand.tmp 78)], type := 37, pos := "law.go:94", after := #[{ on := 2, ground := Ground.data }], guard := none } : Oper)) rfl (fun K hK => ?_) AllReadyH.nil)
              go_simp
              replace hS := blk_below hS ((Below.refl _ _).alloc (Nat.le_refl _) (.cells #[.int .i64 idx] 3)) (blk_lt hS)
              refine Shut.out hK _ _ (by first | exact hS | trivial) (fun _ => ?_)
              clear hK K
              try simp only [Act.put, List.setIfInBounds_toArray, List.set_cons_zero, List.set_cons_succ]
              refine wpAnyH_ready (rs := [4]) (by kernel_rfl) (by simp) (AllReadyH.cons (o := ({ dst := some 80, op := Op.call { callee := Callee.builtin Builtin.append, args := #[Operand.tmp 77, Operand.tmp 79], argTypes := #[37, 37] }, type := 37, pos := "law.go:94", after := #[{ on := 1, ground := Ground.data }, { on := 3, ground := Ground.data }], guard := none } : Oper)) rfl (fun K hK => ?_) AllReadyH.nil)
              refine op_app_run7 (by rfl) rfl rfl rfl hap ?_
              replace hS := VX6.out
              refine Shut.out hK _ _ (by first | exact hS | trivial) (fun _ => ?_)
              clear hK K
              try simp only [Act.put, List.setIfInBounds_toArray, List.set_cons_zero, List.set_cons_succ]
              refine wpAnyH_ready (rs := [5]) (by kernel_rfl) (by simp) (AllReadyH.cons (o := ({ dst := none, op := Op.store 24 (Operand.tmp 6) (Operand.tmp 76), type := 0, pos := "law.go:94", after := #[{ on := 0, ground := Ground.data }, { on := 4, ground := Ground.chain }, { on := 0, ground := Ground.phase }, { on := 1, ground := Ground.textOnly Departure.lateStores }, { on := 2, ground := Ground.textOnly Departure.lateStores }, { on := 3, ground := Ground.textOnly Departure.lateStores }, { on := 4, ground := Ground.textOnly Departure.lateStoresUnsure }], guard := none } : Oper)) rfl (fun K hK => ?_) AllReadyH.nil)
              go_simp
              replace hS := (Below.heap_setCell (w6.setCell ⟨sa, 0, none⟩ (.slice B2 m2 d2)) ⟨sa, 1, none⟩ (.int .i64 qf) sx (by simp only; exact nax.symm)).trans ((Below.heap_setCell w6 ⟨sa, 0, none⟩ (.slice B2 m2 d2) sx (by simp only; exact nax.symm)).trans hS)
              refine Shut.out hK _ _ (by first | exact hS | trivial) (fun _ => ?_)
              clear hK K
              try simp only [Act.put, List.setIfInBounds_toArray, List.set_cons_zero, List.set_cons_succ]
              refine wpAnyH_take (i := 6) (oi := ({ dst := some 8, op := Op.assign (Operand.tmp 80), type := 37, pos := "law.go:94", after := #[{ on := 4, ground := Ground.data }, { on := 5, ground := Ground.chain }, { on := 0, ground := Ground.phase }, { on := 1, ground := Ground.phase }, { on := 2, ground := Ground.phase }, { on := 3, ground := Ground.phase }, { on := 4, ground := Ground.phase }, { on := 5, ground := Ground.phase }], guard := none } : Oper)) (v := ?_) rfl (by kernel_rfl) (by kernel_rfl) (by kernel_rfl) (fun _ _ _ h => h) (Or.inl ⟨by rfl, ?_⟩) hS ?_
              rotate_left
              · intro wv _; go_simp; try with_reducible rfl
              try simp only [Act.put, List.setIfInBounds_toArray, List.set_cons_zero, List.set_cons_succ]
              refine wpAnyH_done (by kernel_rfl) ?_ _
              refine NoPanic.normal ?_
              go_wp2
              go_roundw
              case rel => exact ⟨i + 1, tl + 1, c5, A5, B2, m2, d2, qs, qf, T ++ [idx], l2, rfl, by go_num, by omega, VA7, RX7, TX7, TU2, OW7, BX7, HBW7⟩
              case measure => simp [intOf]; omega
          · have t0 : ((tl : Int) == 0) = false := by simp [ht0]
            have tlp : 0 < tl := Nat.pos_of_ne_zero ht0
            clear ht0
            obtain ⟨kk, hkk⟩ : ∃ kk : Nat, y / 2 % (tl : Int) = kk := ⟨(y / 2 % (tl : Int)).toNat, by have := Int.emod_nonneg (y / 2) (show (tl : Int) ≠ 0 by omega); omega⟩
            have hkl : kk < tl := by have := Int.emod_lt_of_pos (y / 2) (show (0 : Int) < (tl : Int) by omega); omega
            have HK2 := Lib.hid hkk
            have h2 : rs.length = z := tu.out.len
            have hz20 : tl ≤ 20 := by have := tu.out.sum; omega
            obtain ⟨q, he, l2, tu2⟩ := tu.out.give (k := kk) (by omega)
            obtain ⟨qs, qf⟩ := q
            have his : Is wr TA tl tc T := by
              obtain ⟨A9, c9, e9, h9⟩ := Es.of_own ow.out (intC_one _)
              injection e9 with e1 e2 e3; subst e1; subst e3; exact h9
            obtain ⟨tb, toff, tx0, hTA, tbl, tcell, tdr⟩ := his.look kk hkl
            have htx : T[kk]'(by omega) = tx0 := by
              have := drop_at (xs := T) (i := kk) (by omega)
              rw [this] at tdr; injection tdr
            rw [htx] at he
            have CT := Lib.hid (show ∀ W, Rs W B m d rs → Rt W B m → Calls Try.prog 11 #[.agg #[.slice B m d, .int .i64 fr], .int .i64 tx0] W (GivenT W qs qf 0) from fun W h1 h3 => by
              have h := arnGive_t B m d rs fr tx0 W h1 h3 (by have := h1.len; omega)
              rw [he] at h; exact h)
            subst hTA
            have TU2 := Lib.hid tu2
            have HIS := Lib.hid his
            have k0 : (0 : Int) ≤ (kk : Int) := by omega
            have k1 : (kk : Int) < (tl : Int) := by omega
            clear he tu2 tu his htx tdr h2 hkk tll
            go_wp2_with fail
            rw [HK2.out]
            clear HK2
            refine wp_region_noPanic ?_
            refine wp_region_held_drew (S := (fun wv => Below wr.heap.size wr wv)) (by kernel_rfl) ((Below.refl wr.heap.size wr).drew) (fun hS => ?_)
            refine wpAnyH_take (i := 0) (oi := ({ dst := some 91, op := Op.load 24 (Operand.tmp 6), type := 24, pos := "law.go:99", after := #[], guard := none } : Oper)) (v := .agg (([.slice B m d, .int .i64 fr] : List Value)).toArray) rfl (by kernel_rfl) (by kernel_rfl) (by kernel_rfl) (fun _ _ _ h => h) (yieldsIf_load_mid (by rfl) _ _ (by rfl) (sa) 0 (by rfl) (([.slice B m d, .int .i64 fr] : List Value)) _ (fun wv hS => blk_rng (blk_below va.out hS (blk_lt va.out))) Try.underlying24 (by rfl) (by kernel_rfl)) hS ?_
            try simp only [Act.put, List.setIfInBounds_toArray, List.set_cons_zero, List.set_cons_succ]
            refine wpAnyH_take (i := 1) (oi := ({ dst := some 92, op := Op.move (Operand.tmp 8), type := 37, pos := "law.go:99", after := #[], guard := none } : Oper)) (v := ?_) rfl (by kernel_rfl) (by kernel_rfl) (by kernel_rfl) (fun _ _ _ h => h) (Or.inl ⟨by rfl, ?_⟩) hS ?_
            rotate_left
            · intro wv _; go_simp; try with_reducible rfl
            try simp only [Act.put, List.setIfInBounds_toArray, List.set_cons_zero, List.set_cons_succ]
            refine wpAnyH_take (i := 2) (oi := ({ dst := some 93, op := Op.move (Operand.tmp 13), type := 3, pos := "law.go:99", after := #[], guard := none } : Oper)) (v := ?_) rfl (by kernel_rfl) (by kernel_rfl) (by kernel_rfl) (fun _ _ _ h => h) (Or.inl ⟨by rfl, ?_⟩) hS ?_
            rotate_left
            · intro wv _; go_simp; try with_reducible rfl
            try simp only [Act.put, List.setIfInBounds_toArray, List.set_cons_zero, List.set_cons_succ]
            refine wpAnyH_take (i := 3) (oi := ({ dst := some 94, op := Op.indexAddr 37 (Operand.tmp 92) (Operand.tmp 93), type := 0, pos := "law.go:99", after := #[{ on := 1, ground := Ground.data }, { on := 2, ground := Ground.data }], guard := none } : Oper)) (v := ?_) rfl (by kernel_rfl) (by kernel_rfl) (by kernel_rfl) (fun _ _ _ h => h) (Or.inl ⟨by rfl, ?_⟩) hS ?_
            rotate_left
            · intro wv _; go_simp; try with_reducible rfl
            try simp only [Act.put, List.setIfInBounds_toArray, List.set_cons_zero, List.set_cons_succ]
            refine wpAnyH_take (i := 4) (oi := ({ dst := some 95, op := Op.load 3 (Operand.tmp 94), type := 3, pos := "law.go:99", after := #[{ on := 3, ground := Ground.data }], guard := none } : Oper)) (v := ?_) rfl (by kernel_rfl) (by kernel_rfl) (by kernel_rfl) (fun _ _ _ h => h) (Or.inl ⟨by rfl, ?_⟩) hS ?_
            rotate_left
            · intro wv hS; have hrun := (hS.cell (p := ⟨tb, toff + kk, none⟩) tbl).trans tcell; go_simp; try with_reducible rfl
            try simp only [Act.put, List.setIfInBounds_toArray, List.set_cons_zero, List.set_cons_succ]
            refine wpAnyH_ready (rs := [5, 9]) (by kernel_rfl) (by simp) (AllReadyH.cons (o := ({ dst := some 96, op := Op.call { callee := Callee.value (Operand.func 11), args := #[Operand.tmp 91, Operand.tmp 95], argTypes := #[24, 3] }, type := 31, pos := "law.go:99", after := #[{ on := 0, ground := Ground.data }, { on := 4, ground := Ground.data }], guard := none } : Oper)) rfl (fun K hK => ?_) (AllReadyH.cons (o := ({ dst := some 14, op := Op.alloc 24, type := 0, pos := "law.go:99", after := #[], guard := none } : Oper)) rfl (fun K hK => ?_) AllReadyH.nil))
            ·
              go_simp
              refine (CT.out _ (Es.below ra.out hS) (Rt.below ta.out hS)).mono ?_; rintro e w3 ⟨B2, m2, d2, rfl, hrs, hrt, hb⟩
              replace hS := hS.trans (hb.mono hS.size)
              clear hb
              go_wp2_with fail
              refine Shut.out hK _ _ (by first | exact hS | trivial) (fun _ => ?_)
              clear hK K
              try simp only [Act.put, List.setIfInBounds_toArray, List.set_cons_zero, List.set_cons_succ]
              refine wpAnyH_take (i := 6) (oi := ({ dst := some 90, op := Op.move (Operand.tmp 96), type := 31, pos := "law.go:99", after := #[{ on := 5, ground := Ground.data }], guard := none } : Oper)) (v := ?_) rfl (by kernel_rfl) (by kernel_rfl) (by kernel_rfl) (fun _ _ _ h => h) (Or.inl ⟨by rfl, ?_⟩) hS ?_
              rotate_left
              · intro wv _; go_simp; try with_reducible rfl
              try simp only [Act.put, List.setIfInBounds_toArray, List.set_cons_zero, List.set_cons_succ]
              refine wpAnyH_take (i := 7) (oi := ({ dst := some 97, op := Op.extract (Operand.tmp 90) 0, type := 24, pos := "law.go:99", after := #[{ on := 6, ground := Ground.data }], guard := none } : Oper)) (v := ?_) rfl (by kernel_rfl) (by kernel_rfl) (by kernel_rfl) (fun _ _ _ h => h) (Or.inl ⟨by rfl, ?_⟩) hS ?_
              rotate_left
              · intro wv _; go_simp; try with_reducible rfl
              try simp only [Act.put, List.setIfInBounds_toArray, List.set_cons_zero, List.set_cons_succ]
              refine wpAnyH_take (i := 8) (oi := ({ dst := some 98, op := Op.extract (Operand.tmp 90) 1, type := 28, pos := "law.go:99", after := #[{ on := 6, ground := Ground.data }, { on := 10, ground := Ground.gcOnly Departure.lateStores }], guard := none } : Oper)) (v := ?_) rfl (by kernel_rfl) (by kernel_rfl) (by kernel_rfl) (fun _ _ _ h => h) (Or.inl ⟨by rfl, ?_⟩) hS ?_
              rotate_left
              · intro wv _; go_simp; try with_reducible rfl
              try simp only [Act.put, List.setIfInBounds_toArray, List.set_cons_zero, List.set_cons_succ]
              refine wpAnyH_ready (rs := [9]) (by kernel_rfl) (by simp) (AllReadyH.cons (o := ({ dst := some 14, op := Op.alloc 24, type := 0, pos := "law.go:99", after := #[], guard := none } : Oper)) rfl (fun K hK => ?_) AllReadyH.nil)
              go_simp
              have gsx := hS.size
              have vx := heap_alloc_new w3 (.cells #[.slice none 0 0, .int .i64 0] 24)
              replace hS := hS.alloc gsx (.cells #[.slice none 0 0, .int .i64 0] 24)
              replace hrs := Es.below hrs ((Below.refl _ _).alloc (Nat.le_refl _) (.cells #[.slice none 0 0, .int .i64 0] 24))
              replace hrt := Rt.below hrt ((Below.refl _ _).alloc (Nat.le_refl _) (.cells #[.slice none 0 0, .int .i64 0] 24))
              generalize hsx : w3.heap.size = sx at *
              generalize w3.alloc (.cells #[.slice none 0 0, .int .i64 0] 24) = w4 at *
              have x0 := blk_cell vx 0; have x1 := blk_cell vx 1; have p0 := blk_frozen vx 0; have p1 := blk_frozen vx 1
              simp only [List.getElem?_toArray, List.getElem?_cons_zero, List.getElem?_cons_succ] at x0 x1
              go_wp2_with fail
              refine Shut.out hK _ _ (by first | exact hS | trivial) (fun _ => ?_)
              clear hK K
              try simp only [Act.put, List.setIfInBounds_toArray, List.set_cons_zero, List.set_cons_succ]
              refine wpAnyH_ready (rs := [10]) (by kernel_rfl) (by simp) (AllReadyH.cons (o := ({ dst := none, op := Op.store 24 (Operand.tmp 14) (Operand.tmp 97), type := 0, pos := "law.go:99", after := #[{ on := 9, ground := Ground.data }, { on := 7, ground := Ground.data }, { on := 5, ground := Ground.chain }, { on := 0, ground := Ground.phase }, { on := 1, ground := Ground.phase }, { on := 2, ground := Ground.phase }, { on := 3, ground := Ground.phase }, { on := 4, ground := Ground.phase }, { on := 5, ground := Ground.phase }, { on := 6, ground := Ground.phase }, { on := 7, ground := Ground.phase }, { on := 8, ground := Ground.textOnly Departure.lateStores }, { on := 9, ground := Ground.phase }], guard := none } : Oper)) rfl (fun K hK => ?_) AllReadyH.nil)
              go_simp
              have lax : sa < wr.heap.size := blk_lt va.out
              replace hS := (hS.setCell (p := ⟨sx, 0, none⟩) gsx (.slice B2 m2 d2)).setCell (p := ⟨sx, 1, none⟩) gsx (.int .i64 qf)
              have vx0 := blk_first vx (.slice B2 m2 d2)
              replace hrs := rs_apart (o := 1) (v := .int .i64 qf) (rs_apart (o := 0) (v := .slice B2 m2 d2) hrs vx) vx0
              replace hrt := Rt.set (o := 1) (u := .int .i64 qf) (Rt.set (o := 0) (u := .slice B2 m2 d2) hrt vx) vx0
              replace vx := blk_pair vx (.slice B2 m2 d2) (.int .i64 qf)
              clear x0 x1 p0 p1 vx0
              generalize ((w4.setCell ⟨sx, 0, none⟩ (.slice B2 m2 d2)).setCell ⟨sx, 1, none⟩ (.int .i64 qf)) = w5 at *
              refine Shut.out hK _ _ (by first | exact hS | trivial) (fun _ => ?_)
              clear hK K
              try simp only [Act.put, List.setIfInBounds_toArray, List.set_cons_zero, List.set_cons_succ]
              refine wpAnyH_take (i := 11) (oi := ({ dst := some 15, op := Op.assign (Operand.tmp 98), type := 28, pos := "law.go:99", after := #[{ on := 8, ground := Ground.data }, { on := 10, ground := Ground.chain }, { on := 0, ground := Ground.phase }, { on := 1, ground := Ground.phase }, { on := 2, ground := Ground.phase }, { on := 3, ground := Ground.phase }, { on := 4, ground := Ground.phase }, { on := 5, ground := Ground.phase }, { on := 6, ground := Ground.phase }, { on := 7, ground := Ground.phase }, { on := 8, ground := Ground.phase }, { on := 9, ground := Ground.phase }, { on := 10, ground := Ground.phase }], guard := none } : Oper)) (v := ?_) rfl (by kernel_rfl) (by kernel_rfl) (by kernel_rfl) (fun _ _ _ h => h) (Or.inl ⟨by rfl, ?_⟩) hS ?_
              rotate_left
              · intro wv _; go_simp; try with_reducible rfl
              try simp only [Act.put, List.setIfInBounds_toArray, List.set_cons_zero, List.set_cons_succ]
              refine wpAnyH_done (by kernel_rfl) ?_ _
              refine NoPanic.normal ?_
              have vx5 := Lib.hid vx; have rx5 := Lib.hid hrs; have tx5 := Lib.hid hrt
              have va5 := Lib.hid (blk_below va.out hS (blk_lt va.out))
              have hbw5 := Lib.hid (hbw.out.1.trans (hS.mono hbw.out.2))
              have his5 : Is w5 (some ⟨tb, toff, none⟩) tl tc T := Es.below HIS.out hS
              have gs5 : sa + 1 ≤ w5.heap.size := blk_lt va5.out
              have gw5 : w.heap.size ≤ w5.heap.size := hbw5.out.size
              have nax : sa ≠ sx := by omega
              obtain ⟨A1, c1, hsl1, is1⟩ := his5.sliceh (P := Try.prog) 37 undInts sizeInts (kk : Int) kk rfl (by omega)
              obtain ⟨A2, c2, hsl2, is2⟩ := his5.slicel (P := Try.prog) 37 undInts sizeInts (IntKind.i64.wrap ((kk : Int) + 1)) (kk + 1) (by rw [IntKind.wrap_i64]; omega) (by omega)
              have bd : Below w5.heap.size w5 (w5.drew.alloc (.cells #[] 3)) := (Below.refl _ _).drew.alloc (Nat.le_refl _) _
              have own0 : (w5.drew.alloc (.cells #[] 3)).ownsRow w5.heap.size 3 1 (.slice (some ⟨w5.heap.size, 0, none⟩) 0 0) 0 (intC []) := World.ownsRow_lit w5.drew #[] 0 (Nat.le_refl _) (by unfold maxLen; omega) (by simp)
              obtain ⟨A5, c5, w6, hap1, own6, gr1⟩ := app_nums _ w5.heap.size _ 0 [] own0 A1 kk c1 _ (Es.below is1 bd) (by omega) bd.size
              rw [Nat.zero_add] at hap1 own6
              rw [List.nil_append] at own6
              have b6 : Below w5.heap.size w5 w6 := bd.grown gr1 bd.size (fun k hk => (own0.lt k hk).1)
              obtain ⟨A6, c6, w7, hap2, own7, gr2⟩ := app_nums w6 w5.heap.size _ kk _ own6 A2 (tl - (kk + 1)) c2 _ (Es.below is2 b6) (by omega) b6.size
              have b7 : Below w5.heap.size w5 w7 := b6.grown gr2 b6.size (fun k hk => (own6.lt k hk).1)
              have va7 := blk_below va5.out b7 (blk_lt va5.out)
              have VX6 := Lib.hid (blk_below vx5.out b6 (blk_lt vx5.out))
              have VX7 := Lib.hid (blk_below vx5.out b7 (blk_lt vx5.out))
              have u0 := blk_cell va7 0; have u1 := blk_cell va7 1; have t0 := blk_frozen va7 0; have t1 := blk_frozen va7 1
              simp only [List.getElem?_toArray, List.getElem?_cons_zero, List.getElem?_cons_succ] at u0 u1
              have va70 := blk_first va7 (.slice B2 m2 d2)
              have VA8 := Lib.hid (blk_pair va7 (.slice B2 m2 d2) (.int .i64 qf))
              have RX8 := Lib.hid (rs_apart (o := 1) (v := .int .i64 qf) (rs_apart (o := 0) (v := .slice B2 m2 d2) (Es.below rx5.out b7) va7) va70)
              have TX8 := Lib.hid (Rt.set (o := 1) (u := .int .i64 qf) (Rt.set (o := 0) (u := .slice B2 m2 d2) (Rt.below tx5.out b7) va7) va70)
              have own7b := own_base own7 gs5
              have OW8 := Lib.hid (own_apart (k := sa) (o := 1) (u := .int .i64 qf) (own_apart (k := sa) (o := 0) (u := .slice B2 m2 d2) own7b (by omega)) (by omega))
              have hbw8 := ((hbw5.out.trans (b7.mono gw5)).setCell (p := ⟨sa, 0, none⟩) gea (.slice B2 m2 d2)).setCell (p := ⟨sa, 1, none⟩) gea (.int .i64 qf)
              have HBW8 := Lib.hid (And.intro hbw8 hbw8.size)
              have BX8 := Lib.hid (HX0.out.below hbw8)
              replace hsl1 := Lib.hid hsl1; replace hsl2 := Lib.hid hsl2; replace hap1 := Lib.hid hap1; replace hap2 := Lib.hid hap2
              clear hS vx hrs hrt va ra ta ow bx hbw his5 is1 is2 bd own0 own6 gr1 b6 own7 own7b gr2 b7 va7 va70 hbw8 HIS CT tcell hc
              go_wp2_with fail
              refine wp_region_noPanic ?_
              refine wp_region_held_drew (S := (fun wv => wv.heap[sx]? = some (.cells #[.slice B2 m2 d2, .int .i64 qf] 24))) (by kernel_rfl) (vx5.out) (fun hS => ?_)
              refine wpAnyH_take (i := 0) (oi := ({ dst := some 101, op := Op.load 24 (Operand.tmp 14), type := 24, pos := "law.go:103", after := #[], guard := none } : Oper)) (v := .agg (([.slice B2 m2 d2, .int .i64 qf] : List Value)).toArray) rfl (by kernel_rfl) (by kernel_rfl) (by kernel_rfl) (fun _ _ _ h => h) (yieldsIf_load_mid (by rfl) _ _ (by rfl) (sx) 0 (by rfl) (([.slice B2 m2 d2, .int .i64 qf] : List Value)) _ (fun wv hS => blk_rng hS) Try.underlying24 (by rfl) (by kernel_rfl)) hS ?_
              try simp only [Act.put, List.setIfInBounds_toArray, List.set_cons_zero, List.set_cons_succ]
              refine wpAnyH_take (i := 2) (oi := ({ dst := some 103, op := Op.move (Operand.tmp 8), type := 37, pos := "law.go:103", after := #[], guard := none } : Oper)) (v := ?_) rfl (by kernel_rfl) (by kernel_rfl) (by kernel_rfl) (fun _ _ _ h => h) (Or.inl ⟨by rfl, ?_⟩) hS ?_
              rotate_left
              · intro wv _; go_simp; try with_reducible rfl
              try simp only [Act.put, List.setIfInBounds_toArray, List.set_cons_zero, List.set_cons_succ]
              refine wpAnyH_take (i := 3) (oi := ({ dst := some 104, op := Op.move (Operand.tmp 13), type := 3, pos := "law.go:103", after := #[], guard := none } : Oper)) (v := ?_) rfl (by kernel_rfl) (by kernel_rfl) (by kernel_rfl) (fun _ _ _ h => h) (Or.inl ⟨by rfl, ?_⟩) hS ?_
              rotate_left
              · intro wv _; go_simp; try with_reducible rfl
              try simp only [Act.put, List.setIfInBounds_toArray, List.set_cons_zero, List.set_cons_succ]
              refine wpAnyH_take (i := 4) (oi := ({ dst := some 105, op := Op.slice 37 (Operand.tmp 103) none (some (Operand.tmp 104)) none, type := 37, pos := "law.go:103", after := #[{ on := 2, ground := Ground.data }, { on := 3, ground := Ground.data }], guard := none } : Oper)) (v := ?_) rfl (by kernel_rfl) (by kernel_rfl) (by kernel_rfl) (fun _ _ _ h => h) (Or.inl ⟨by rfl, ?_⟩) hS ?_
              rotate_left
              · intro wv hS; have hrun := hsl1.out wv; go_simp; try with_reducible rfl
              try simp only [Act.put, List.setIfInBounds_toArray, List.set_cons_zero, List.set_cons_succ]
              refine wpAnyH_take (i := 6) (oi := ({ dst := some 107, op := Op.move (Operand.tmp 8), type := 37, pos := "law.go:103", after := #[], guard := none } : Oper)) (v := ?_) rfl (by kernel_rfl) (by kernel_rfl) (by kernel_rfl) (fun _ _ _ h => h) (Or.inl ⟨by rfl, ?_⟩) hS ?_
              rotate_left
              · intro wv _; go_simp; try with_reducible rfl
              try simp only [Act.put, List.setIfInBounds_toArray, List.set_cons_zero, List.set_cons_succ]
              refine wpAnyH_take (i := 7) (oi := ({ dst := some 108, op := Op.move (Operand.tmp 13), type := 3, pos := "law.go:103", after := #[], guard := none } : Oper)) (v := ?_) rfl (by kernel_rfl) (by kernel_rfl) (by kernel_rfl) (fun _ _ _ h => h) (Or.inl ⟨by rfl, ?_⟩) hS ?_
              rotate_left
              · intro wv _; go_simp; try with_reducible rfl
              try simp only [Act.put, List.setIfInBounds_toArray, List.set_cons_zero, List.set_cons_succ]
              refine wpAnyH_take (i := 8) (oi := ({ dst := some 109, op := Op.binOp BinOp.add 3 (Operand.tmp 108) (Operand.const (Value.int IntKind.i64 1)) 3, type := 3, pos := "law.go:103", after := #[{ on := 7, ground := Ground.data }], guard := none } : Oper)) (v := ?_) rfl (by kernel_rfl) (by kernel_rfl) (by kernel_rfl) (fun _ _ _ h => h) (Or.inl ⟨by rfl, ?_⟩) hS ?_
              rotate_left
              · intro wv _; go_simp; try with_reducible rfl
              try simp only [Act.put, List.setIfInBounds_toArray, List.set_cons_zero, List.set_cons_succ]
              refine wpAnyH_take (i := 9) (oi := ({ dst := some 110, op := Op.slice 37 (Operand.tmp 107) (some (Operand.tmp 109)) none none, type := 37, pos := "law.go:103", after := #[{ on := 6, ground := Ground.data }, { on := 8, ground := Ground.data }], guard := none } : Oper)) (v := ?_) rfl (by kernel_rfl) (by kernel_rfl) (by kernel_rfl) (fun _ _ _ h => h) (Or.inl ⟨by rfl, ?_⟩) hS ?_
              rotate_left
              · intro wv hS; have hrun := hsl2.out wv; go_simp; try with_reducible rfl
              try simp only [Act.put, List.setIfInBounds_toArray, List.set_cons_zero, List.set_cons_succ]
              refine wpAnyH_ready (rs := [1]) (by kernel_rfl) (by simp) (AllReadyH.cons (o := ({ dst := some 102, op := Op.buildSlice 37 0 #[], type := 37, pos := "law.go:103", after := #[], guard := none } : Oper)) rfl (fun K hK => ?_) AllReadyH.nil)
              go_simp
              replace hS := blk_below hS ((Below.refl _ _).alloc (Nat.le_refl _) (.cells #[] 3)) (blk_lt hS)
              refine Shut.out hK _ _ (by first | exact hS | trivial) (fun _ => ?_)
              clear hK K
              try simp only [Act.put, List.setIfInBounds_toArray, List.set_cons_zero, List.set_cons_succ]
              refine wpAnyH_ready (rs := [5]) (by kernel_rfl) (by simp) (AllReadyH.cons (o := ({ dst := some 106, op := Op.call { callee := Callee.builtin Builtin.append, args := #[Operand.tmp 102, Operand.tmp 105], argTypes := #[37, 37] }, type := 37, pos := "law.go:103", after := #[{ on := 1, ground := Ground.data }, { on := 4, ground := Ground.data }], guard := none } : Oper)) rfl (fun K hK => ?_) AllReadyH.nil)
              refine op_app_run7 (by rfl) rfl rfl rfl hap1.out ?_
              replace hS := VX6.out
              refine Shut.out hK _ _ (by first | exact hS | trivial) (fun _ => ?_)
              clear hK K
              try simp only [Act.put, List.setIfInBounds_toArray, List.set_cons_zero, List.set_cons_succ]
              refine wpAnyH_ready (rs := [10]) (by kernel_rfl) (by simp) (AllReadyH.cons (o := ({ dst := some 111, op := Op.call { callee := Callee.builtin Builtin.append, args := #[Operand.tmp 106, Operand.tmp 110], argTypes := #[37, 37] }, type := 37, pos := "law.go:103", after := #[{ on := 5, ground := Ground.data }, { on := 9, ground := Ground.data }, { on := 5, ground := Ground.chain }], guard := none } : Oper)) rfl (fun K hK => ?_) AllReadyH.nil)
              refine op_app_run7 (by rfl) rfl rfl rfl hap2.out ?_
              replace hS := VX7.out
              refine Shut.out hK _ _ (by first | exact hS | trivial) (fun _ => ?_)
              clear hK K
              try simp only [Act.put, List.setIfInBounds_toArray, List.set_cons_zero, List.set_cons_succ]
              refine wpAnyH_ready (rs := [11]) (by kernel_rfl) (by simp) (AllReadyH.cons (o := ({ dst := none, op := Op.store 24 (Operand.tmp 6) (Operand.tmp 101), type := 0, pos := "law.go:103", after := #[{ on := 0, ground := Ground.data }, { on := 10, ground := Ground.chain }, { on := 0, ground := Ground.phase }, { on := 1, ground := Ground.textOnly Departure.lateStores }, { on := 2, ground := Ground.textOnly Departure.lateStores }, { on := 3, ground := Ground.textOnly Departure.lateStores }, { on := 4, ground := Ground.textOnly Departure.lateStoresUnsure }, { on := 5, ground := Ground.textOnly Departure.lateStoresUnsure }, { on := 6, ground := Ground.textOnly Departure.lateStores }, { on := 7, ground := Ground.textOnly Departure.lateStores }, { on := 8, ground := Ground.textOnly Departure.lateStores }, { on := 9, ground := Ground.textOnly Departure.lateStoresUnsure }, { on := 10, ground := Ground.textOnly Departure.lateStoresUnsure }], guard := none } : Oper)) rfl (fun K hK => ?_) AllReadyH.nil)
              go_simp
              replace hS := (Below.heap_setCell (w7.setCell ⟨sa, 0, none⟩ (.slice B2 m2 d2)) ⟨sa, 1, none⟩ (.int .i64 qf) sx (by simp only; exact nax.symm)).trans ((Below.heap_setCell w7 ⟨sa, 0, none⟩ (.slice B2 m2 d2) sx (by simp only; exact nax.symm)).trans hS)
              refine Shut.out hK _ _ (by first | exact hS | trivial) (fun _ => ?_)
              clear hK K
              try simp only [Act.put, List.setIfInBounds_toArray, List.set_cons_zero, List.set_cons_succ]
              refine wpAnyH_take (i := 12) (oi := ({ dst := some 8, op := Op.assign (Operand.tmp 111), type := 37, pos := "law.go:103", after := #[{ on := 10, ground := Ground.data }, { on := 11, ground := Ground.chain }, { on := 0, ground := Ground.phase }, { on := 1, ground := Ground.phase }, { on := 2, ground := Ground.phase }, { on := 3, ground := Ground.phase }, { on := 4, ground := Ground.phase }, { on := 5, ground := Ground.phase }, { on := 6, ground := Ground.phase }, { on := 7, ground := Ground.phase }, { on := 8, ground := Ground.phase }, { on := 9, ground := Ground.phase }, { on := 10, ground := Ground.phase }, { on := 11, ground := Ground.phase }], guard := none } : Oper)) (v := ?_) rfl (by kernel_rfl) (by kernel_rfl) (by kernel_rfl) (fun _ _ _ h => h) (Or.inl ⟨by rfl, ?_⟩) hS ?_
              rotate_left
              · intro wv _; go_simp; try with_reducible rfl
              try simp only [Act.put, List.setIfInBounds_toArray, List.set_cons_zero, List.set_cons_succ]
              refine wpAnyH_done (by kernel_rfl) ?_ _
              refine NoPanic.normal ?_
              go_wp2
              go_roundw
              case rel => exact ⟨i + 1, kk + (tl - (kk + 1)), c6, A6, B2, m2, d2, qs, qf, _, l2, rfl, by go_num, by omega, VA8, RX8, TX8, TU2, OW8, BX8, HBW8⟩
              case measure => simp [intOf]; omega
            ·
              go_simp
              obtain ⟨sx, hsx⟩ : ∃ sx, wr.heap.size = sx := ⟨_, rfl⟩
              have vx : (wr.alloc (.cells #[.slice none 0 0, .int .i64 0] 24)).drew.heap[wr.heap.size]? = some (.cells #[.slice none 0 0, .int .i64 0] 24) := heap_alloc_new wr (.cells #[.slice none 0 0, .int .i64 0] 24)
              replace hS : Below wr.heap.size wr (wr.alloc (.cells #[.slice none 0 0, .int .i64 0] 24)).drew := ((Below.refl wr.heap.size wr).alloc (Nat.le_refl _) (.cells #[.slice none 0 0, .int .i64 0] 24)).drew
              have gsx := Nat.le_of_eq hsx
              rw [hsx] at vx ⊢
              clear hsx
              generalize (wr.alloc (.cells #[.slice none 0 0, .int .i64 0] 24)).drew = w3 at *
              go_wp2_with fail
              refine Shut.out hK _ _ (by first | exact hS | trivial) (fun _ => ?_)
              clear hK K
              try simp only [Act.put, List.setIfInBounds_toArray, List.set_cons_zero, List.set_cons_succ]
              refine wpAnyH_ready (rs := [5]) (by kernel_rfl) (by simp) (AllReadyH.cons (o := ({ dst := some 96, op := Op.call { callee := Callee.value (Operand.func 11), args := #[Operand.tmp 91, Operand.tmp 95], argTypes := #[24, 3] }, type := 31, pos := "law.go:99", after := #[{ on := 0, ground := Ground.data }, { on := 4, ground := Ground.data }], guard := none } : Oper)) rfl (fun K hK => ?_) AllReadyH.nil)
              go_simp
              refine (CT.out _ (Es.below ra.out hS) (Rt.below ta.out hS)).mono ?_; rintro e w4 ⟨B2, m2, d2, rfl, hrs, hrt, hb⟩
              replace hS := hS.trans (hb.mono hS.size)
              replace vx := blk_below vx hb (blk_lt vx)
              clear hb
              have x0 := blk_cell vx 0; have x1 := blk_cell vx 1; have p0 := blk_frozen vx 0; have p1 := blk_frozen vx 1
              simp only [List.getElem?_toArray, List.getElem?_cons_zero, List.getElem?_cons_succ] at x0 x1
              go_wp2_with fail
              refine Shut.out hK _ _ (by first | exact hS | trivial) (fun _ => ?_)
              clear hK K
              try simp only [Act.put, List.setIfInBounds_toArray, List.set_cons_zero, List.set_cons_succ]
              refine wpAnyH_take (i := 6) (oi := ({ dst := some 90, op := Op.move (Operand.tmp 96), type := 31, pos := "law.go:99", after := #[{ on := 5, ground := Ground.data }], guard := none } : Oper)) (v := ?_) rfl (by kernel_rfl) (by kernel_rfl) (by kernel_rfl) (fun _ _ _ h => h) (Or.inl ⟨by rfl, ?_⟩) hS ?_
              rotate_left
              · intro wv _; go_simp; try with_reducible rfl
              try simp only [Act.put, List.setIfInBounds_toArray, List.set_cons_zero, List.set_cons_succ]
              refine wpAnyH_take (i := 7) (oi := ({ dst := some 97, op := Op.extract (Operand.tmp 90) 0, type := 24, pos := "law.go:99", after := #[{ on := 6, ground := Ground.data }], guard := none } : Oper)) (v := ?_) rfl (by kernel_rfl) (by kernel_rfl) (by kernel_rfl) (fun _ _ _ h => h) (Or.inl ⟨by rfl, ?_⟩) hS ?_
              rotate_left
              · intro wv _; go_simp; try with_reducible rfl
              try simp only [Act.put, List.setIfInBounds_toArray, List.set_cons_zero, List.set_cons_succ]
              refine wpAnyH_take (i := 8) (oi := ({ dst := some 98, op := Op.extract (Operand.tmp 90) 1, type := 28, pos := "law.go:99", after := #[{ on := 6, ground := Ground.data }, { on := 10, ground := Ground.gcOnly Departure.lateStores }], guard := none } : Oper)) (v := ?_) rfl (by kernel_rfl) (by kernel_rfl) (by kernel_rfl) (fun _ _ _ h => h) (Or.inl ⟨by rfl, ?_⟩) hS ?_
              rotate_left
              · intro wv _; go_simp; try with_reducible rfl
              try simp only [Act.put, List.setIfInBounds_toArray, List.set_cons_zero, List.set_cons_succ]
              refine wpAnyH_ready (rs := [10]) (by kernel_rfl) (by simp) (AllReadyH.cons (o := ({ dst := none, op := Op.store 24 (Operand.tmp 14) (Operand.tmp 97), type := 0, pos := "law.go:99", after := #[{ on := 9, ground := Ground.data }, { on := 7, ground := Ground.data }, { on := 5, ground := Ground.chain }, { on := 0, ground := Ground.phase }, { on := 1, ground := Ground.phase }, { on := 2, ground := Ground.phase }, { on := 3, ground := Ground.phase }, { on := 4, ground := Ground.phase }, { on := 5, ground := Ground.phase }, { on := 6, ground := Ground.phase }, { on := 7, ground := Ground.phase }, { on := 8, ground := Ground.textOnly Departure.lateStores }, { on := 9, ground := Ground.phase }], guard := none } : Oper)) rfl (fun K hK => ?_) AllReadyH.nil)
              go_simp
              have lax : sa < wr.heap.size := blk_lt va.out
              replace hS := (hS.setCell (p := ⟨sx, 0, none⟩) gsx (.slice B2 m2 d2)).setCell (p := ⟨sx, 1, none⟩) gsx (.int .i64 qf)
              have vx0 := blk_first vx (.slice B2 m2 d2)
              replace hrs := rs_apart (o := 1) (v := .int .i64 qf) (rs_apart (o := 0) (v := .slice B2 m2 d2) hrs vx) vx0
              replace hrt := Rt.set (o := 1) (u := .int .i64 qf) (Rt.set (o := 0) (u := .slice B2 m2 d2) hrt vx) vx0
              replace vx := blk_pair vx (.slice B2 m2 d2) (.int .i64 qf)
              clear x0 x1 p0 p1 vx0
              generalize ((w4.setCell ⟨sx, 0, none⟩ (.slice B2 m2 d2)).setCell ⟨sx, 1, none⟩ (.int .i64 qf)) = w5 at *
              refine Shut.out hK _ _ (by first | exact hS | trivial) (fun _ => ?_)
              clear hK K
              try simp only [Act.put, List.setIfInBounds_toArray, List.set_cons_zero, List.set_cons_succ]
              refine wpAnyH_take (i := 11) (oi := ({ dst := some 15, op := Op.assign (Operand.tmp 98), type := 28, pos := "law.go:99", after := #[{ on := 8, ground := Ground.data }, { on := 10, ground := Ground.chain }, { on := 0, ground := Ground.phase }, { on := 1, ground := Ground.phase }, { on := 2, ground := Ground.phase }, { on := 3, ground := Ground.phase }, { on := 4, ground := Ground.phase }, { on := 5, ground := Ground.phase }, { on := 6, ground := Ground.phase }, { on := 7, ground := Ground.phase }, { on := 8, ground := Ground.phase }, { on := 9, ground := Ground.phase }, { on := 10, ground := Ground.phase }], guard := none } : Oper)) (v := ?_) rfl (by kernel_rfl) (by kernel_rfl) (by kernel_rfl) (fun _ _ _ h => h) (Or.inl ⟨by rfl, ?_⟩) hS ?_
              rotate_left
              · intro wv _; go_simp; try with_reducible rfl
              try simp only [Act.put, List.setIfInBounds_toArray, List.set_cons_zero, List.set_cons_succ]
              refine wpAnyH_done (by kernel_rfl) ?_ _
              refine NoPanic.normal ?_
              have vx5 := Lib.hid vx; have rx5 := Lib.hid hrs; have tx5 := Lib.hid hrt
              have va5 := Lib.hid (blk_below va.out hS (blk_lt va.out))
              have hbw5 := Lib.hid (hbw.out.1.trans (hS.mono hbw.out.2))
              have his5 : Is w5 (some ⟨tb, toff, none⟩) tl tc T := Es.below HIS.out hS
              have gs5 : sa + 1 ≤ w5.heap.size := blk_lt va5.out
              have gw5 : w.heap.size ≤ w5.heap.size := hbw5.out.size
              have nax : sa ≠ sx := by omega
              obtain ⟨A1, c1, hsl1, is1⟩ := his5.sliceh (P := Try.prog) 37 undInts sizeInts (kk : Int) kk rfl (by omega)
              obtain ⟨A2, c2, hsl2, is2⟩ := his5.slicel (P := Try.prog) 37 undInts sizeInts (IntKind.i64.wrap ((kk : Int) + 1)) (kk + 1) (by rw [IntKind.wrap_i64]; omega) (by omega)
              have bd : Below w5.heap.size w5 (w5.drew.alloc (.cells #[] 3)) := (Below.refl _ _).drew.alloc (Nat.le_refl _) _
              have own0 : (w5.drew.alloc (.cells #[] 3)).ownsRow w5.heap.size 3 1 (.slice (some ⟨w5.heap.size, 0, none⟩) 0 0) 0 (intC []) := World.ownsRow_lit w5.drew #[] 0 (Nat.le_refl _) (by unfold maxLen; omega) (by simp)
              obtain ⟨A5, c5, w6, hap1, own6, gr1⟩ := app_nums _ w5.heap.size _ 0 [] own0 A1 kk c1 _ (Es.below is1 bd) (by omega) bd.size
              rw [Nat.zero_add] at hap1 own6
              rw [List.nil_append] at own6
              have b6 : Below w5.heap.size w5 w6 := bd.grown gr1 bd.size (fun k hk => (own0.lt k hk).1)
              obtain ⟨A6, c6, w7, hap2, own7, gr2⟩ := app_nums w6 w5.heap.size _ kk _ own6 A2 (tl - (kk + 1)) c2 _ (Es.below is2 b6) (by omega) b6.size
              have b7 : Below w5.heap.size w5 w7 := b6.grown gr2 b6.size (fun k hk => (own6.lt k hk).1)
              have va7 := blk_below va5.out b7 (blk_lt va5.out)
              have VX6 := Lib.hid (blk_below vx5.out b6 (blk_lt vx5.out))
              have VX7 := Lib.hid (blk_below vx5.out b7 (blk_lt vx5.out))
              have u0 := blk_cell va7 0; have u1 := blk_cell va7 1; have t0 := blk_frozen va7 0; have t1 := blk_frozen va7 1
              simp only [List.getElem?_toArray, List.getElem?_cons_zero, List.getElem?_cons_succ] at u0 u1
              have va70 := blk_first va7 (.slice B2 m2 d2)
              have VA8 := Lib.hid (blk_pair va7 (.slice B2 m2 d2) (.int .i64 qf))
              have RX8 := Lib.hid (rs_apart (o := 1) (v := .int .i64 qf) (rs_apart (o := 0) (v := .slice B2 m2 d2) (Es.below rx5.out b7) va7) va70)
              have TX8 := Lib.hid (Rt.set (o := 1) (u := .int .i64 qf) (Rt.set (o := 0) (u := .slice B2 m2 d2) (Rt.below tx5.out b7) va7) va70)
              have own7b := own_base own7 gs5
              have OW8 := Lib.hid (own_apart (k := sa) (o := 1) (u := .int .i64 qf) (own_apart (k := sa) (o := 0) (u := .slice B2 m2 d2) own7b (by omega)) (by omega))
              have hbw8 := ((hbw5.out.trans (b7.mono gw5)).setCell (p := ⟨sa, 0, none⟩) gea (.slice B2 m2 d2)).setCell (p := ⟨sa, 1, none⟩) gea (.int .i64 qf)
              have HBW8 := Lib.hid (And.intro hbw8 hbw8.size)
              have BX8 := Lib.hid (HX0.out.below hbw8)
              replace hsl1 := Lib.hid hsl1; replace hsl2 := Lib.hid hsl2; replace hap1 := Lib.hid hap1; replace hap2 := Lib.hid hap2
              clear hS vx hrs hrt va ra ta ow bx hbw his5 is1 is2 bd own0 own6 gr1 b6 own7 own7b gr2 b7 va7 va70 hbw8 HIS CT tcell hc
              go_wp2_with fail
              refine wp_region_noPanic ?_
              refine wp_region_held_drew (S := (fun wv => wv.heap[sx]? = some (.cells #[.slice B2 m2 d2, .int .i64 qf] 24))) (by kernel_rfl) (vx5.out) (fun hS => ?_)
              refine wpAnyH_take (i := 0) (oi := ({ dst := some 101, op := Op.load 24 (Operand.tmp 14), type := 24, pos := "law.go:103", after := #[], guard := none } : Oper)) (v := .agg (([.slice B2 m2 d2, .int .i64 qf] : List Value)).toArray) rfl (by kernel_rfl) (by kernel_rfl) (by kernel_rfl) (fun _ _ _ h => h) (yieldsIf_load_mid (by rfl) _ _ (by rfl) (sx) 0 (by rfl) (([.slice B2 m2 d2, .int .i64 qf] : List Value)) _ (fun wv hS => blk_rng hS) Try.underlying24 (by rfl) (by kernel_rfl)) hS ?_
              try simp only [Act.put, List.setIfInBounds_toArray, List.set_cons_zero, List.set_cons_succ]
              refine wpAnyH_take (i := 2) (oi := ({ dst := some 103, op := Op.move (Operand.tmp 8), type := 37, pos := "law.go:103", after := #[], guard := none } : Oper)) (v := ?_) rfl (by kernel_rfl) (by kernel_rfl) (by kernel_rfl) (fun _ _ _ h => h) (Or.inl ⟨by rfl, ?_⟩) hS ?_
              rotate_left
              · intro wv _; go_simp; try with_reducible rfl
              try simp only [Act.put, List.setIfInBounds_toArray, List.set_cons_zero, List.set_cons_succ]
              refine wpAnyH_take (i := 3) (oi := ({ dst := some 104, op := Op.move (Operand.tmp 13), type := 3, pos := "law.go:103", after := #[], guard := none } : Oper)) (v := ?_) rfl (by kernel_rfl) (by kernel_rfl) (by kernel_rfl) (fun _ _ _ h => h) (Or.inl ⟨by rfl, ?_⟩) hS ?_
              rotate_left
              · intro wv _; go_simp; try with_reducible rfl
              try simp only [Act.put, List.setIfInBounds_toArray, List.set_cons_zero, List.set_cons_succ]
              refine wpAnyH_take (i := 4) (oi := ({ dst := some 105, op := Op.slice 37 (Operand.tmp 103) none (some (Operand.tmp 104)) none, type := 37, pos := "law.go:103", after := #[{ on := 2, ground := Ground.data }, { on := 3, ground := Ground.data }], guard := none } : Oper)) (v := ?_) rfl (by kernel_rfl) (by kernel_rfl) (by kernel_rfl) (fun _ _ _ h => h) (Or.inl ⟨by rfl, ?_⟩) hS ?_
              rotate_left
              · intro wv hS; have hrun := hsl1.out wv; go_simp; try with_reducible rfl
              try simp only [Act.put, List.setIfInBounds_toArray, List.set_cons_zero, List.set_cons_succ]
              refine wpAnyH_take (i := 6) (oi := ({ dst := some 107, op := Op.move (Operand.tmp 8), type := 37, pos := "law.go:103", after := #[], guard := none } : Oper)) (v := ?_) rfl (by kernel_rfl) (by kernel_rfl) (by kernel_rfl) (fun _ _ _ h => h) (Or.inl ⟨by rfl, ?_⟩) hS ?_
              rotate_left
              · intro wv _; go_simp; try with_reducible rfl
              try simp only [Act.put, List.setIfInBounds_toArray, List.set_cons_zero, List.set_cons_succ]
              refine wpAnyH_take (i := 7) (oi := ({ dst := some 108, op := Op.move (Operand.tmp 13), type := 3, pos := "law.go:103", after := #[], guard := none } : Oper)) (v := ?_) rfl (by kernel_rfl) (by kernel_rfl) (by kernel_rfl) (fun _ _ _ h => h) (Or.inl ⟨by rfl, ?_⟩) hS ?_
              rotate_left
              · intro wv _; go_simp; try with_reducible rfl
              try simp only [Act.put, List.setIfInBounds_toArray, List.set_cons_zero, List.set_cons_succ]
              refine wpAnyH_take (i := 8) (oi := ({ dst := some 109, op := Op.binOp BinOp.add 3 (Operand.tmp 108) (Operand.const (Value.int IntKind.i64 1)) 3, type := 3, pos := "law.go:103", after := #[{ on := 7, ground := Ground.data }], guard := none } : Oper)) (v := ?_) rfl (by kernel_rfl) (by kernel_rfl) (by kernel_rfl) (fun _ _ _ h => h) (Or.inl ⟨by rfl, ?_⟩) hS ?_
              rotate_left
              · intro wv _; go_simp; try with_reducible rfl
              try simp only [Act.put, List.setIfInBounds_toArray, List.set_cons_zero, List.set_cons_succ]
              refine wpAnyH_take (i := 9) (oi := ({ dst := some 110, op := Op.slice 37 (Operand.tmp 107) (some (Operand.tmp 109)) none none, type := 37, pos := "law.go:103", after := #[{ on := 6, ground := Ground.data }, { on := 8, ground := Ground.data }], guard := none } : Oper)) (v := ?_) rfl (by kernel_rfl) (by kernel_rfl) (by kernel_rfl) (fun _ _ _ h => h) (Or.inl ⟨by rfl, ?_⟩) hS ?_
              rotate_left
              · intro wv hS; have hrun := hsl2.out wv; go_simp; try with_reducible rfl
              try simp only [Act.put, List.setIfInBounds_toArray, List.set_cons_zero, List.set_cons_succ]
              refine wpAnyH_ready (rs := [1]) (by kernel_rfl) (by simp) (AllReadyH.cons (o := ({ dst := some 102, op := Op.buildSlice 37 0 #[], type := 37, pos := "law.go:103", after := #[], guard := none } : Oper)) rfl (fun K hK => ?_) AllReadyH.nil)
              go_simp
              replace hS := blk_below hS ((Below.refl _ _).alloc (Nat.le_refl _) (.cells #[] 3)) (blk_lt hS)
              refine Shut.out hK _ _ (by first | exact hS | trivial) (fun _ => ?_)
              clear hK K
              try simp only [Act.put, List.setIfInBounds_toArray, List.set_cons_zero, List.set_cons_succ]
              refine wpAnyH_ready (rs := [5]) (by kernel_rfl) (by simp) (AllReadyH.cons (o := ({ dst := some 106, op := Op.call { callee := Callee.builtin Builtin.append, args := #[Operand.tmp 102, Operand.tmp 105], argTypes := #[37, 37] }, type := 37, pos := "law.go:103", after := #[{ on := 1, ground := Ground.data }, { on := 4, ground := Ground.data }], guard := none } : Oper)) rfl (fun K hK => ?_) AllReadyH.nil)
              refine op_app_run7 (by rfl) rfl rfl rfl hap1.out ?_
              replace hS := VX6.out
              refine Shut.out hK _ _ (by first | exact hS | trivial) (fun _ => ?_)
              clear hK K
              try simp only [Act.put, List.setIfInBounds_toArray, List.set_cons_zero, List.set_cons_succ]
              refine wpAnyH_ready (rs := [10]) (by kernel_rfl) (by simp) (AllReadyH.cons (o := ({ dst := some 111, op := Op.call { callee := Callee.builtin Builtin.append, args := #[Operand.tmp 106, Operand.tmp 110], argTypes := #[37, 37] }, type := 37, pos := "law.go:103", after := #[{ on := 5, ground := Ground.data }, { on := 9, ground := Ground.data }, { on := 5, ground := Ground.chain }], guard := none } : Oper)) rfl (fun K hK => ?_) AllReadyH.nil)
              refine op_app_run7 (by rfl) rfl rfl rfl hap2.out ?_
              replace hS := VX7.out
              refine Shut.out hK _ _ (by first | exact hS | trivial) (fun _ => ?_)
              clear hK K
              try simp only [Act.put, List.setIfInBounds_toArray, List.set_cons_zero, List.set_cons_succ]
              refine wpAnyH_ready (rs := [11]) (by kernel_rfl) (by simp) (AllReadyH.cons (o := ({ dst := none, op := Op.store 24 (Operand.tmp 6) (Operand.tmp 101), type := 0, pos := "law.go:103", after := #[{ on := 0, ground := Ground.data }, { on := 10, ground := Ground.chain }, { on := 0, ground := Ground.phase }, { on := 1, ground := Ground.textOnly Departure.lateStores }, { on := 2, ground := Ground.textOnly Departure.lateStores }, { on := 3, ground := Ground.textOnly Departure.lateStores }, { on := 4, ground := Ground.textOnly Departure.lateStoresUnsure }, { on := 5, ground := Ground.textOnly Departure.lateStoresUnsure }, { on := 6, ground := Ground.textOnly Departure.lateStores }, { on := 7, ground := Ground.textOnly Departure.lateStores }, { on := 8, ground := Ground.textOnly Departure.lateStores }, { on := 9, ground := Ground.textOnly Departure.lateStoresUnsure }, { on := 10, ground := Ground.textOnly Departure.lateStoresUnsure }], guard := none } : Oper)) rfl (fun K hK => ?_) AllReadyH.nil)
              go_simp
              replace hS := (Below.heap_setCell (w7.setCell ⟨sa, 0, none⟩ (.slice B2 m2 d2)) ⟨sa, 1, none⟩ (.int .i64 qf) sx (by simp only; exact nax.symm)).trans ((Below.heap_setCell w7 ⟨sa, 0, none⟩ (.slice B2 m2 d2) sx (by simp only; exact nax.symm)).trans hS)
              refine Shut.out hK _ _ (by first | exact hS | trivial) (fun _ => ?_)
              clear hK K
              try simp only [Act.put, List.setIfInBounds_toArray, List.set_cons_zero, List.set_cons_succ]
              refine wpAnyH_take (i := 12) (oi := ({ dst := some 8, op := Op.assign (Operand.tmp 111), type := 37, pos := "law.go:103", after := #[{ on := 10, ground := Ground.data }, { on := 11, ground := Ground.chain }, { on := 0, ground := Ground.phase }, { on := 1, ground := Ground.phase }, { on := 2, ground := Ground.phase }, { on := 3, ground := Ground.phase }, { on := 4, ground := Ground.phase }, { on := 5, ground := Ground.phase }, { on := 6, ground := Ground.phase }, { on := 7, ground := Ground.phase }, { on := 8, ground := Ground.phase }, { on := 9, ground := Ground.phase }, { on := 10, ground := Ground.phase }, { on := 11, ground := Ground.phase }], guard := none } : Oper)) (v := ?_) rfl (by kernel_rfl) (by kernel_rfl) (by kernel_rfl) (fun _ _ _ h => h) (Or.inl ⟨by rfl, ?_⟩) hS ?_
              rotate_left
              · intro wv _; go_simp; try with_reducible rfl
              try simp only [Act.put, List.setIfInBounds_toArray, List.set_cons_zero, List.set_cons_succ]
              refine wpAnyH_done (by kernel_rfl) ?_ _
              refine NoPanic.normal ?_
              go_wp2
              go_roundw
              case rel => exact ⟨i + 1, kk + (tl - (kk + 1)), c6, A6, B2, m2, d2, qs, qf, _, l2, rfl, by go_num, by omega, VA8, RX8, TX8, TU2, OW8, BX8, HBW8⟩
              case measure => simp [intOf]; omega
      · obtain rfl : i = n := by omega
        have b1 : decide ((i : Int) < (i : Int)) = false := by simp
        have h2 : rs.length = z := tu.out.len
        have tll : T.length = tl := by have := ow.out.1; rw [intC_len] at this; omega
        have hsum := tu.out.sum
        have fc := arnFree_any B m d rs fr wr ra.out (by have h1 := ra.out.len; omega)
        rw [tu.out.ok.free] at fc
        replace fc := Lib.hid fc
        have RC := Lib.hid (show ∀ W, Rs W B m d rs → Calls Try.prog 16 #[.agg #[.slice B m d, .int .i64 fr]] W fun e w' => e = .returned (.bool true) ∧ Below W.heap.size W w' from fun W h => by
          have h3 := arnRight_any B m d rs fr W h (by have h1 := h.len; omega)
          rwa [tu.out.ok.right] at h3)
        have HH := Lib.hid (fun (x : Int) (hx : x ∈ l) (W : World) (h : Is W TA tl tc T) => by
          have h3 := refHas_any TA tl tc T x W h (by omega)
          rwa [decide_eq_false (fun hm => tu.out.apart x hm hx)] at h3)
        have his : Is wr TA tl tc T := by
          obtain ⟨A9, c9, e9, h9⟩ := Es.of_own ow.out (intC_one _)
          injection e9 with e1 e2 e3; subst e1; subst e3; exact h9
        have IT := Lib.hid his
        have HSUM := Lib.hid (show l.length + tl = z by omega)
        clear tu ow bx ta his hsum tll h2 hlt hi
        have ca0 := blk_cell va.out 0; have ca1 := blk_cell va.out 1
        simp only [List.getElem?_toArray, List.getElem?_cons_zero, List.getElem?_cons_succ] at ca0 ca1
        go_wp2_with fail
        refine fc.out.mono ?_
        rintro e w3 ⟨A1, n1, e1, rfl, hil, hb⟩
        replace va := Lib.hid (blk_below va.out hb (blk_lt va.out))
        replace ra := Lib.hid (Es.below ra.out hb)
        replace IT := Lib.hid (Es.below IT.out hb)
        replace hbw := Lib.hid (And.intro (hbw.out.1.trans (hb.mono hbw.out.2)) (Nat.le_trans hbw.out.2 hb.size))
        have IL := Lib.hid hil
        have hn1l : l.length = n1 := Is.len hil
        have hn1 : n1 ≤ 20 := by have := HSUM.out; omega
        have htl : tl ≤ 20 := by have := HSUM.out; omega
        have HS2 := Lib.hid (show n1 + tl = z by have := HSUM.out; omega)
        clear hb hil fc ca0 ca1 hn1l
        go_wp2
        go_loopw [17] (fun iv wq => ∃ j : Nat, iv = .int .i64 (j : Int) ∧ j ≤ n1 ∧ Hid (Below w3.heap.size w3 wq)) (fun iv _ => n1 - (intOf iv).toNat)
        case atStart => exact ⟨0, rfl, by omega, Below.refl _ _⟩
        case round =>
          obtain ⟨j, rfl, hj, hbq⟩ := hrel
          have va2 := blk_below va.out hbq.out (blk_lt va.out)
          have ca0 := blk_cell va2 0; have ca1 := blk_cell va2 1
          simp only [List.getElem?_toArray, List.getElem?_cons_zero, List.getElem?_cons_succ] at ca0 ca1
          by_cases hjl : j < n1
          · have b2 : decide ((j : Int) < (n1 : Int)) = true := by simpa using hjl
            obtain ⟨lb, loff, x, rfl, hlb, hlc, hdr⟩ := (show Is _ _ n1 e1 l from Es.below IL.out hbq.out).look j hjl
            have hxl : x ∈ l := List.mem_of_mem_drop (i := j) (by rw [hdr]; simp)
            have HC := Lib.hid (HH.out x hxl _ (Es.below IT.out hbq.out))
            have j0 : (0 : Int) ≤ (j : Int) := by omega
            have j1 : (j : Int) < (n1 : Int) := by omega
            clear hxl hdr hlb va2 HH IL
            go_wp2_with fail
            refine HC.out.mono ?_
            rintro e w5 ⟨rfl, rfl⟩
            go_wp2
            go_roundw
            case rel => exact ⟨j + 1, by go_num, by omega, hbq⟩
            case measure => simp [intOf]; omega
          · obtain rfl : j = n1 := by omega
            have b2 : decide ((j : Int) < (j : Int)) = false := by simp
            have HR := Lib.hid (RC.out _ (Es.below ra.out hbq.out))
            have hsumz : ((j : Int) + (tl : Int) == (z : Int)) = true := by have := HS2.out; simp; omega
            clear va2 HH IL RC
            go_wp2_with fail
            refine HR.out.mono ?_
            rintro e w5 ⟨rfl, hb⟩
            have HB9 := Lib.hid (hbw.out.1.trans ((hbq.out.mono hbw.out.2).trans (hb.mono (Nat.le_trans hbw.out.2 hbq.out.size))))
            clear hb
            go_wp2
            go_ret
            exact ⟨rfl, HB9.out⟩
end Go.Proofs.Ytglccgmhcncghaa
