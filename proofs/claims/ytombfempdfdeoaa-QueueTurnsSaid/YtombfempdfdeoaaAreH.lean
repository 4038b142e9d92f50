/- What the document's own Make of layer 7 answers; no condition. -/
import Derived.Test.YtombfempdfdeoaaAreG
namespace Go.Proofs.Ytombfempdfdeoaa
set_option linter.unusedVariables false
set_option linter.unusedSimpArgs false
open Go.RowKit

theorem freshL_more (at_ m : Nat) : freshL at_ (m + 1) = (-1, -1, if m = 0 then -1 else (at_ : Int) + 1) :: freshL (at_ + 1) m := by
  cases m with
  | zero => rfl
  | succ m => rfl
theorem freshL_len : ∀ (m at_ : Nat), (freshL at_ m).length = m
  | 0, _ => rfl
  | m + 1, at_ => by rw [freshL_more, List.length_cons, freshL_len m]
/-- the arena so far. -/
def made (n t : Nat) : List Rec3 := freshL (n - t) t
def madeFr (n t : Nat) : Int := if t = 0 then -1 else ((n - t : Nat) : Int)
theorem made_step {n t : Nat} (h : t < n) : made n (t + 1) = (-1, -1, madeFr n t) :: made n t := by
  unfold made madeFr
  rw [freshL_more, show n - (t + 1) + 1 = n - t by omega]
  congr 3
  by_cases h0 : t = 0
  · rw [if_pos h0, if_pos h0]
  · rw [if_neg h0, if_neg h0]; omega
/-- an arena whose records are the call's own, and what was wrong. -/
def MakeOwn (w : World) (r : Aren × Int) (e : Ending) (w' : World) : Prop :=
  ∃ B m d, e = .returned (.tuple #[.agg #[.slice B m d, .int .i64 r.1.2], .int .i64 r.2]) ∧ w'.ownsRow w.heap.size 55 3 (.slice B m d) m (recC r.1.1) ∧ Below w.heap.size w w'
set_option maxRecDepth 100000 in
set_option maxHeartbeats 4000000 in
theorem refMake_own (n : Int) (w : World) (n0 : -9223372036854775808 ≤ n) (n1 : n ≤ 9223372036854775807) :
    Calls Try.prog 23 #[.int .i64 n] w (MakeOwn w (arMake n)) := by
  obtain ⟨i5, hi5, hz0, hz1, hz2⟩ := info_of infoRec
  have HI := Lib.hid hi5; have HZ0 := Lib.hid hz0; have HZ1 := Lib.hid hz1; have HZ2 := Lib.hid hz2
  clear hi5 hz0 hz1 hz2
  have hk1 := heap_alloc_new w (.cells #[.slice none 0 0, .int .i64 0] 24)
  have hs1 : (w.alloc (.cells #[.slice none 0 0, .int .i64 0] 24)).heap.size = w.heap.size + 1 := by simp
  have hb1 : Below w.heap.size w (w.alloc (.cells #[.slice none 0 0, .int .i64 0] 24)) := (Below.refl w.heap.size w).alloc (Nat.le_refl _) _
  obtain ⟨w1, hw1⟩ : ∃ w1, w.alloc (.cells #[.slice none 0 0, .int .i64 0] 24) = w1 := ⟨_, rfl⟩
  rw [hw1] at hk1 hs1 hb1
  have x0 := blk_cell hk1 0; have x1 := blk_cell hk1 1; have y0 := blk_frozen hk1 0; have y1 := blk_frozen hk1 1
  simp only [List.getElem?_toArray, List.getElem?_cons_zero, List.getElem?_cons_succ] at x0 x1
  generalize hq : w.heap.size = q at *
  by_cases h : n < 0 ∨ 64 < n
  · have R : arMake n = (([], 0), 1) := by unfold arMake; rw [if_pos h]
    rw [R]
    have HK := Lib.hid hk1; have HB := Lib.hid hb1
    have fin : MakeOwn w (([], 0), 1) (.returned (.tuple #[.agg #[.slice none 0 0, .int .i64 0], .int .i64 1])) ((w1.setCell ⟨q, 0, none⟩ (.slice none 0 0)).setCell ⟨q, 1, none⟩ (.int .i64 0)) :=
      ⟨none, 0, 0, rfl, World.ownsRow_nil _ _ _ _, by rw [hq]; exact (HB.out.setCell (by simp) _).setCell (by simp) _⟩
    have HF := Lib.hid fin
    clear R hk1 hb1 fin
    by_cases h0 : n < 0
    · have b0 : decide (n < 0) = true := by simpa using h0
      clear h h0
      go_enter Try.func23, Try.ntmps23
      go_wp2
      refine bodyPost_ret (res_cs Try.results23 (by rfl) (load_arena (blk_pair HK.out _ _))) rfl ?_
      exact HF.out
    · have b0 : decide (n < 0) = false := by simpa using h0
      have b1 : decide (64 < n) = true := by simp; omega
      clear h h0
      go_enter Try.func23, Try.ntmps23
      go_wp2
      refine bodyPost_ret (res_cs Try.results23 (by rfl) (load_arena (blk_pair HK.out _ _))) rfl ?_
      exact HF.out
  · obtain ⟨n, rfl⟩ : ∃ k : Nat, n = k := ⟨n.toNat, by omega⟩
    have hn : n ≤ 64 := by omega
    have b0 : decide ((n : Int) < 0) = false := by simp
    have b1 : decide ((64 : Int) < (n : Int)) = false := by simp; omega
    have R : arMake n = ((made n n, madeFr n n), 0) := by
      unfold arMake made madeFr
      rw [if_neg (by omega), Int.toNat_natCast, Nat.sub_self]
      by_cases hz : n = 0
      · subst hz; rfl
      · rw [if_neg (by omega), if_neg hz]; rfl
    rw [R]
    clear R h n0 n1
    have hr2 := heap_alloc_new w1 (.cells #[.slice none 0 0, .int .i64 (-1)] 24)
    have hk2 : (w1.alloc (.cells #[.slice none 0 0, .int .i64 (-1)] 24)).heap[q]? = some (.cells #[.slice none 0 0, .int .i64 0] 24) := by rw [heap_alloc_old _ _ (by omega)]; exact hk1
    have hb2 : Below q w (w1.alloc (.cells #[.slice none 0 0, .int .i64 (-1)] 24)) := hb1.alloc (by omega) _
    have hs2 : (w1.alloc (.cells #[.slice none 0 0, .int .i64 (-1)] 24)).heap.size = q + 2 := by simp; omega
    obtain ⟨w2, hw2⟩ : ∃ w2, w1.alloc (.cells #[.slice none 0 0, .int .i64 (-1)] 24) = w2 := ⟨_, rfl⟩
    rw [hw2] at hr2 hk2 hb2 hs2
    rw [hs1] at hr2
    have HK := Lib.hid hk2; have HR := Lib.hid hr2; have HB := Lib.hid hb2
    clear hk1 hb1 hk2 hr2 hb2
    go_enter Try.func23, Try.ntmps23
    go_wp2
    clear hw1 hw2 x0 x1 y0 y1
    go_loopw [5] (fun iv wr => ∃ (t : Nat) (v : Value), iv = .int .i64 ((n : Int) - 1 - (t : Int)) ∧ t ≤ n ∧ Hid (wr.heap[q]? = some (.cells #[.slice none 0 0, .int .i64 0] 24)) ∧ Hid (wr.heap[q + 1]? = some (.cells #[v, .int .i64 (madeFr n t)] 24)) ∧
      Hid (wr.ownsRow (q + 2) 55 3 v t (recC (made n t))) ∧ Hid (Below q w wr) ∧ q + 2 ≤ wr.heap.size) (fun iv _ => (intOf iv + 1).toNat)
    case atStart => exact ⟨0, .slice none 0 0, by simp, by omega, HK.out, HR.out, World.ownsRow_nil _ _ _ _, HB.out, by omega⟩
    case round =>
      clear HK HR HB
      obtain ⟨t, v, rfl, ht, hk, hr, hown, hbl, hsz⟩ := hrel
      obtain ⟨B, d, rfl, hrs⟩ := rs_of_own hown.out
      have x0 := blk_cell hr.out 0; have x1 := blk_cell hr.out 1; have y0 := blk_frozen hr.out 0; have y1 := blk_frozen hr.out 1
      simp only [List.getElem?_toArray, List.getElem?_cons_zero, List.getElem?_cons_succ] at x0 x1
      by_cases hlt : t < n
      · have c0 : decide ((0 : Int) ≤ (n : Int) - 1 - (t : Int)) = true := by simp; omega
        have h1 : (wr.alloc (.cells #[.int .i64 (-1), .int .i64 (-1), .int .i64 (madeFr n t)] 55)).ownsRow (q + 2) 55 3 (.slice (some ⟨wr.heap.size, 0, none⟩) 1 1) 1 (recC [(-1, -1, madeFr n t)]) :=
          World.ownsRow_lit wr #[.int .i64 (-1), .int .i64 (-1), .int .i64 (madeFr n t)] 1 hsz (by unfold maxLen; omega) (by simp)
        obtain ⟨v2, w4, hap, hown4, hgr, _⟩ := eapp_own (P := Try.prog) (wr.alloc (.cells #[.int .i64 (-1), .int .i64 (-1), .int .i64 (madeFr n t)] 55)) (q + 2) 22 22 55 i5 _ 3 24 Try.underlying22 HI.out HZ0.out HZ1.out HZ2.out rfl (by decide) _ 1 _ h1 B t d _ (Es.alloc hrs _) (by unfold maxLen; omega) (by omega) (by simp; omega)
        rw [← recC_app, show [((-1 : Int), (-1 : Int), madeFr n t)] ++ made n t = made n (t + 1) from (made_step hlt).symm, Nat.add_comm 1 t] at hown4
        obtain ⟨B2, d2, rfl, hrs2⟩ := rs_of_own hown4
        have hb4 : Below (q + 2) wr w4 := ((Below.refl _ _).alloc hsz _).grown hgr (by simp; omega) (by simp [Value.ownBlock]; omega)
        have a0 : (wr.alloc (.cells #[.int .i64 (-1), .int .i64 (-1), .int .i64 (madeFr n t)] 55)).cell? ⟨q + 1, 0, none⟩ = some (.slice B t d) := by rw [World.cell?_alloc_lt wr _ ⟨q + 1, 0, none⟩ (by simp only; omega)]; exact x0
        have hk4 := blk_below hk.out hb4 (by omega)
        have hr4 := blk_below hr.out hb4 (by omega)
        have u0 := blk_cell hr4 0; have u1 := blk_cell hr4 1; have t0 := blk_frozen hr4 0; have t1 := blk_frozen hr4 1
        simp only [List.getElem?_toArray, List.getElem?_cons_zero, List.getElem?_cons_succ] at u0 u1
        have HK4 := Lib.hid hk4; have HR4 := Lib.hid hr4; have HO4 := Lib.hid hown4
        have HBL := Lib.hid (show Below q w w4 from hbl.out.trans (hb4.mono (by omega)))
        have hs4 : q + 2 ≤ w4.heap.size := Nat.le_trans hsz hb4.size
        have hfr : madeFr n (t + 1) = (n : Int) - 1 - (t : Int) := by unfold madeFr; rw [if_neg (by omega)]; omega
        have HFR := Lib.hid hfr
        clear hown hbl hown4 hgr hb4 hk4 hr4 hrs hrs2 h1 hk hr hfr
        generalize madeFr n t = ft at *
        go_wp2_with (at_builtin; refine eapp_run (by rfl) rfl rfl rfl hap ?_)
        go_roundw
        case rel =>
          refine ⟨t + 1, .slice B2 (t + 1) d2, by go_num, by omega, ?_, ?_, ?_, ?_, ?_⟩
          · show _ = _
            rw [Below.heap_setCell _ _ _ _ (by simp), Below.heap_setCell _ _ _ _ (by simp)]; exact HK4.out
          · rw [HFR.out]; exact blk_pair HR4.out _ _
          · exact own_apart (own_apart HO4.out (by omega)) (by omega)
          · exact (HBL.out.setCell (by simp) _).setCell (by simp) _
          · simpa [World.setCell] using hs4
        case measure => simp [intOf]; omega
      · obtain rfl : t = n := by omega
        have c0 : decide ((0 : Int) ≤ (t : Int) - 1 - (t : Int)) = false := by simp; omega
        have z0 := blk_cell hk.out 0; have z1 := blk_cell hk.out 1; have t0 := blk_frozen hk.out 0; have t1 := blk_frozen hk.out 1
        simp only [List.getElem?_toArray, List.getElem?_cons_zero, List.getElem?_cons_succ] at z0 z1
        have HRS := Lib.hid (own_apart (own_apart hown.out (k := q) (o := 0) (u := .slice B t d) (by omega)) (k := q) (o := 1) (u := .int .i64 (madeFr t t)) (by omega))
        clear hown hrs
        generalize madeFr t t = ft at *
        go_wp2
        refine bodyPost_ret (res_cs Try.results23 (by rfl) (load_arena (blk_pair hk.out _ _))) rfl ?_
        exact ⟨_, _, _, rfl, own_base HRS.out (by rw [hq]; omega), by rw [hq]; exact (hbl.out.setCell (by simp) _).setCell (by simp) _⟩
theorem refMake_any (n : Int) (w : World) (n0 : -9223372036854775808 ≤ n) (n1 : n ≤ 9223372036854775807) :
    Calls Try.prog 23 #[.int .i64 n] w (GivePost w (arMake n)) := by
  refine (refMake_own n w n0 n1).mono ?_
  rintro e w' ⟨B, m, d, h1, h2, h3⟩
  obtain ⟨B', d', he, hrs⟩ := rs_of_own h2
  injection he with he1 he2 he3; subst he1; subst he3
  exact ⟨_, _, _, h1, hrs, h3⟩
end Go.Proofs.Ytombfempdfdeoaa
