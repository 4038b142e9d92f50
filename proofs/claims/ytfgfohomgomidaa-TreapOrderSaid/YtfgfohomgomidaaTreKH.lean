/- What the landed treap's own Make of layer 9 answers; no condition. -/
import Derived.Test.YtfgfohomgomidaaTreKG
namespace Go.Proofs.Ytfgfohomgomidaa
set_option linter.unusedVariables false
set_option linter.unusedSimpArgs false
open Go.RowKit

def zeroC : List Value := [.int .i64 0, .int .u32 0, .int .i64 0, .int .i64 0, .int .i64 0, .int .i64 0]
theorem ndC_zero : ∀ n : Nat, ndC (List.replicate n noNd) = (List.replicate n zeroC).flatten
  | 0 => rfl
  | n + 1 => by rw [List.replicate_succ, ndC, ndC_zero n, List.replicate_succ, List.flatten_cons]; rfl
theorem flat_zero : ∀ (n i : Nat), i < n * 6 → (List.replicate n zeroC).flatten[i]? = zeroC[i % 6]?
  | 0, i, h => by omega
  | n + 1, i, h => by
    rw [List.replicate_succ, List.flatten_cons]
    rcases Nat.lt_or_ge i 6 with h6 | h6
    · rw [List.getElem?_append_left (by simpa [zeroC] using h6), Nat.mod_eq_of_lt h6]
    · rw [List.getElem?_append_right (by simpa [zeroC] using h6), show zeroC.length = 6 from rfl, flat_zero n (i - 6) (by omega)]
      congr 1; omega
theorem made_zero9 (n : Nat) : (madeCells (Value.agg #[.int .i64 0, .int .u32 0, .int .i64 0, .int .i64 0, .int .i64 0, .int .i64 0]).cells (n * 6)).toList = ndC (List.replicate n noNd) := by
  rw [ndC_zero]
  apply List.ext_getElem?
  intro i
  rcases Nat.lt_or_ge i (n * 6) with h | h
  · rw [flat_zero n i h, List.getElem?_eq_getElem (by simpa [madeCells] using h)]
    simp only [madeCells, Array.toList_map, Array.toList_range, List.getElem_map, List.getElem_range]
    rcases (by omega : i % 6 = 0 ∨ i % 6 = 1 ∨ i % 6 = 2 ∨ i % 6 = 3 ∨ i % 6 = 4 ∨ i % 6 = 5) with h | h | h | h | h | h <;> simp [Value.cells, h, zeroC]
  · rw [List.getElem?_eq_none (by simpa [madeCells] using h), List.getElem?_eq_none (by
      rw [List.length_flatten, List.map_replicate, List.sum_replicate_nat]; simpa [zeroC] using h)]
/-- the nodes so far: those behind are empty, each leads to the one behind it. -/
def mdT (n t : Nat) : List Nd := (List.range n).map fun j : Nat => if j < n - t then noNd else empN (if j + 1 = n then -1 else (j : Int) + 1)
def mdFr (n t : Nat) : Int := if t = 0 then -1 else (n : Int) - (t : Int)
theorem mdT_zero (n : Nat) : mdT n 0 = List.replicate n noNd := by
  unfold mdT
  apply List.ext_getElem
  · simp
  · intro i h1 h2
    simp only [List.length_map, List.length_range] at h1
    simp only [List.getElem_map, List.getElem_range, List.getElem_replicate]
    rw [if_pos (by omega)]
theorem mdT_end (n : Nat) : mdT n n = freshT 0 n := by
  rw [freshT_map]; unfold mdT
  refine List.map_congr_left fun j hj => ?_
  rw [if_neg (by omega)]; simp
theorem mdT_len (n t : Nat) : (mdT n t).length = n := by simp [mdT]
theorem mdT_get {n i : Nat} (t : Nat) (h : i < n) : (mdT n t)[i]? = some (if i < n - t then noNd else empN (if i + 1 = n then -1 else (i : Int) + 1)) := by
  unfold mdT; rw [List.getElem?_map, List.getElem?_range h]; rfl
theorem mdT_step {n t : Nat} (h : t < n) : (mdT n t).set (n - 1 - t) (empN (mdFr n t)) = mdT n (t + 1) := by
  apply List.ext_getElem?
  intro i
  rcases Nat.lt_or_ge i n with hi | hi
  · rw [mdT_get (t + 1) hi]
    by_cases e : n - 1 - t = i
    · rw [e, List.getElem?_set_self (by rw [mdT_len]; exact hi), if_neg (by omega)]
      unfold mdFr
      by_cases ht : t = 0
      · rw [if_pos ht, if_pos (by omega)]
      · rw [if_neg ht, if_neg (by omega)]; congr 2; omega
    · rw [List.getElem?_set_ne e, mdT_get t hi]
      by_cases h2 : i < n - t
      · rw [if_pos h2, if_pos (by omega)]
      · rw [if_neg h2, if_neg (show ¬ i < n - (t + 1) by omega)]
  · rw [List.getElem?_eq_none (by rw [List.length_set, mdT_len]; exact hi), List.getElem?_eq_none (by rw [mdT_len]; exact hi)]
set_option maxRecDepth 100000 in
set_option maxHeartbeats 4000000 in
theorem tpMake_all (n : Int) (w : World) (n0 : -9223372036854775808 ≤ n) (n1 : n ≤ 9223372036854775807) :
    Calls Try.prog 23 #[.int .i64 n] w (MakeAll9 w (makeT n)) := by
  obtain ⟨i5, hi5, hz0, hz1, hz2⟩ := info_of infoNode
  obtain ⟨v1, hv1⟩ : ∃ W, w.alloc (.cells #[.slice none 0 0, .int .i64 0, .int .i64 0] 24) = W := ⟨_, rfl⟩
  have fr1 : Fr w v1 w.heap.size [.cells #[.slice none 0 0, .int .i64 0, .int .i64 0] 24] := hv1 ▸ Fr.first w _
  have z1 : v1.heap.size = w.heap.size + 1 := by rw [← hv1, Fr.size1]
  generalize hq : w.heap.size = q at *
  have FR := Lib.hid fr1
  clear fr1
  by_cases h : n < 0 ∨ 64 < n
  · have R : makeT n = (([], 0, 0), 1) := by unfold makeT; rw [if_pos h]
    rw [R]
    clear R n0 n1 hi5 hz0 hz1 hz2
    by_cases h0 : n < 0
    · have b0 : decide (n < 0) = true := by simpa using h0
      clear h h0
      have c00 : v1.cell? ⟨q, 0, none⟩ = some (.slice none 0 0) := FR.out.cell 0 0 rfl rfl rfl
      have f00 : v1.frozen? ⟨q, 0, none⟩ = false := FR.out.frozen 0 0 rfl rfl
      have c01 : v1.cell? ⟨q, 1, none⟩ = some (.int .i64 0) := FR.out.cell 0 1 rfl rfl rfl
      have f01 : v1.frozen? ⟨q, 1, none⟩ = false := FR.out.frozen 0 1 rfl rfl
      have c02 : v1.cell? ⟨q, 2, none⟩ = some (.int .i64 0) := FR.out.cell 0 2 rfl rfl rfl
      have f02 : v1.frozen? ⟨q, 2, none⟩ = false := FR.out.frozen 0 2 rfl rfl
      go_enter Try.func23, Try.ntmps23
      go_wp2
      have FZ : Fr w (((v1.setCell ⟨q, 0, none⟩ (.slice none 0 0)).setCell ⟨q, 1, none⟩ (.int .i64 0)).setCell ⟨q, 2, none⟩ (.int .i64 0)) q [.cells #[.slice none 0 0, .int .i64 0, .int .i64 0] 24] := (((FR.out.set 0 0 rfl rfl (.slice none 0 0)).set 0 1 rfl rfl (.int .i64 0)).set 0 2 rfl rfl (.int .i64 0))
      refine bodyPost_ret (res_cs Try.results23 (by rfl) (FZ.load 0 rfl rfl Try.underlying24 (by kernel_rfl))) rfl ?_
      exact ⟨none, 0, 0, rfl, World.ownsRow_nil _ _ _ _, FZ.out⟩
    · have b0 : decide (n < 0) = false := by simpa using h0
      have b1 : decide (64 < n) = true := by simp; omega
      clear h h0
      have c00 : v1.cell? ⟨q, 0, none⟩ = some (.slice none 0 0) := FR.out.cell 0 0 rfl rfl rfl
      have f00 : v1.frozen? ⟨q, 0, none⟩ = false := FR.out.frozen 0 0 rfl rfl
      have c01 : v1.cell? ⟨q, 1, none⟩ = some (.int .i64 0) := FR.out.cell 0 1 rfl rfl rfl
      have f01 : v1.frozen? ⟨q, 1, none⟩ = false := FR.out.frozen 0 1 rfl rfl
      have c02 : v1.cell? ⟨q, 2, none⟩ = some (.int .i64 0) := FR.out.cell 0 2 rfl rfl rfl
      have f02 : v1.frozen? ⟨q, 2, none⟩ = false := FR.out.frozen 0 2 rfl rfl
      go_enter Try.func23, Try.ntmps23
      go_wp2
      have FZ : Fr w (((v1.setCell ⟨q, 0, none⟩ (.slice none 0 0)).setCell ⟨q, 1, none⟩ (.int .i64 0)).setCell ⟨q, 2, none⟩ (.int .i64 0)) q [.cells #[.slice none 0 0, .int .i64 0, .int .i64 0] 24] := (((FR.out.set 0 0 rfl rfl (.slice none 0 0)).set 0 1 rfl rfl (.int .i64 0)).set 0 2 rfl rfl (.int .i64 0))
      refine bodyPost_ret (res_cs Try.results23 (by rfl) (FZ.load 0 rfl rfl Try.underlying24 (by kernel_rfl))) rfl ?_
      exact ⟨none, 0, 0, rfl, World.ownsRow_nil _ _ _ _, FZ.out⟩
  · obtain ⟨n, rfl⟩ : ∃ k : Nat, n = k := ⟨n.toNat, by omega⟩
    have hn : n ≤ 64 := by omega
    have b0 : decide ((n : Int) < 0) = false := by simp
    have b1 : decide ((64 : Int) < (n : Int)) = false := by simp; omega
    have R : makeT n = ((mdT n n, -1, mdFr n n), 0) := by
          unfold makeT mdFr
          rw [if_neg (by omega), Int.toNat_natCast, mdT_end]
          by_cases hz : n = 0
          · subst hz; rfl
          · rw [if_neg (by omega), if_neg hz, Int.sub_self]
    have HR := Lib.hid R
    clear R h n0 n1
    obtain ⟨w2, hmk, hown, hgr⟩ := run_make_full (P := Try.prog) v1 (q + 1) 22 52 i5 _ 6 Try.underlying22 hi5 hz0 hz1 .i64 .i64 n (by rw [hz2]; omega) (by unfold maxLen; omega) (by omega)
    rw [made_zero9] at hown
    have hb : Below v1.heap.size v1 w2 := (Below.refl _ _).grown hgr (Nat.le_refl _) (by simp)
    replace FR := Lib.hid (FR.out.step hb)
    have hgs : ∃ g, v1.heap.size = g := ⟨_, rfl⟩
    obtain ⟨g, hgs⟩ := hgs
    rw [hgs] at hmk hown
    have OW := Lib.hid (show w2.ownsRow (q + 1) 52 6 (.slice (some ⟨g, 0, none⟩) n n) n (ndC (mdT n 0)) from by rw [mdT_zero]; exact hown)
    have hglt := (OW.out.lt g (by simp [Value.ownBlock])).2
    have hgq := (OW.out.lt g (by simp [Value.ownBlock])).1
    clear hown hgr hb hi5 hz0 hz1 hz2
    have gea := FR.out.sz
    simp only [List.length_cons, List.length_nil] at gea
    obtain ⟨w3, hw3⟩ : ∃ W, w2.alloc (.cells #[.slice (some ⟨g, 0, none⟩) n n, .int .i64 (-1), .int .i64 (-1)] 54) = W := ⟨_, rfl⟩
    have hb : Below w2.heap.size w2 w3 := hw3 ▸ (Below.refl _ _).alloc (Nat.le_refl _) _
    have hv : w3.heap[w2.heap.size]? = some (.cells #[.slice (some ⟨g, 0, none⟩) n n, .int .i64 (-1), .int .i64 (-1)] 54) := hw3 ▸ heap_alloc_new _ _
    replace FR := Lib.hid (FR.out.step hb)
    replace OW := Lib.hid (own_below OW.out hb)
    have Va := Lib.hid hv
    generalize hsa : w2.heap.size = sa at *
    clear hb hv
    have c00 : w3.cell? ⟨q, 0, none⟩ = some (.slice none 0 0) := FR.out.cell 0 0 rfl rfl rfl
    have f00 : w3.frozen? ⟨q, 0, none⟩ = false := FR.out.frozen 0 0 rfl rfl
    have c01 : w3.cell? ⟨q, 1, none⟩ = some (.int .i64 0) := FR.out.cell 0 1 rfl rfl rfl
    have f01 : w3.frozen? ⟨q, 1, none⟩ = false := FR.out.frozen 0 1 rfl rfl
    have c02 : w3.cell? ⟨q, 2, none⟩ = some (.int .i64 0) := FR.out.cell 0 2 rfl rfl rfl
    have f02 : w3.frozen? ⟨q, 2, none⟩ = false := FR.out.frozen 0 2 rfl rfl
    have ca0 : w3.cell? ⟨sa, 0, none⟩ = some (.slice (some ⟨g, 0, none⟩) n n) := (blk_cell Va.out 0).trans rfl
    have fa0 : w3.frozen? ⟨sa, 0, none⟩ = false := blk_frozen Va.out 0
    have ca1 : w3.cell? ⟨sa, 1, none⟩ = some (.int .i64 (-1)) := (blk_cell Va.out 1).trans rfl
    have fa1 : w3.frozen? ⟨sa, 1, none⟩ = false := blk_frozen Va.out 1
    have ca2 : w3.cell? ⟨sa, 2, none⟩ = some (.int .i64 (-1)) := (blk_cell Va.out 2).trans rfl
    have fa2 : w3.frozen? ⟨sa, 2, none⟩ = false := blk_frozen Va.out 2
    go_enter Try.func23, Try.ntmps23
    go_wp2
    clear c00 f00 c01 f01 c02 f02 ca0 fa0 ca1 fa1 ca2 fa2
    clear hmk hv1 z1 hw3
    go_loopw [5] (fun iv wr => ∃ t : Nat, iv = .int .i64 ((n : Int) - 1 - (t : Int)) ∧ t ≤ n ∧ Hid (Fr w wr q [.cells #[.slice none 0 0, .int .i64 0, .int .i64 0] 24]) ∧ Hid (Bx wr sa g n n (q + 1) (-1) (mdFr n t) (mdT n t))) (fun iv _ => (intOf iv + 1).toNat)
    case atStart => exact ⟨0, by simp, by omega, FR.out, ⟨Va.out, OW.out⟩⟩
    case round =>
      clear FR Va OW
      obtain ⟨t, rfl, ht, FR, BX⟩ := hrel
      by_cases hlt : t < n
      · obtain ⟨j, hj⟩ : ∃ j : Nat, (n : Int) - 1 - (t : Int) = (j : Int) := ⟨n - 1 - t, by omega⟩
        have hj2 : j = n - 1 - t := by omega
        rw [hj]
        have c0 : decide ((0 : Int) ≤ (j : Int)) = true := by simp
        have hj0 : (0 : Int) ≤ (j : Int) := by omega
        have hj1 : (j : Int) + 1 ≤ 64 := by omega
        have RL := Lib.hid (tpRelease_any sa g n n (q + 1) j (-1) _ _ wr (by omega) BX.out)
        have HM := Lib.hid hj
        have HJ2 := Lib.hid hj2
        clear hj hj2
        go_wp2_with fail
        refine RL.out.mono ?_
        rintro e w9 ⟨rfl, hbx, hgp⟩
        rw [HJ2.out, mdT_step hlt, ← HJ2.out] at hbx
        have HF := Lib.hid (show Fr w w9 q [.cells #[.slice none 0 0, .int .i64 0, .int .i64 0] 24] from FR.out.gp hgp (by simp only [List.length_cons, List.length_nil]; omega) (by simp only [List.length_cons, List.length_nil]; omega))
        have hmn : mdFr n (t + 1) = (j : Int) := by unfold mdFr; have := HJ2.out; rw [if_neg (by omega)]; omega
        rw [← hmn] at hbx
        have HX := Lib.hid hbx
        clear hbx hgp RL hmn BX FR
        go_wp2
        go_roundw
        case rel => exact ⟨t + 1, by have := HM.out; go_num, by omega, HF.out, HX.out⟩
        case measure =>
          simp only [intOf]; try omega
      · have en : n = t := by omega
        subst en
        have c0 : decide ((0 : Int) ≤ (n : Int) - 1 - (n : Int)) = false := by simp; omega
        have Va := Lib.hid BX.out.box
        have OW := Lib.hid BX.out.own
        generalize hmf : mdFr n n = mf at *
        have c00 : wr.cell? ⟨q, 0, none⟩ = some (.slice none 0 0) := FR.out.cell 0 0 rfl rfl rfl
        have f00 : wr.frozen? ⟨q, 0, none⟩ = false := FR.out.frozen 0 0 rfl rfl
        have c01 : wr.cell? ⟨q, 1, none⟩ = some (.int .i64 0) := FR.out.cell 0 1 rfl rfl rfl
        have f01 : wr.frozen? ⟨q, 1, none⟩ = false := FR.out.frozen 0 1 rfl rfl
        have c02 : wr.cell? ⟨q, 2, none⟩ = some (.int .i64 0) := FR.out.cell 0 2 rfl rfl rfl
        have f02 : wr.frozen? ⟨q, 2, none⟩ = false := FR.out.frozen 0 2 rfl rfl
        have ca0 : wr.cell? ⟨sa, 0, none⟩ = some (.slice (some ⟨g, 0, none⟩) n n) := (blk_cell Va.out 0).trans rfl
        have fa0 : wr.frozen? ⟨sa, 0, none⟩ = false := blk_frozen Va.out 0
        have ca1 : wr.cell? ⟨sa, 1, none⟩ = some (.int .i64 (-1)) := (blk_cell Va.out 1).trans rfl
        have fa1 : wr.frozen? ⟨sa, 1, none⟩ = false := blk_frozen Va.out 1
        have ca2 : wr.cell? ⟨sa, 2, none⟩ = some (.int .i64 mf) := (blk_cell Va.out 2).trans rfl
        have fa2 : wr.frozen? ⟨sa, 2, none⟩ = false := blk_frozen Va.out 2
        go_wp2
        have FZ : Fr w (((wr.setCell ⟨q, 0, none⟩ (.slice (some ⟨g, 0, none⟩) n n)).setCell ⟨q, 1, none⟩ (.int .i64 (-1))).setCell ⟨q, 2, none⟩ (.int .i64 mf)) q [.cells #[.slice (some ⟨g, 0, none⟩) n n, .int .i64 (-1), .int .i64 mf] 24] := (((FR.out.set 0 0 rfl rfl (.slice (some ⟨g, 0, none⟩) n n)).set 0 1 rfl rfl (.int .i64 (-1))).set 0 2 rfl rfl (.int .i64 mf))
        refine bodyPost_ret (res_cs Try.results23 (by rfl) (FZ.load 0 rfl rfl Try.underlying24 (by kernel_rfl))) rfl ?_
        rw [HR.out]
        exact ⟨_, _, _, rfl, own_base (own_apart (own_apart (own_apart (OW.out) (k := q) (o := 0) (u := .slice (some ⟨g, 0, none⟩) n n) (by omega)) (k := q) (o := 1) (u := .int .i64 (-1)) (by omega)) (k := q) (o := 2) (u := .int .i64 mf) (by omega)) (by rw [hq]; omega), FZ.out⟩
end Go.Proofs.Ytfgfohomgomidaa
