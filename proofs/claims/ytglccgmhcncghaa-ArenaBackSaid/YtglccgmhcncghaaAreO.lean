/- What the program's own Make of layer 7 answers; no condition; and all of its contracts in the shapes that the walks want. -/
import Derived.Test.YtglccgmhcncghaaAreOE
import Derived.Test.YtglccgmhcncghaaAreH
namespace Go.Proofs.Ytglccgmhcncghaa
set_option linter.unusedVariables false
set_option linter.unusedSimpArgs false
open Go.RowKit

theorem recC_zero : ∀ n : Nat, recC (List.replicate n noRec) = List.replicate (n * 3) (Value.int .i64 0)
  | 0 => rfl
  | n + 1 => by rw [List.replicate_succ, recC, recC_zero n, show (n + 1) * 3 = n * 3 + 1 + 1 + 1 by omega, List.replicate_succ, List.replicate_succ, List.replicate_succ]; rfl
theorem made_zero (n : Nat) : (madeCells (Value.agg #[.int .i64 0, .int .i64 0, .int .i64 0]).cells (n * 3)).toList = recC (List.replicate n noRec) := by
  rw [recC_zero]
  apply List.ext_getElem
  · simp [madeCells]
  · intro i h1 h2
    simp only [madeCells, Array.toList_map, Array.toList_range, List.getElem_map, List.getElem_range, List.getElem_replicate]
    rcases (by omega : i % 3 = 0 ∨ i % 3 = 1 ∨ i % 3 = 2) with h | h | h <;> simp [Value.cells, h]
/-- the records so far. -/
def partMade (n t : Nat) : List Rec3 := List.replicate (n - t) noRec ++ made n t
theorem made_len (n t : Nat) : (made n t).length = t := freshL_len _ _
theorem partMade_step {n t : Nat} (h : t < n) : (partMade n t).set (n - 1 - t) (-1, -1, madeFr n t) = partMade n (t + 1) := by
  unfold partMade
  rw [made_step h, show n - t = (n - (t + 1)) + 1 by omega, List.replicate_succ', List.append_assoc, List.set_append_right _ _ (by simp; omega)]
  simp only [List.length_replicate]
  rw [show n - 1 - t - (n - (t + 1)) = 0 by omega]
  rfl
theorem partMade_end (n : Nat) : partMade n n = made n n := by unfold partMade; rw [Nat.sub_self]; rfl
set_option maxRecDepth 100000 in
set_option maxHeartbeats 4000000 in
theorem arnMake_all (n : Int) (w : World) (n0 : -9223372036854775808 ≤ n) (n1 : n ≤ 9223372036854775807) :
    Calls Try.prog 21 #[.int .i64 n] w (GiveAll w (arMake n)) := by
  obtain ⟨i5, hi5, hz0, hz1, hz2⟩ := info_of infoRec
  obtain ⟨v1, hv1⟩ : ∃ W, w.alloc (.cells #[.slice none 0 0, .int .i64 0] 24) = W := ⟨_, rfl⟩
  have fr1 : Fr w v1 w.heap.size [.cells #[.slice none 0 0, .int .i64 0] 24] := hv1 ▸ Fr.first w _
  have z1 : v1.heap.size = w.heap.size + 1 := by rw [← hv1, Fr.size1]
  generalize hq : w.heap.size = q at *
  have FR := Lib.hid fr1
  clear fr1
  by_cases h : n < 0 ∨ 64 < n
  · have R : arMake n = (([], 0), 1) := by unfold arMake; rw [if_pos h]
    rw [R]
    clear R n0 n1 hi5 hz0 hz1 hz2
    by_cases h0 : n < 0
    · have b0 : decide (n < 0) = true := by simpa using h0
      clear h h0
      have c00 : v1.cell? ⟨q, 0, none⟩ = some (.slice none 0 0) := FR.out.cell 0 0 rfl rfl rfl
      have f00 : v1.frozen? ⟨q, 0, none⟩ = false := FR.out.frozen 0 0 rfl rfl
      have c01 : v1.cell? ⟨q, 1, none⟩ = some (.int .i64 0) := FR.out.cell 0 1 rfl rfl rfl
      have f01 : v1.frozen? ⟨q, 1, none⟩ = false := FR.out.frozen 0 1 rfl rfl
      go_enter Try.func21, Try.ntmps21
      go_wp2
      have FZ : Fr w ((v1.setCell ⟨q, 0, none⟩ (.slice none 0 0)).setCell ⟨q, 1, none⟩ (.int .i64 0)) q [.cells #[.slice none 0 0, .int .i64 0] 24] := ((FR.out.set 0 0 rfl rfl (.slice none 0 0)).set 0 1 rfl rfl (.int .i64 0))
      refine bodyPost_ret (res_cs Try.results21 (by rfl) (FZ.load 0 rfl rfl Try.underlying24 (by kernel_rfl))) rfl ?_
      exact ⟨none, 0, 0, rfl, World.ownsRow_nil _ _ _ _, FZ.out⟩
    · have b0 : decide (n < 0) = false := by simpa using h0
      have b1 : decide (64 < n) = true := by simp; omega
      clear h h0
      have c00 : v1.cell? ⟨q, 0, none⟩ = some (.slice none 0 0) := FR.out.cell 0 0 rfl rfl rfl
      have f00 : v1.frozen? ⟨q, 0, none⟩ = false := FR.out.frozen 0 0 rfl rfl
      have c01 : v1.cell? ⟨q, 1, none⟩ = some (.int .i64 0) := FR.out.cell 0 1 rfl rfl rfl
      have f01 : v1.frozen? ⟨q, 1, none⟩ = false := FR.out.frozen 0 1 rfl rfl
      go_enter Try.func21, Try.ntmps21
      go_wp2
      have FZ : Fr w ((v1.setCell ⟨q, 0, none⟩ (.slice none 0 0)).setCell ⟨q, 1, none⟩ (.int .i64 0)) q [.cells #[.slice none 0 0, .int .i64 0] 24] := ((FR.out.set 0 0 rfl rfl (.slice none 0 0)).set 0 1 rfl rfl (.int .i64 0))
      refine bodyPost_ret (res_cs Try.results21 (by rfl) (FZ.load 0 rfl rfl Try.underlying24 (by kernel_rfl))) rfl ?_
      exact ⟨none, 0, 0, rfl, World.ownsRow_nil _ _ _ _, FZ.out⟩
  · obtain ⟨n, rfl⟩ : ∃ k : Nat, n = k := ⟨n.toNat, by omega⟩
    have hn : n ≤ 64 := by omega
    have b0 : decide ((n : Int) < 0) = false := by simp
    have b1 : decide ((64 : Int) < (n : Int)) = false := by simp; omega
    have R : arMake n = ((made n n, madeFr n n), 0) := by
          unfold arMake made madeFr
          rw [if_neg (by omega), Int.toNat_natCast, Nat.sub_self]
          by_cases hz : n = 0
          · subst hz; rfl
          · rw [if_neg (by omega), if_neg hz]; rfl
    have HR := Lib.hid R
    clear R h n0 n1
    obtain ⟨w2, hmk, hown, hgr⟩ := run_make_full (P := Try.prog) v1 (q + 1) 22 47 i5 _ 3 Try.underlying22 hi5 hz0 hz1 .i64 .i64 n (by rw [hz2]; omega) (by unfold maxLen; omega) (by omega)
    rw [made_zero] at hown
    have hb : Below v1.heap.size v1 w2 := (Below.refl _ _).grown hgr (Nat.le_refl _) (by simp)
    replace FR := Lib.hid (FR.out.step hb)
    have hgs : ∃ g, v1.heap.size = g := ⟨_, rfl⟩
    obtain ⟨g, hgs⟩ := hgs
    rw [hgs] at hmk hown
    have OW := Lib.hid (show w2.ownsRow (q + 1) 47 3 (.slice (some ⟨g, 0, none⟩) n n) n (recC (partMade n 0)) from by unfold partMade made; simpa [freshL] using hown)
    have hglt := (OW.out.lt g (by simp [Value.ownBlock])).2
    have hgq := (OW.out.lt g (by simp [Value.ownBlock])).1
    clear hown hgr hb hi5 hz0 hz1 hz2
    have gea := FR.out.sz
    simp only [List.length_cons, List.length_nil] at gea
    obtain ⟨w3, hw3⟩ : ∃ W, w2.alloc (.cells #[.slice (some ⟨g, 0, none⟩) n n, .int .i64 (-1)] 24) = W := ⟨_, rfl⟩
    have hb : Below w2.heap.size w2 w3 := hw3 ▸ (Below.refl _ _).alloc (Nat.le_refl _) _
    have hv : w3.heap[w2.heap.size]? = some (.cells #[.slice (some ⟨g, 0, none⟩) n n, .int .i64 (-1)] 24) := hw3 ▸ heap_alloc_new _ _
    replace FR := Lib.hid (FR.out.step hb)
    replace OW := Lib.hid (own_below OW.out hb)
    have Va := Lib.hid hv
    generalize hsa : w2.heap.size = sa at *
    clear hb hv
    have c00 : w3.cell? ⟨q, 0, none⟩ = some (.slice none 0 0) := FR.out.cell 0 0 rfl rfl rfl
    have f00 : w3.frozen? ⟨q, 0, none⟩ = false := FR.out.frozen 0 0 rfl rfl
    have c01 : w3.cell? ⟨q, 1, none⟩ = some (.int .i64 0) := FR.out.cell 0 1 rfl rfl rfl
    have f01 : w3.frozen? ⟨q, 1, none⟩ = false := FR.out.frozen 0 1 rfl rfl
    have ca0 : w3.cell? ⟨sa, 0, none⟩ = some (.slice (some ⟨g, 0, none⟩) n n) := (blk_cell Va.out 0).trans rfl
    have fa0 : w3.frozen? ⟨sa, 0, none⟩ = false := blk_frozen Va.out 0
    have ca1 : w3.cell? ⟨sa, 1, none⟩ = some (.int .i64 (-1)) := (blk_cell Va.out 1).trans rfl
    have fa1 : w3.frozen? ⟨sa, 1, none⟩ = false := blk_frozen Va.out 1
    go_enter Try.func21, Try.ntmps21
    go_wp2
    clear c00 f00 c01 f01 ca0 fa0 ca1 fa1
    clear hmk hv1 z1 hw3
    go_loopw [5] (fun iv wr => ∃ t : Nat, iv = .int .i64 ((n : Int) - 1 - (t : Int)) ∧ t ≤ n ∧ Hid (Fr w wr q [.cells #[.slice none 0 0, .int .i64 0] 24]) ∧ Hid (wr.heap[sa]? = some (.cells #[.slice (some ⟨g, 0, none⟩) n n, .int .i64 (madeFr n t)] 24)) ∧ Hid (wr.ownsRow (q + 1) 47 3 (.slice (some ⟨g, 0, none⟩) n n) n (recC (partMade n t)))) (fun iv _ => (intOf iv + 1).toNat)
    case atStart => exact ⟨0, by simp, by omega, FR.out, Va.out, OW.out⟩
    case round =>
      clear FR Va OW
      obtain ⟨t, rfl, ht, FR, Va, OW⟩ := hrel
      by_cases hlt : t < n
      · obtain ⟨j, hj⟩ : ∃ j : Nat, (n : Int) - 1 - (t : Int) = (j : Int) := ⟨n - 1 - t, by omega⟩
        have hj2 : j = n - 1 - t := by omega
        rw [hj]
        have c0 : decide ((0 : Int) ≤ (j : Int)) = true := by simp
        have hj0 : (0 : Int) ≤ (j : Int) := by omega
        have hj1 : (j : Int) + 1 ≤ 64 := by omega
        have RL := Lib.hid (arnRelease_any sa g n n j (q + 1) _ _ wr Va.out OW.out (by omega) (by omega))
        have HM := Lib.hid hj
        have HJ2 := Lib.hid hj2
        clear hj hj2
        generalize hmf : madeFr n t = mf at *
        go_wp2_with fail
        refine RL.out.mono ?_
        rintro e w9 hrel
        have hret := hrel.1
        subst hret
        have OW2 := hrel.own OW.out (by have := HJ2.out; omega) (by omega)
        rw [← hmf, HJ2.out, partMade_step hlt] at OW2
        have HO := Lib.hid OW2
        have HF := Lib.hid (show Fr w w9 q [.cells #[.slice none 0 0, .int .i64 0] 24] from hrel.fr0 FR.out (by simp only [List.length_cons, List.length_nil]; omega) (by simp only [List.length_cons, List.length_nil]; omega))
        have HV := Lib.hid (hrel.box Va.out (by omega))
        have hmn : madeFr n (t + 1) = (j : Int) := by unfold madeFr; have := HJ2.out; rw [if_neg (by omega)]; omega
        rw [← hmn] at HV
        clear hrel RL OW2 hmn OW FR Va hmf
        go_wp2
        go_roundw
        case rel => exact ⟨t + 1, by have := HM.out; go_num, by omega, HF.out, HV.out, HO.out⟩
        case measure =>
          simp only [intOf]; try omega
      · have en : n = t := by omega
        subst en
        have c0 : decide ((0 : Int) ≤ (n : Int) - 1 - (n : Int)) = false := by simp; omega
        rw [partMade_end] at OW
        generalize hmf : madeFr n n = mf at *
        have c00 : wr.cell? ⟨q, 0, none⟩ = some (.slice none 0 0) := FR.out.cell 0 0 rfl rfl rfl
        have f00 : wr.frozen? ⟨q, 0, none⟩ = false := FR.out.frozen 0 0 rfl rfl
        have c01 : wr.cell? ⟨q, 1, none⟩ = some (.int .i64 0) := FR.out.cell 0 1 rfl rfl rfl
        have f01 : wr.frozen? ⟨q, 1, none⟩ = false := FR.out.frozen 0 1 rfl rfl
        have ca0 : wr.cell? ⟨sa, 0, none⟩ = some (.slice (some ⟨g, 0, none⟩) n n) := (blk_cell Va.out 0).trans rfl
        have fa0 : wr.frozen? ⟨sa, 0, none⟩ = false := blk_frozen Va.out 0
        have ca1 : wr.cell? ⟨sa, 1, none⟩ = some (.int .i64 mf) := (blk_cell Va.out 1).trans rfl
        have fa1 : wr.frozen? ⟨sa, 1, none⟩ = false := blk_frozen Va.out 1
        go_wp2
        have FZ : Fr w ((wr.setCell ⟨q, 0, none⟩ (.slice (some ⟨g, 0, none⟩) n n)).setCell ⟨q, 1, none⟩ (.int .i64 mf)) q [.cells #[.slice (some ⟨g, 0, none⟩) n n, .int .i64 mf] 24] := ((FR.out.set 0 0 rfl rfl (.slice (some ⟨g, 0, none⟩) n n)).set 0 1 rfl rfl (.int .i64 mf))
        refine bodyPost_ret (res_cs Try.results21 (by rfl) (FZ.load 0 rfl rfl Try.underlying24 (by kernel_rfl))) rfl ?_
        rw [HR.out]
        exact ⟨_, _, _, rfl, own_base (own_apart (own_apart (OW.out) (k := q) (o := 0) (u := .slice (some ⟨g, 0, none⟩) n n) (by omega)) (k := q) (o := 1) (u := .int .i64 mf) (by omega)) (by rw [hq]; omega), FZ.out⟩
theorem arnTake_own (A : Option Addr) (n c : Nat) (rs : List Rec3) (fr key task : Int) (w : World) (hx : Rs w A n c rs) (hn : n ≤ 16384) :
    Calls Try.prog 9 #[.agg #[.slice A n c, .int .i64 fr], .int .i64 key, .int .i64 task] w (TakeOwn w (arTake (rs, fr) key task)) := (arnTake_all A n c rs fr key task w hx hn).mono fun _ _ h => h.own
theorem arnTake_any (A : Option Addr) (n c : Nat) (rs : List Rec3) (fr key task : Int) (w : World) (hx : Rs w A n c rs) (hn : n ≤ 16384) :
    Calls Try.prog 9 #[.agg #[.slice A n c, .int .i64 fr], .int .i64 key, .int .i64 task] w (TakePost w (arTake (rs, fr) key task)) := (arnTake_all A n c rs fr key task w hx hn).mono fun _ _ h => h.post
theorem arnGive_own (A : Option Addr) (n c : Nat) (rs : List Rec3) (fr i : Int) (w : World) (hx : Rs w A n c rs) (hn : n ≤ 16384) :
    Calls Try.prog 11 #[.agg #[.slice A n c, .int .i64 fr], .int .i64 i] w (GiveOwn w (arGive (rs, fr) i)) := (arnGive_all A n c rs fr i w hx hn).mono fun _ _ h => h.own
theorem arnGive_any (A : Option Addr) (n c : Nat) (rs : List Rec3) (fr i : Int) (w : World) (hx : Rs w A n c rs) (hn : n ≤ 16384) :
    Calls Try.prog 11 #[.agg #[.slice A n c, .int .i64 fr], .int .i64 i] w (GivePost w (arGive (rs, fr) i)) := (arnGive_all A n c rs fr i w hx hn).mono fun _ _ h => h.post
theorem arnSet_own (A : Option Addr) (n c : Nat) (rs : List Rec3) (fr i next : Int) (w : World) (hx : Rs w A n c rs) (hn : n ≤ 16384) :
    Calls Try.prog 13 #[.agg #[.slice A n c, .int .i64 fr], .int .i64 i, .int .i64 next] w (GiveOwn w (arSet (rs, fr) i next)) := (arnSet_all A n c rs fr i next w hx hn).mono fun _ _ h => h.own
theorem arnSet_any (A : Option Addr) (n c : Nat) (rs : List Rec3) (fr i next : Int) (w : World) (hx : Rs w A n c rs) (hn : n ≤ 16384) :
    Calls Try.prog 13 #[.agg #[.slice A n c, .int .i64 fr], .int .i64 i, .int .i64 next] w (GivePost w (arSet (rs, fr) i next)) := (arnSet_all A n c rs fr i next w hx hn).mono fun _ _ h => h.post
theorem arnMake_any (n : Int) (w : World) (n0 : -9223372036854775808 ≤ n) (n1 : n ≤ 9223372036854775807) :
    Calls Try.prog 21 #[.int .i64 n] w (GivePost w (arMake n)) := (arnMake_all n w n0 n1).mono fun _ _ h => h.post
end Go.Proofs.Ytglccgmhcncghaa
