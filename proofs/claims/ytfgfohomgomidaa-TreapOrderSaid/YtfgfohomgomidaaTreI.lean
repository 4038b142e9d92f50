/- What the document's own Delete and Hang of layer 9 answer; for slices of up to 16384 nodes. -/
import Derived.Test.YtfgfohomgomidaaTreH
namespace Go.Proofs.Ytfgfohomgomidaa
set_option linter.unusedVariables false
set_option linter.unusedSimpArgs false
open Go.RowKit
set_option maxRecDepth 100000 in
set_option maxHeartbeats 8000000 in
theorem refDelete9_any (A : Option Addr) (n c : Nat) (ns : List Nd) (rt fr key : Int) (w : World) (hx : Ns w A n c ns) (hn : n ≤ 16384) :
    Calls Try.prog 12 #[.agg #[.slice A n c, .int .i64 rt, .int .i64 fr], .int .i64 key] w (TGot w A n c (delT (ns, rt, fr) key)) := by
  have hlen := hx.len
  have RX := Lib.hid hx
  have HL := Lib.hid hlen
  have RT := fun (W : World) (h : Ns W A n c ns) => refRight9_any A n c ns rt fr W h hn
  have PL := fun (W : World) (h : Ns W A n c ns) => refPlace9_any A n c ns rt fr key W h hn
  have CP := Lib.hid (fun (W : World) (h : Ns W A n c ns) => refCopy9_any A n c ns rt fr W h hn)
  obtain ⟨R, hR⟩ : ∃ R, delT (ns, rt, fr) key = R := ⟨_, rfl⟩
  rw [hR]
  have HR := Lib.hid hR
  clear hx hR hlen
  obtain ⟨v1, hv1⟩ : ∃ W, w.alloc (.cells #[.slice A n c, .int .i64 rt, .int .i64 fr] 24) = W := ⟨_, rfl⟩
  have fr1 : Fr w v1 w.heap.size [.cells #[.slice A n c, .int .i64 rt, .int .i64 fr] 24] := hv1 ▸ Fr.first w _
  have z1 : v1.heap.size = w.heap.size + 1 := by rw [← hv1, Fr.size1]
  obtain ⟨v2, hv2⟩ : ∃ W, v1.alloc (.cells #[.slice none 0 0, .int .i64 0, .int .i64 0] 24) = W := ⟨_, rfl⟩
  have fr2 : Fr w v2 w.heap.size [.cells #[.slice A n c, .int .i64 rt, .int .i64 fr] 24, .cells #[.slice none 0 0, .int .i64 0, .int .i64 0] 24] := hv2 ▸ fr1.more z1 _
  have z2 : v2.heap.size = w.heap.size + 2 := by rw [← hv2, Fr.size1, z1]
  generalize hq : w.heap.size = q at *
  have FR := Lib.hid fr2
  clear fr1 fr2
  obtain ⟨pl, hpl⟩ : ∃ pl, placeT ns key = pl := ⟨_, rfl⟩
  have hpi := @placeT_in ns key
  rw [hpl] at PL hpi
  replace PL : Hid (∀ W, Ns W A n c ns → Calls Try.prog 30 #[.agg #[.slice A n c, .int .i64 rt, .int .i64 fr], .int .i64 key] W (Num9 W pl)) := Lib.hid PL
  cases hr : rightT (ns, rt, fr)
  · rw [hr] at RT
    replace RT := Lib.hid RT
    have HE := Lib.hid (show R = ((ns, rt, fr), 1) by rw [← HR.out]; unfold delT; rw [if_pos hr])
    clear hr hpl hpi
    go_enter Try.func12, Try.ntmps12
    have c00 : v2.cell? ⟨q, 0, none⟩ = some (.slice A n c) := FR.out.cell 0 0 rfl rfl rfl
    have c01 : v2.cell? ⟨q, 1, none⟩ = some (.int .i64 rt) := FR.out.cell 0 1 rfl rfl rfl
    have c02 : v2.cell? ⟨q, 2, none⟩ = some (.int .i64 fr) := FR.out.cell 0 2 rfl rfl rfl
    have c10 : v2.cell? ⟨q + 1, 0, none⟩ = some (.slice none 0 0) := FR.out.cell 1 0 rfl rfl rfl
    have c11 : v2.cell? ⟨q + 1, 1, none⟩ = some (.int .i64 0) := FR.out.cell 1 1 rfl rfl rfl
    have c12 : v2.cell? ⟨q + 1, 2, none⟩ = some (.int .i64 0) := FR.out.cell 1 2 rfl rfl rfl
    go_wp2_with fail
    refine ((PL.out _ (FR.out.es RX.out))).mono ?_
    rintro e w3 ⟨rfl, hb⟩
    clear c00 c01 c02 c10 c11 c12
    replace FR := Lib.hid (FR.out.step hb)
    clear hb
    have c00 : w3.cell? ⟨q, 0, none⟩ = some (.slice A n c) := FR.out.cell 0 0 rfl rfl rfl
    have c01 : w3.cell? ⟨q, 1, none⟩ = some (.int .i64 rt) := FR.out.cell 0 1 rfl rfl rfl
    have c02 : w3.cell? ⟨q, 2, none⟩ = some (.int .i64 fr) := FR.out.cell 0 2 rfl rfl rfl
    have c10 : w3.cell? ⟨q + 1, 0, none⟩ = some (.slice none 0 0) := FR.out.cell 1 0 rfl rfl rfl
    have c11 : w3.cell? ⟨q + 1, 1, none⟩ = some (.int .i64 0) := FR.out.cell 1 1 rfl rfl rfl
    have c12 : w3.cell? ⟨q + 1, 2, none⟩ = some (.int .i64 0) := FR.out.cell 1 2 rfl rfl rfl
    go_wp2_with fail
    refine ((RT.out _ (FR.out.es RX.out))).mono ?_
    rintro e w4 ⟨rfl, hb⟩
    clear c00 c01 c02 c10 c11 c12
    replace FR := Lib.hid (FR.out.step hb)
    clear hb
    have c00 : w4.cell? ⟨q, 0, none⟩ = some (.slice A n c) := FR.out.cell 0 0 rfl rfl rfl
    have c01 : w4.cell? ⟨q, 1, none⟩ = some (.int .i64 rt) := FR.out.cell 0 1 rfl rfl rfl
    have c02 : w4.cell? ⟨q, 2, none⟩ = some (.int .i64 fr) := FR.out.cell 0 2 rfl rfl rfl
    have c10 : w4.cell? ⟨q + 1, 0, none⟩ = some (.slice none 0 0) := FR.out.cell 1 0 rfl rfl rfl
    have f10 : w4.frozen? ⟨q + 1, 0, none⟩ = false := FR.out.frozen 1 0 rfl rfl
    have c11 : w4.cell? ⟨q + 1, 1, none⟩ = some (.int .i64 0) := FR.out.cell 1 1 rfl rfl rfl
    have f11 : w4.frozen? ⟨q + 1, 1, none⟩ = false := FR.out.frozen 1 1 rfl rfl
    have c12 : w4.cell? ⟨q + 1, 2, none⟩ = some (.int .i64 0) := FR.out.cell 1 2 rfl rfl rfl
    have f12 : w4.frozen? ⟨q + 1, 2, none⟩ = false := FR.out.frozen 1 2 rfl rfl
    go_wp2
    have FZ : Fr w (((w4.setCell ⟨q + 1, 0, none⟩ (.slice A n c)).setCell ⟨q + 1, 1, none⟩ (.int .i64 rt)).setCell ⟨q + 1, 2, none⟩ (.int .i64 fr)) q [.cells #[.slice A n c, .int .i64 rt, .int .i64 fr] 24, .cells #[.slice A n c, .int .i64 rt, .int .i64 fr] 24] := (((FR.out.set 1 0 rfl rfl (.slice A n c)).set 1 1 rfl rfl (.int .i64 rt)).set 1 2 rfl rfl (.int .i64 fr))
    refine bodyPost_ret (res_cs Try.results12 (by rfl) (FZ.load 1 rfl rfl Try.underlying24 (by kernel_rfl))) rfl ?_
    rw [HE.out]
    exact ⟨_, _, _, rfl, FZ.es RX.out, FZ.out, Or.inr rfl⟩
  · rw [hr] at RT
    replace RT := Lib.hid RT
    have hE : R = if pl < 0 then ((ns, rt, fr), 7) else if ((ndAt ns pl).h, (ndAt ns pl).t) ≠ (-1, -1) then ((ns, rt, fr), 8) else (laidP (takeOut (ns, rt, fr) pl), 0) := by rw [← HR.out, ← hpl]; unfold delT; exact if_neg (by rw [hr]; simp)
    clear hr hpl
    by_cases hp : pl < 0
    · have b1 : decide (pl < 0) = true := by simpa using hp
      have HE := Lib.hid (show R = ((ns, rt, fr), 7) by rw [hE, if_pos hp])
      clear hE hp hpi
      go_enter Try.func12, Try.ntmps12
      have c00 : v2.cell? ⟨q, 0, none⟩ = some (.slice A n c) := FR.out.cell 0 0 rfl rfl rfl
      have c01 : v2.cell? ⟨q, 1, none⟩ = some (.int .i64 rt) := FR.out.cell 0 1 rfl rfl rfl
      have c02 : v2.cell? ⟨q, 2, none⟩ = some (.int .i64 fr) := FR.out.cell 0 2 rfl rfl rfl
      have c10 : v2.cell? ⟨q + 1, 0, none⟩ = some (.slice none 0 0) := FR.out.cell 1 0 rfl rfl rfl
      have c11 : v2.cell? ⟨q + 1, 1, none⟩ = some (.int .i64 0) := FR.out.cell 1 1 rfl rfl rfl
      have c12 : v2.cell? ⟨q + 1, 2, none⟩ = some (.int .i64 0) := FR.out.cell 1 2 rfl rfl rfl
      go_wp2_with fail
      refine ((PL.out _ (FR.out.es RX.out))).mono ?_
      rintro e w3 ⟨rfl, hb⟩
      clear c00 c01 c02 c10 c11 c12
      replace FR := Lib.hid (FR.out.step hb)
      clear hb
      have c00 : w3.cell? ⟨q, 0, none⟩ = some (.slice A n c) := FR.out.cell 0 0 rfl rfl rfl
      have c01 : w3.cell? ⟨q, 1, none⟩ = some (.int .i64 rt) := FR.out.cell 0 1 rfl rfl rfl
      have c02 : w3.cell? ⟨q, 2, none⟩ = some (.int .i64 fr) := FR.out.cell 0 2 rfl rfl rfl
      have c10 : w3.cell? ⟨q + 1, 0, none⟩ = some (.slice none 0 0) := FR.out.cell 1 0 rfl rfl rfl
      have c11 : w3.cell? ⟨q + 1, 1, none⟩ = some (.int .i64 0) := FR.out.cell 1 1 rfl rfl rfl
      have c12 : w3.cell? ⟨q + 1, 2, none⟩ = some (.int .i64 0) := FR.out.cell 1 2 rfl rfl rfl
      go_wp2_with fail
      refine ((RT.out _ (FR.out.es RX.out))).mono ?_
      rintro e w4 ⟨rfl, hb⟩
      clear c00 c01 c02 c10 c11 c12
      replace FR := Lib.hid (FR.out.step hb)
      clear hb
      have c00 : w4.cell? ⟨q, 0, none⟩ = some (.slice A n c) := FR.out.cell 0 0 rfl rfl rfl
      have c01 : w4.cell? ⟨q, 1, none⟩ = some (.int .i64 rt) := FR.out.cell 0 1 rfl rfl rfl
      have c02 : w4.cell? ⟨q, 2, none⟩ = some (.int .i64 fr) := FR.out.cell 0 2 rfl rfl rfl
      have c10 : w4.cell? ⟨q + 1, 0, none⟩ = some (.slice none 0 0) := FR.out.cell 1 0 rfl rfl rfl
      have f10 : w4.frozen? ⟨q + 1, 0, none⟩ = false := FR.out.frozen 1 0 rfl rfl
      have c11 : w4.cell? ⟨q + 1, 1, none⟩ = some (.int .i64 0) := FR.out.cell 1 1 rfl rfl rfl
      have f11 : w4.frozen? ⟨q + 1, 1, none⟩ = false := FR.out.frozen 1 1 rfl rfl
      have c12 : w4.cell? ⟨q + 1, 2, none⟩ = some (.int .i64 0) := FR.out.cell 1 2 rfl rfl rfl
      have f12 : w4.frozen? ⟨q + 1, 2, none⟩ = false := FR.out.frozen 1 2 rfl rfl
      go_wp2
      have FZ : Fr w (((w4.setCell ⟨q + 1, 0, none⟩ (.slice A n c)).setCell ⟨q + 1, 1, none⟩ (.int .i64 rt)).setCell ⟨q + 1, 2, none⟩ (.int .i64 fr)) q [.cells #[.slice A n c, .int .i64 rt, .int .i64 fr] 24, .cells #[.slice A n c, .int .i64 rt, .int .i64 fr] 24] := (((FR.out.set 1 0 rfl rfl (.slice A n c)).set 1 1 rfl rfl (.int .i64 rt)).set 1 2 rfl rfl (.int .i64 fr))
      refine bodyPost_ret (res_cs Try.results12 (by rfl) (FZ.load 1 rfl rfl Try.underlying24 (by kernel_rfl))) rfl ?_
      rw [HE.out]
      exact ⟨_, _, _, rfl, FZ.es RX.out, FZ.out, Or.inr rfl⟩
    · rw [if_neg hp] at hE
      have hpb := hpi (by omega)
      rw [HL.out] at hpb
      obtain ⟨i, rfl⟩ : ∃ i : Nat, pl = i := ⟨pl.toNat, by omega⟩
      have b1 : decide ((i : Int) < 0) = false := by simp
      have i0 : (0 : Int) ≤ (i : Int) := by omega
      have i1 : (i : Int) < (n : Int) := hpb
      clear hp hpi hpb
      obtain ⟨b, off, rfl, hbq, _, _, _, _, k4, k5⟩ := Ns.look (ns := ns) RX.out i (by omega)
      have K4 := Lib.hid k4; have K5 := Lib.hid k5
      clear k4 k5
      have hqn := queue_neq (ndAt ns (i : Int)).h (ndAt ns (i : Int)).t (-1) (-1)
      by_cases hqq : ((ndAt ns (i : Int)).h, (ndAt ns (i : Int)).t) = (-1, -1)
      · rw [decide_eq_false (fun h => h hqq)] at hqn
        have LP := fun (B : Option Addr) (d : Nat) (W : World) (h : Ns W B n d (ns.set i (empN fr))) => refLaid9_any B n d (ns.set i (empN fr)) rt (i : Int) W h hn
        have hE2 : R = (laidP (ns.set i (empN fr), rt, (i : Int)), 0) := by rw [hE, if_neg (fun h => h hqq)]; rfl
        obtain ⟨n1, r1, f1, hLP⟩ : ∃ n1 r1 f1, laidP (ns.set i (empN fr), rt, (i : Int)) = (n1, r1, f1) := ⟨_, _, _, rfl⟩
        rw [hLP] at LP hE2
        replace LP := Lib.hid LP
        have HE := Lib.hid hE2
        clear hE hE2 hLP hqq
        obtain ⟨qh, hqh⟩ : ∃ x, (ndAt ns (i : Int)).h = x := ⟨_, rfl⟩
        obtain ⟨qt, hqt⟩ : ∃ x, (ndAt ns (i : Int)).t = x := ⟨_, rfl⟩
        rw [hqh] at K4 hqn
        rw [hqt] at K5 hqn
        clear hqh hqt
        go_enter Try.func12, Try.ntmps12
        have c00 : v2.cell? ⟨q, 0, none⟩ = some (.slice (some ⟨b, off, none⟩) n c) := FR.out.cell 0 0 rfl rfl rfl
        have c01 : v2.cell? ⟨q, 1, none⟩ = some (.int .i64 rt) := FR.out.cell 0 1 rfl rfl rfl
        have c02 : v2.cell? ⟨q, 2, none⟩ = some (.int .i64 fr) := FR.out.cell 0 2 rfl rfl rfl
        have c10 : v2.cell? ⟨q + 1, 0, none⟩ = some (.slice none 0 0) := FR.out.cell 1 0 rfl rfl rfl
        have c11 : v2.cell? ⟨q + 1, 1, none⟩ = some (.int .i64 0) := FR.out.cell 1 1 rfl rfl rfl
        have c12 : v2.cell? ⟨q + 1, 2, none⟩ = some (.int .i64 0) := FR.out.cell 1 2 rfl rfl rfl
        go_wp2_with fail
        refine ((PL.out _ (FR.out.es RX.out))).mono ?_
        rintro e w3 ⟨rfl, hb⟩
        clear c00 c01 c02 c10 c11 c12
        replace FR := Lib.hid (FR.out.step hb)
        clear hb
        have c00 : w3.cell? ⟨q, 0, none⟩ = some (.slice (some ⟨b, off, none⟩) n c) := FR.out.cell 0 0 rfl rfl rfl
        have c01 : w3.cell? ⟨q, 1, none⟩ = some (.int .i64 rt) := FR.out.cell 0 1 rfl rfl rfl
        have c02 : w3.cell? ⟨q, 2, none⟩ = some (.int .i64 fr) := FR.out.cell 0 2 rfl rfl rfl
        have c10 : w3.cell? ⟨q + 1, 0, none⟩ = some (.slice none 0 0) := FR.out.cell 1 0 rfl rfl rfl
        have c11 : w3.cell? ⟨q + 1, 1, none⟩ = some (.int .i64 0) := FR.out.cell 1 1 rfl rfl rfl
        have c12 : w3.cell? ⟨q + 1, 2, none⟩ = some (.int .i64 0) := FR.out.cell 1 2 rfl rfl rfl
        go_wp2_with fail
        refine ((RT.out _ (FR.out.es RX.out))).mono ?_
        rintro e w4 ⟨rfl, hb⟩
        clear c00 c01 c02 c10 c11 c12
        replace FR := Lib.hid (FR.out.step hb)
        clear hb
        have k4 := (FR.out.out.cell (p := ⟨b, off + i * 6 + 4, none⟩) hbq).trans K4.out
        have k5 := (FR.out.out.cell (p := ⟨b, off + i * 6 + 5, none⟩) hbq).trans K5.out
        have FR0 := FR.out.sz
        simp only [List.length_cons, List.length_nil] at FR0
        have c00 : w4.cell? ⟨q, 0, none⟩ = some (.slice (some ⟨b, off, none⟩) n c) := FR.out.cell 0 0 rfl rfl rfl
        have c01 : w4.cell? ⟨q, 1, none⟩ = some (.int .i64 rt) := FR.out.cell 0 1 rfl rfl rfl
        have c02 : w4.cell? ⟨q, 2, none⟩ = some (.int .i64 fr) := FR.out.cell 0 2 rfl rfl rfl
        have c10 : w4.cell? ⟨q + 1, 0, none⟩ = some (.slice none 0 0) := FR.out.cell 1 0 rfl rfl rfl
        have c11 : w4.cell? ⟨q + 1, 1, none⟩ = some (.int .i64 0) := FR.out.cell 1 1 rfl rfl rfl
        have c12 : w4.cell? ⟨q + 1, 2, none⟩ = some (.int .i64 0) := FR.out.cell 1 2 rfl rfl rfl
        go_wp2_with fail
        refine ((CP.out _ (FR.out.es RX.out))).mono ?_
        rintro e w5 ⟨B, d, rfl, hown, hb⟩
        clear c00 c01 c02 c10 c11 c12
        replace FR := Lib.hid (FR.out.step hb)
        clear hb
        have OW := Lib.hid (own_base hown FR0)
        obtain ⟨gg, rfl⟩ := own_some9 OW.out (by omega)
        clear hown FR0 hv1 hv2 z1 z2 k4 k5 hqn
        have gex := FR.out.sz
        simp only [List.length_cons, List.length_nil] at gex
        obtain ⟨w6, hw6⟩ : ∃ W, w5.alloc (.cells #[.slice (some ⟨gg, 0, none⟩) n d, .int .i64 rt, .int .i64 fr] 24) = W := ⟨_, rfl⟩
        have hb : Below w5.heap.size w5 w6 := hw6 ▸ (Below.refl _ _).alloc (Nat.le_refl _) _
        have hv : w6.heap[w5.heap.size]? = some (.cells #[.slice (some ⟨gg, 0, none⟩) n d, .int .i64 rt, .int .i64 fr] 24) := hw6 ▸ heap_alloc_new _ _
        replace FR := Lib.hid (FR.out.step hb)
        replace OW := Lib.hid (own_below OW.out hb)
        have Vx := Lib.hid hv
        generalize hsx : w5.heap.size = sx at *
        clear hb hv
        have c00 : w6.cell? ⟨q, 0, none⟩ = some (.slice (some ⟨b, off, none⟩) n c) := FR.out.cell 0 0 rfl rfl rfl
        have c01 : w6.cell? ⟨q, 1, none⟩ = some (.int .i64 rt) := FR.out.cell 0 1 rfl rfl rfl
        have c02 : w6.cell? ⟨q, 2, none⟩ = some (.int .i64 fr) := FR.out.cell 0 2 rfl rfl rfl
        have cx0 : w6.cell? ⟨sx, 0, none⟩ = some (.slice (some ⟨gg, 0, none⟩) n d) := (blk_cell Vx.out 0).trans rfl
        have cx1 : w6.cell? ⟨sx, 1, none⟩ = some (.int .i64 rt) := (blk_cell Vx.out 1).trans rfl
        have cx2 : w6.cell? ⟨sx, 2, none⟩ = some (.int .i64 fr) := (blk_cell Vx.out 2).trans rfl
        have hox := own_ne OW.out Vx.out (by decide)
        have hgg := (OW.out.lt gg (by simp [Value.ownBlock])).1
        have hxg : sx ≠ gg := fun e => hox (by rw [e]; rfl)
        have hqz := blk_lt Vx.out
        have hq0 : q < w6.heap.size := by have := FR.out.sz; simp only [List.length_cons, List.length_nil] at this; omega
        go_wp2
        refine wp_region_noPanic ?_
        refine wp_region_held_drew (S := (fun wv => Hid (wv.cell? ⟨sx, 0, none⟩ = some (.slice (some ⟨gg, 0, none⟩) n d) ∧ wv.cell? ⟨q, 2, none⟩ = some (.int .i64 fr)))) (by kernel_rfl) (Lib.hid ⟨cx0, c02⟩) (fun hS => ?_)
        refine wpAnyH_take (i := 0) (oi := ⟨some 32, .fieldAddr 24 (.tmp 7) 0, 0, "ref.go:192", #[], none⟩) (v := ?_) rfl (by kernel_rfl) (by kernel_rfl) (by kernel_rfl) (fun _ _ _ h => h) (Or.inl ⟨by rfl, ?_⟩) hS ?_
        rotate_left
        · intro wv _; go_simp; try with_reducible rfl
        try simp only [Act.put, List.setIfInBounds_toArray, List.set_cons_zero, List.set_cons_succ]
        refine wpAnyH_take (i := 1) (oi := ⟨some 33, .load 22 (.tmp 32), 22, "ref.go:192", #[⟨0, .data⟩], none⟩) (v := ?_) rfl (by kernel_rfl) (by kernel_rfl) (by kernel_rfl) (fun _ _ _ h => h) (Or.inl ⟨by rfl, ?_⟩) hS ?_
        rotate_left
        · intro wv hS; have hrun := hS.out.1; go_simp; try with_reducible rfl
        try simp only [Act.put, List.setIfInBounds_toArray, List.set_cons_zero, List.set_cons_succ]
        refine wpAnyH_take (i := 2) (oi := ⟨some 34, .move (.tmp 6), 3, "ref.go:192", #[], none⟩) (v := ?_) rfl (by kernel_rfl) (by kernel_rfl) (by kernel_rfl) (fun _ _ _ h => h) (Or.inl ⟨by rfl, ?_⟩) hS ?_
        rotate_left
        · intro wv _; go_simp; try with_reducible rfl
        try simp only [Act.put, List.setIfInBounds_toArray, List.set_cons_zero, List.set_cons_succ]
        refine wpAnyH_take (i := 3) (oi := ⟨some 35, .fieldAddr 24 (.tmp 2) 2, 0, "ref.go:192", #[], none⟩) (v := ?_) rfl (by kernel_rfl) (by kernel_rfl) (by kernel_rfl) (fun _ _ _ h => h) (Or.inl ⟨by rfl, ?_⟩) hS ?_
        rotate_left
        · intro wv _; go_simp; try with_reducible rfl
        try simp only [Act.put, List.setIfInBounds_toArray, List.set_cons_zero, List.set_cons_succ]
        refine wpAnyH_take (i := 4) (oi := ⟨some 36, .load 3 (.tmp 35), 3, "ref.go:192", #[⟨3, .data⟩], none⟩) (v := ?_) rfl (by kernel_rfl) (by kernel_rfl) (by kernel_rfl) (fun _ _ _ h => h) (Or.inl ⟨by rfl, ?_⟩) hS ?_
        rotate_left
        · intro wv hS; have hrun := hS.out.2; go_simp; try with_reducible rfl
        try simp only [Act.put, List.setIfInBounds_toArray, List.set_cons_zero, List.set_cons_succ]
        refine wpAnyH_ready (rs := [5]) (by kernel_rfl) (by simp) (AllReadyH.cons (o := ⟨some 37, .call { callee := .value (.func 36), args := #[.tmp 36], argTypes := #[3] }, 52, "ref.go:192", #[⟨4, .data⟩], none⟩) rfl (fun K hK => ?_) AllReadyH.nil)
        go_simp
        refine (refEmpty_any fr _).mono ?_
        rintro e wa ⟨rfl, hb⟩
        replace FR := Lib.hid (FR.out.drew.step hb)
        replace Vx := Lib.hid (blk_below (show w6.drew.heap[sx]? = _ from Vx.out) hb (blk_lt Vx.out))
        replace OW := Lib.hid (own_below (own_below OW.out (Below.refl _ w6).drew) hb)
        clear hb
        clear c00 c01 c02 cx0 cx1 cx2
        replace hS := Lib.hid (And.intro ((blk_cell Vx.out 0).trans rfl) ((FR.out.cell 0 2 rfl rfl rfl)))
        obtain ⟨e0, e1, e2, e3, e4, e5⟩ := ndC_at ns i (by have := HL.out; omega)
        have g0 := (OW.out.cellAt (i * 6) (by omega)).trans e0
        have ff0 := OW.out.frozenAt (i * 6)
        have g1 := (OW.out.cellAt (i * 6 + 1) (by omega)).trans e1
        have ff1 := OW.out.frozenAt (i * 6 + 1)
        have g2 := (OW.out.cellAt (i * 6 + 2) (by omega)).trans e2
        have ff2 := OW.out.frozenAt (i * 6 + 2)
        have g3 := (OW.out.cellAt (i * 6 + 3) (by omega)).trans e3
        have ff3 := OW.out.frozenAt (i * 6 + 3)
        have g4 := (OW.out.cellAt (i * 6 + 4) (by omega)).trans e4
        have ff4 := OW.out.frozenAt (i * 6 + 4)
        have g5 := (OW.out.cellAt (i * 6 + 5) (by omega)).trans e5
        have ff5 := OW.out.frozenAt (i * 6 + 5)
        clear e0 e1 e2 e3 e4 e5
        go_wp2_with fail
        refine Shut.out hK _ _ hS (fun _ => ?_)
        clear hK K
        try simp only [Act.put, List.setIfInBounds_toArray, List.set_cons_zero, List.set_cons_succ]
        refine wpAnyH_take (i := 6) (oi := ⟨some 38, .indexAddr 22 (.tmp 33) (.tmp 34), 0, "ref.go:192", #[⟨1, .data⟩, ⟨2, .data⟩, ⟨0, .phase⟩, ⟨1, .phase⟩, ⟨2, .phase⟩, ⟨3, .phase⟩, ⟨4, .phase⟩, ⟨5, .phase⟩], none⟩) (v := ?_) rfl (by kernel_rfl) (by kernel_rfl) (by kernel_rfl) (fun _ _ _ h => h) (Or.inl ⟨by rfl, ?_⟩) hS ?_
        rotate_left
        · intro wv _; go_simp; try with_reducible rfl
        try simp only [Act.put, List.setIfInBounds_toArray, List.set_cons_zero, List.set_cons_succ]
        refine wpAnyH_ready (rs := [7]) (by kernel_rfl) (by simp) (AllReadyH.cons (o := ⟨none, .store 52 (.tmp 38) (.tmp 37), 0, "ref.go:192", #[⟨6, .data⟩, ⟨5, .data⟩, ⟨5, .chain⟩, ⟨0, .phase⟩, ⟨1, .phase⟩, ⟨2, .phase⟩, ⟨3, .phase⟩, ⟨4, .phase⟩, ⟨5, .phase⟩], none⟩) rfl (fun K hK => ?_) AllReadyH.nil)
        go_simp
        have Vx2 := ((Below.heap_setCell _ ⟨gg, i * 6 + 5, none⟩ (.int .i64 (-1)) sx hxg).trans ((Below.heap_setCell _ ⟨gg, i * 6 + 4, none⟩ (.int .i64 (-1)) sx hxg).trans ((Below.heap_setCell _ ⟨gg, i * 6 + 3, none⟩ (.int .i64 (-1)) sx hxg).trans ((Below.heap_setCell _ ⟨gg, i * 6 + 2, none⟩ (.int .i64 fr) sx hxg).trans ((Below.heap_setCell _ ⟨gg, i * 6 + 1, none⟩ (.int .u32 0) sx hxg).trans ((Below.heap_setCell _ ⟨gg, i * 6, none⟩ (.int .i64 (-1)) sx hxg).trans Vx.out))))))
        have FR2 := ((((((FR.out.other (b := gg) (j := i * 6) (by simp only [List.length_cons, List.length_nil]; omega) (.int .i64 (-1))).other (b := gg) (j := i * 6 + 1) (by simp only [List.length_cons, List.length_nil]; omega) (.int .u32 0)).other (b := gg) (j := i * 6 + 2) (by simp only [List.length_cons, List.length_nil]; omega) (.int .i64 fr)).other (b := gg) (j := i * 6 + 3) (by simp only [List.length_cons, List.length_nil]; omega) (.int .i64 (-1))).other (b := gg) (j := i * 6 + 4) (by simp only [List.length_cons, List.length_nil]; omega) (.int .i64 (-1))).other (b := gg) (j := i * 6 + 5) (by simp only [List.length_cons, List.length_nil]; omega) (.int .i64 (-1)))
        have OW2 := ((((((((((((OW.out).stored (i * 6) (.int .i64 (-1))).1).stored (i * 6 + 1) (.int .u32 0)).1).stored (i * 6 + 2) (.int .i64 fr)).1).stored (i * 6 + 3) (.int .i64 (-1))).1).stored (i * 6 + 4) (.int .i64 (-1))).1).stored (i * 6 + 5) (.int .i64 (-1))).1
        replace hS := Lib.hid (And.intro ((blk_cell Vx2 0).trans rfl) (FR2.cell 0 2 rfl rfl rfl))
        refine Shut.out hK _ _ hS (fun _ => ?_)
        clear hK K
        try simp only [Act.put, List.setIfInBounds_toArray, List.set_cons_zero, List.set_cons_succ]
        refine wpAnyH_done (by kernel_rfl) ?_ _
        refine NoPanic.normal ?_
        clear g0 g1 g2 g3 g4 g5 ff0 ff1 ff2 ff3 ff4 ff5 hS Vx FR OW
        generalize ((((((wa.setCell ⟨gg, i * 6, none⟩ (.int .i64 (-1))).setCell ⟨gg, i * 6 + 1, none⟩ (.int .u32 0)).setCell ⟨gg, i * 6 + 2, none⟩ (.int .i64 fr)).setCell ⟨gg, i * 6 + 3, none⟩ (.int .i64 (-1))).setCell ⟨gg, i * 6 + 4, none⟩ (.int .i64 (-1))).setCell ⟨gg, i * 6 + 5, none⟩ (.int .i64 (-1))) = wb at *
        have Vx := Lib.hid (show wb.heap[sx]? = some (.cells #[.slice (some ⟨gg, 0, none⟩) n d, .int .i64 rt, .int .i64 fr] 24) from Vx2)
        have FR := Lib.hid (show Fr w wb q [.cells #[.slice (some ⟨b, off, none⟩) n c, .int .i64 rt, .int .i64 fr] 24, .cells #[.slice none 0 0, .int .i64 0, .int .i64 0] 24] from FR2)
        have OW := Lib.hid (show World.ownsRow _ _ _ _ _ _ (ndC (ns.set i (empN fr))) from by rw [ndC_set ns i (empN fr) (by have := HL.out; omega)]; exact OW2)
        clear Vx2 FR2 OW2
        have ocx0 : wb.cell? ⟨sx, 0, none⟩ = some (.slice (some ⟨gg, 0, none⟩) n d) := (blk_cell Vx.out 0).trans rfl
        have ofx0 : wb.frozen? ⟨sx, 0, none⟩ = false := blk_frozen Vx.out 0
        have ocx1 : wb.cell? ⟨sx, 1, none⟩ = some (.int .i64 rt) := (blk_cell Vx.out 1).trans rfl
        have ofx1 : wb.frozen? ⟨sx, 1, none⟩ = false := blk_frozen Vx.out 1
        have ocx2 : wb.cell? ⟨sx, 2, none⟩ = some (.int .i64 fr) := (blk_cell Vx.out 2).trans rfl
        have ofx2 : wb.frozen? ⟨sx, 2, none⟩ = false := blk_frozen Vx.out 2
        have hszw7 := FR.out.sz
        simp only [List.length_cons, List.length_nil] at hszw7
        have hox := own_ne OW.out Vx.out (by decide)
        have hgg := (OW.out.lt gg (by simp [Value.ownBlock])).1
        have hxg : sx ≠ gg := fun e => hox (by rw [e]; rfl)
        obtain ⟨w7, hw7⟩ : ∃ W, (wb.setCell ⟨sx, 2, none⟩ (.int .i64 (i : Int))) = W := ⟨_, rfl⟩
        have OW2 := (own_other OW.out (k := sx) (o := 2) (u := .int .i64 (i : Int)) hox)
        replace FR := Lib.hid (show Fr w w7 q [.cells #[.slice (some ⟨b, off, none⟩) n c, .int .i64 rt, .int .i64 fr] 24, .cells #[.slice none 0 0, .int .i64 0, .int .i64 0] 24] from hw7 ▸ (FR.out.other (b := sx) (j := 2) (by simp only [List.length_cons, List.length_nil]; omega) (.int .i64 (i : Int))))
        replace Vx := Lib.hid (show w7.heap[sx]? = some (.cells #[.slice (some ⟨gg, 0, none⟩) n d, .int .i64 rt, .int .i64 (i : Int)] 24) from hw7 ▸ (blk_set (j := 2) Vx.out (.int .i64 (i : Int))))
        rw [hw7] at OW2
        replace OW := Lib.hid OW2
        clear OW2
        have FR0 := FR.out.sz
        simp only [List.length_cons, List.length_nil] at FR0
        have cx0 : w7.cell? ⟨sx, 0, none⟩ = some (.slice (some ⟨gg, 0, none⟩) n d) := (blk_cell Vx.out 0).trans rfl
        have cx1 : w7.cell? ⟨sx, 1, none⟩ = some (.int .i64 rt) := (blk_cell Vx.out 1).trans rfl
        have cx2 : w7.cell? ⟨sx, 2, none⟩ = some (.int .i64 (i : Int)) := (blk_cell Vx.out 2).trans rfl
        go_wp2_with fail
        refine ((LP.out _ _ _ (ns_own OW.out))).mono ?_
        rintro e w8 ⟨B2, d2, rfl, hown, hb⟩
        clear cx0 cx1 cx2
        replace FR := Lib.hid (FR.out.step hb)
        replace OW := Lib.hid (own_below OW.out hb)
        replace Vx := Lib.hid (blk_below Vx.out hb (blk_lt Vx.out))
        clear hb
        replace OW := Lib.hid (own_base hown FR0)
        clear hown FR0
        have c10 : w8.cell? ⟨q + 1, 0, none⟩ = some (.slice none 0 0) := FR.out.cell 1 0 rfl rfl rfl
        have f10 : w8.frozen? ⟨q + 1, 0, none⟩ = false := FR.out.frozen 1 0 rfl rfl
        have c11 : w8.cell? ⟨q + 1, 1, none⟩ = some (.int .i64 0) := FR.out.cell 1 1 rfl rfl rfl
        have f11 : w8.frozen? ⟨q + 1, 1, none⟩ = false := FR.out.frozen 1 1 rfl rfl
        have c12 : w8.cell? ⟨q + 1, 2, none⟩ = some (.int .i64 0) := FR.out.cell 1 2 rfl rfl rfl
        have f12 : w8.frozen? ⟨q + 1, 2, none⟩ = false := FR.out.frozen 1 2 rfl rfl
        have cx0 : w8.cell? ⟨sx, 0, none⟩ = some (.slice (some ⟨gg, 0, none⟩) n d) := (blk_cell Vx.out 0).trans rfl
        have fx0 : w8.frozen? ⟨sx, 0, none⟩ = false := blk_frozen Vx.out 0
        have cx1 : w8.cell? ⟨sx, 1, none⟩ = some (.int .i64 rt) := (blk_cell Vx.out 1).trans rfl
        have fx1 : w8.frozen? ⟨sx, 1, none⟩ = false := blk_frozen Vx.out 1
        have cx2 : w8.cell? ⟨sx, 2, none⟩ = some (.int .i64 (i : Int)) := (blk_cell Vx.out 2).trans rfl
        have fx2 : w8.frozen? ⟨sx, 2, none⟩ = false := blk_frozen Vx.out 2
        go_wp2
        have FZ : Fr w (((w8.setCell ⟨q + 1, 0, none⟩ (.slice B2 n d2)).setCell ⟨q + 1, 1, none⟩ (.int .i64 r1)).setCell ⟨q + 1, 2, none⟩ (.int .i64 f1)) q [.cells #[.slice (some ⟨b, off, none⟩) n c, .int .i64 rt, .int .i64 fr] 24, .cells #[.slice B2 n d2, .int .i64 r1, .int .i64 f1] 24] := (((FR.out.set 1 0 rfl rfl (.slice B2 n d2)).set 1 1 rfl rfl (.int .i64 r1)).set 1 2 rfl rfl (.int .i64 f1))
        refine bodyPost_ret (res_cs Try.results12 (by rfl) (FZ.load 1 rfl rfl Try.underlying24 (by kernel_rfl))) rfl ?_
        rw [HE.out]
        have hrs := own_base (own_apart (own_apart (own_apart (OW.out) (k := q + 1) (o := 0) (u := .slice B2 n d2) (by omega)) (k := q + 1) (o := 1) (u := .int .i64 r1) (by omega)) (k := q + 1) (o := 2) (u := .int .i64 f1) (by omega)) (show w.heap.size ≤ _ from by omega)
        exact ⟨_, _, _, rfl, ns_own hrs, FZ.out, Or.inl hrs⟩
      · rw [decide_eq_true hqq] at hqn
        have HE := Lib.hid (show R = ((ns, rt, fr), 8) by rw [hE, if_pos hqq])
        clear hE hqq
        obtain ⟨qh, hqh⟩ : ∃ x, (ndAt ns (i : Int)).h = x := ⟨_, rfl⟩
        obtain ⟨qt, hqt⟩ : ∃ x, (ndAt ns (i : Int)).t = x := ⟨_, rfl⟩
        rw [hqh] at K4 hqn
        rw [hqt] at K5 hqn
        clear hqh hqt
        go_enter Try.func12, Try.ntmps12
        have c00 : v2.cell? ⟨q, 0, none⟩ = some (.slice (some ⟨b, off, none⟩) n c) := FR.out.cell 0 0 rfl rfl rfl
        have c01 : v2.cell? ⟨q, 1, none⟩ = some (.int .i64 rt) := FR.out.cell 0 1 rfl rfl rfl
        have c02 : v2.cell? ⟨q, 2, none⟩ = some (.int .i64 fr) := FR.out.cell 0 2 rfl rfl rfl
        have c10 : v2.cell? ⟨q + 1, 0, none⟩ = some (.slice none 0 0) := FR.out.cell 1 0 rfl rfl rfl
        have c11 : v2.cell? ⟨q + 1, 1, none⟩ = some (.int .i64 0) := FR.out.cell 1 1 rfl rfl rfl
        have c12 : v2.cell? ⟨q + 1, 2, none⟩ = some (.int .i64 0) := FR.out.cell 1 2 rfl rfl rfl
        go_wp2_with fail
        refine ((PL.out _ (FR.out.es RX.out))).mono ?_
        rintro e w3 ⟨rfl, hb⟩
        clear c00 c01 c02 c10 c11 c12
        replace FR := Lib.hid (FR.out.step hb)
        clear hb
        have c00 : w3.cell? ⟨q, 0, none⟩ = some (.slice (some ⟨b, off, none⟩) n c) := FR.out.cell 0 0 rfl rfl rfl
        have c01 : w3.cell? ⟨q, 1, none⟩ = some (.int .i64 rt) := FR.out.cell 0 1 rfl rfl rfl
        have c02 : w3.cell? ⟨q, 2, none⟩ = some (.int .i64 fr) := FR.out.cell 0 2 rfl rfl rfl
        have c10 : w3.cell? ⟨q + 1, 0, none⟩ = some (.slice none 0 0) := FR.out.cell 1 0 rfl rfl rfl
        have c11 : w3.cell? ⟨q + 1, 1, none⟩ = some (.int .i64 0) := FR.out.cell 1 1 rfl rfl rfl
        have c12 : w3.cell? ⟨q + 1, 2, none⟩ = some (.int .i64 0) := FR.out.cell 1 2 rfl rfl rfl
        go_wp2_with fail
        refine ((RT.out _ (FR.out.es RX.out))).mono ?_
        rintro e w4 ⟨rfl, hb⟩
        clear c00 c01 c02 c10 c11 c12
        replace FR := Lib.hid (FR.out.step hb)
        clear hb
        have k4 := (FR.out.out.cell (p := ⟨b, off + i * 6 + 4, none⟩) hbq).trans K4.out
        have k5 := (FR.out.out.cell (p := ⟨b, off + i * 6 + 5, none⟩) hbq).trans K5.out
        have c00 : w4.cell? ⟨q, 0, none⟩ = some (.slice (some ⟨b, off, none⟩) n c) := FR.out.cell 0 0 rfl rfl rfl
        have c01 : w4.cell? ⟨q, 1, none⟩ = some (.int .i64 rt) := FR.out.cell 0 1 rfl rfl rfl
        have c02 : w4.cell? ⟨q, 2, none⟩ = some (.int .i64 fr) := FR.out.cell 0 2 rfl rfl rfl
        have c10 : w4.cell? ⟨q + 1, 0, none⟩ = some (.slice none 0 0) := FR.out.cell 1 0 rfl rfl rfl
        have f10 : w4.frozen? ⟨q + 1, 0, none⟩ = false := FR.out.frozen 1 0 rfl rfl
        have c11 : w4.cell? ⟨q + 1, 1, none⟩ = some (.int .i64 0) := FR.out.cell 1 1 rfl rfl rfl
        have f11 : w4.frozen? ⟨q + 1, 1, none⟩ = false := FR.out.frozen 1 1 rfl rfl
        have c12 : w4.cell? ⟨q + 1, 2, none⟩ = some (.int .i64 0) := FR.out.cell 1 2 rfl rfl rfl
        have f12 : w4.frozen? ⟨q + 1, 2, none⟩ = false := FR.out.frozen 1 2 rfl rfl
        go_wp2
        have FZ : Fr w (((w4.setCell ⟨q + 1, 0, none⟩ (.slice (some ⟨b, off, none⟩) n c)).setCell ⟨q + 1, 1, none⟩ (.int .i64 rt)).setCell ⟨q + 1, 2, none⟩ (.int .i64 fr)) q [.cells #[.slice (some ⟨b, off, none⟩) n c, .int .i64 rt, .int .i64 fr] 24, .cells #[.slice (some ⟨b, off, none⟩) n c, .int .i64 rt, .int .i64 fr] 24] := (((FR.out.set 1 0 rfl rfl (.slice (some ⟨b, off, none⟩) n c)).set 1 1 rfl rfl (.int .i64 rt)).set 1 2 rfl rfl (.int .i64 fr))
        refine bodyPost_ret (res_cs Try.results12 (by rfl) (FZ.load 1 rfl rfl Try.underlying24 (by kernel_rfl))) rfl ?_
        rw [HE.out]
        exact ⟨_, _, _, rfl, FZ.es RX.out, FZ.out, Or.inr rfl⟩
set_option maxRecDepth 100000 in
set_option maxHeartbeats 8000000 in
theorem refHang9_any (A : Option Addr) (n c : Nat) (ns : List Nd) (rt fr key qh qt : Int) (w : World) (hx : Ns w A n c ns) (hn : n ≤ 16384) :
    Calls Try.prog 22 #[.agg #[.slice A n c, .int .i64 rt, .int .i64 fr], .int .i64 key, .agg #[.int .i64 qh, .int .i64 qt]] w (TGot w A n c (hangT (ns, rt, fr) key qh qt)) := by
  have hlen := hx.len
  have RX := Lib.hid hx
  have HL := Lib.hid hlen
  have RT := fun (W : World) (h : Ns W A n c ns) => refRight9_any A n c ns rt fr W h hn
  have PL := fun (W : World) (h : Ns W A n c ns) => refPlace9_any A n c ns rt fr key W h hn
  have CP := Lib.hid (fun (W : World) (h : Ns W A n c ns) => refCopy9_any A n c ns rt fr W h hn)
  obtain ⟨R, hR⟩ : ∃ R, hangT (ns, rt, fr) key qh qt = R := ⟨_, rfl⟩
  rw [hR]
  have HR := Lib.hid hR
  clear hx hR hlen
  obtain ⟨v1, hv1⟩ : ∃ W, w.alloc (.cells #[.slice A n c, .int .i64 rt, .int .i64 fr] 24) = W := ⟨_, rfl⟩
  have fr1 : Fr w v1 w.heap.size [.cells #[.slice A n c, .int .i64 rt, .int .i64 fr] 24] := hv1 ▸ Fr.first w _
  have z1 : v1.heap.size = w.heap.size + 1 := by rw [← hv1, Fr.size1]
  obtain ⟨v2, hv2⟩ : ∃ W, v1.alloc (.cells #[.int .i64 qh, .int .i64 qt] 43) = W := ⟨_, rfl⟩
  have fr2 : Fr w v2 w.heap.size [.cells #[.slice A n c, .int .i64 rt, .int .i64 fr] 24, .cells #[.int .i64 qh, .int .i64 qt] 43] := hv2 ▸ fr1.more z1 _
  have z2 : v2.heap.size = w.heap.size + 2 := by rw [← hv2, Fr.size1, z1]
  obtain ⟨v3, hv3⟩ : ∃ W, v2.alloc (.cells #[.slice none 0 0, .int .i64 0, .int .i64 0] 24) = W := ⟨_, rfl⟩
  have fr3 : Fr w v3 w.heap.size [.cells #[.slice A n c, .int .i64 rt, .int .i64 fr] 24, .cells #[.int .i64 qh, .int .i64 qt] 43, .cells #[.slice none 0 0, .int .i64 0, .int .i64 0] 24] := hv3 ▸ fr2.more z2 _
  have z3 : v3.heap.size = w.heap.size + 3 := by rw [← hv3, Fr.size1, z2]
  generalize hq : w.heap.size = q at *
  have FR := Lib.hid fr3
  clear fr1 fr2 fr3
  obtain ⟨pl, hpl⟩ : ∃ pl, placeT ns key = pl := ⟨_, rfl⟩
  have hpi := @placeT_in ns key
  rw [hpl] at PL hpi
  replace PL : Hid (∀ W, Ns W A n c ns → Calls Try.prog 30 #[.agg #[.slice A n c, .int .i64 rt, .int .i64 fr], .int .i64 key] W (Num9 W pl)) := Lib.hid PL
  cases hr : rightT (ns, rt, fr)
  · rw [hr] at RT
    replace RT := Lib.hid RT
    have HE := Lib.hid (show R = ((ns, rt, fr), 1) by rw [← HR.out]; unfold hangT; rw [if_pos hr])
    clear hr hpl hpi
    go_enter Try.func22, Try.ntmps22
    have c00 : v3.cell? ⟨q, 0, none⟩ = some (.slice A n c) := FR.out.cell 0 0 rfl rfl rfl
    have c01 : v3.cell? ⟨q, 1, none⟩ = some (.int .i64 rt) := FR.out.cell 0 1 rfl rfl rfl
    have c02 : v3.cell? ⟨q, 2, none⟩ = some (.int .i64 fr) := FR.out.cell 0 2 rfl rfl rfl
    have c10 : v3.cell? ⟨q + 1, 0, none⟩ = some (.int .i64 qh) := FR.out.cell 1 0 rfl rfl rfl
    have c11 : v3.cell? ⟨q + 1, 1, none⟩ = some (.int .i64 qt) := FR.out.cell 1 1 rfl rfl rfl
    have c20 : v3.cell? ⟨q + 2, 0, none⟩ = some (.slice none 0 0) := FR.out.cell 2 0 rfl rfl rfl
    have c21 : v3.cell? ⟨q + 2, 1, none⟩ = some (.int .i64 0) := FR.out.cell 2 1 rfl rfl rfl
    have c22 : v3.cell? ⟨q + 2, 2, none⟩ = some (.int .i64 0) := FR.out.cell 2 2 rfl rfl rfl
    go_wp2_with fail
    refine ((PL.out _ (FR.out.es RX.out))).mono ?_
    rintro e w4 ⟨rfl, hb⟩
    clear c00 c01 c02 c10 c11 c20 c21 c22
    replace FR := Lib.hid (FR.out.step hb)
    clear hb
    have c00 : w4.cell? ⟨q, 0, none⟩ = some (.slice A n c) := FR.out.cell 0 0 rfl rfl rfl
    have c01 : w4.cell? ⟨q, 1, none⟩ = some (.int .i64 rt) := FR.out.cell 0 1 rfl rfl rfl
    have c02 : w4.cell? ⟨q, 2, none⟩ = some (.int .i64 fr) := FR.out.cell 0 2 rfl rfl rfl
    have c10 : w4.cell? ⟨q + 1, 0, none⟩ = some (.int .i64 qh) := FR.out.cell 1 0 rfl rfl rfl
    have c11 : w4.cell? ⟨q + 1, 1, none⟩ = some (.int .i64 qt) := FR.out.cell 1 1 rfl rfl rfl
    have c20 : w4.cell? ⟨q + 2, 0, none⟩ = some (.slice none 0 0) := FR.out.cell 2 0 rfl rfl rfl
    have c21 : w4.cell? ⟨q + 2, 1, none⟩ = some (.int .i64 0) := FR.out.cell 2 1 rfl rfl rfl
    have c22 : w4.cell? ⟨q + 2, 2, none⟩ = some (.int .i64 0) := FR.out.cell 2 2 rfl rfl rfl
    go_wp2_with fail
    refine ((RT.out _ (FR.out.es RX.out))).mono ?_
    rintro e w5 ⟨rfl, hb⟩
    clear c00 c01 c02 c10 c11 c20 c21 c22
    replace FR := Lib.hid (FR.out.step hb)
    clear hb
    have c00 : w5.cell? ⟨q, 0, none⟩ = some (.slice A n c) := FR.out.cell 0 0 rfl rfl rfl
    have c01 : w5.cell? ⟨q, 1, none⟩ = some (.int .i64 rt) := FR.out.cell 0 1 rfl rfl rfl
    have c02 : w5.cell? ⟨q, 2, none⟩ = some (.int .i64 fr) := FR.out.cell 0 2 rfl rfl rfl
    have c20 : w5.cell? ⟨q + 2, 0, none⟩ = some (.slice none 0 0) := FR.out.cell 2 0 rfl rfl rfl
    have f20 : w5.frozen? ⟨q + 2, 0, none⟩ = false := FR.out.frozen 2 0 rfl rfl
    have c21 : w5.cell? ⟨q + 2, 1, none⟩ = some (.int .i64 0) := FR.out.cell 2 1 rfl rfl rfl
    have f21 : w5.frozen? ⟨q + 2, 1, none⟩ = false := FR.out.frozen 2 1 rfl rfl
    have c22 : w5.cell? ⟨q + 2, 2, none⟩ = some (.int .i64 0) := FR.out.cell 2 2 rfl rfl rfl
    have f22 : w5.frozen? ⟨q + 2, 2, none⟩ = false := FR.out.frozen 2 2 rfl rfl
    go_wp2
    have FZ : Fr w (((w5.setCell ⟨q + 2, 0, none⟩ (.slice A n c)).setCell ⟨q + 2, 1, none⟩ (.int .i64 rt)).setCell ⟨q + 2, 2, none⟩ (.int .i64 fr)) q [.cells #[.slice A n c, .int .i64 rt, .int .i64 fr] 24, .cells #[.int .i64 qh, .int .i64 qt] 43, .cells #[.slice A n c, .int .i64 rt, .int .i64 fr] 24] := (((FR.out.set 2 0 rfl rfl (.slice A n c)).set 2 1 rfl rfl (.int .i64 rt)).set 2 2 rfl rfl (.int .i64 fr))
    refine bodyPost_ret (res_cs Try.results22 (by rfl) (FZ.load 2 rfl rfl Try.underlying24 (by kernel_rfl))) rfl ?_
    rw [HE.out]
    exact ⟨_, _, _, rfl, FZ.es RX.out, FZ.out, Or.inr rfl⟩
  · rw [hr] at RT
    replace RT := Lib.hid RT
    have hE : R = if pl < 0 then ((ns, rt, fr), 7) else ((ns.set pl.toNat { ndAt ns pl with h := qh, t := qt }, rt, fr), 0) := by rw [← HR.out, ← hpl]; unfold hangT; exact if_neg (by rw [hr]; simp)
    clear hr hpl
    by_cases hp : pl < 0
    · have b1 : decide (pl < 0) = true := by simpa using hp
      have HE := Lib.hid (show R = ((ns, rt, fr), 7) by rw [hE, if_pos hp])
      clear hE hp hpi
      go_enter Try.func22, Try.ntmps22
      have c00 : v3.cell? ⟨q, 0, none⟩ = some (.slice A n c) := FR.out.cell 0 0 rfl rfl rfl
      have c01 : v3.cell? ⟨q, 1, none⟩ = some (.int .i64 rt) := FR.out.cell 0 1 rfl rfl rfl
      have c02 : v3.cell? ⟨q, 2, none⟩ = some (.int .i64 fr) := FR.out.cell 0 2 rfl rfl rfl
      have c10 : v3.cell? ⟨q + 1, 0, none⟩ = some (.int .i64 qh) := FR.out.cell 1 0 rfl rfl rfl
      have c11 : v3.cell? ⟨q + 1, 1, none⟩ = some (.int .i64 qt) := FR.out.cell 1 1 rfl rfl rfl
      have c20 : v3.cell? ⟨q + 2, 0, none⟩ = some (.slice none 0 0) := FR.out.cell 2 0 rfl rfl rfl
      have c21 : v3.cell? ⟨q + 2, 1, none⟩ = some (.int .i64 0) := FR.out.cell 2 1 rfl rfl rfl
      have c22 : v3.cell? ⟨q + 2, 2, none⟩ = some (.int .i64 0) := FR.out.cell 2 2 rfl rfl rfl
      go_wp2_with fail
      refine ((PL.out _ (FR.out.es RX.out))).mono ?_
      rintro e w4 ⟨rfl, hb⟩
      clear c00 c01 c02 c10 c11 c20 c21 c22
      replace FR := Lib.hid (FR.out.step hb)
      clear hb
      have c00 : w4.cell? ⟨q, 0, none⟩ = some (.slice A n c) := FR.out.cell 0 0 rfl rfl rfl
      have c01 : w4.cell? ⟨q, 1, none⟩ = some (.int .i64 rt) := FR.out.cell 0 1 rfl rfl rfl
      have c02 : w4.cell? ⟨q, 2, none⟩ = some (.int .i64 fr) := FR.out.cell 0 2 rfl rfl rfl
      have c10 : w4.cell? ⟨q + 1, 0, none⟩ = some (.int .i64 qh) := FR.out.cell 1 0 rfl rfl rfl
      have c11 : w4.cell? ⟨q + 1, 1, none⟩ = some (.int .i64 qt) := FR.out.cell 1 1 rfl rfl rfl
      have c20 : w4.cell? ⟨q + 2, 0, none⟩ = some (.slice none 0 0) := FR.out.cell 2 0 rfl rfl rfl
      have c21 : w4.cell? ⟨q + 2, 1, none⟩ = some (.int .i64 0) := FR.out.cell 2 1 rfl rfl rfl
      have c22 : w4.cell? ⟨q + 2, 2, none⟩ = some (.int .i64 0) := FR.out.cell 2 2 rfl rfl rfl
      go_wp2_with fail
      refine ((RT.out _ (FR.out.es RX.out))).mono ?_
      rintro e w5 ⟨rfl, hb⟩
      clear c00 c01 c02 c10 c11 c20 c21 c22
      replace FR := Lib.hid (FR.out.step hb)
      clear hb
      have c00 : w5.cell? ⟨q, 0, none⟩ = some (.slice A n c) := FR.out.cell 0 0 rfl rfl rfl
      have c01 : w5.cell? ⟨q, 1, none⟩ = some (.int .i64 rt) := FR.out.cell 0 1 rfl rfl rfl
      have c02 : w5.cell? ⟨q, 2, none⟩ = some (.int .i64 fr) := FR.out.cell 0 2 rfl rfl rfl
      have c20 : w5.cell? ⟨q + 2, 0, none⟩ = some (.slice none 0 0) := FR.out.cell 2 0 rfl rfl rfl
      have f20 : w5.frozen? ⟨q + 2, 0, none⟩ = false := FR.out.frozen 2 0 rfl rfl
      have c21 : w5.cell? ⟨q + 2, 1, none⟩ = some (.int .i64 0) := FR.out.cell 2 1 rfl rfl rfl
      have f21 : w5.frozen? ⟨q + 2, 1, none⟩ = false := FR.out.frozen 2 1 rfl rfl
      have c22 : w5.cell? ⟨q + 2, 2, none⟩ = some (.int .i64 0) := FR.out.cell 2 2 rfl rfl rfl
      have f22 : w5.frozen? ⟨q + 2, 2, none⟩ = false := FR.out.frozen 2 2 rfl rfl
      go_wp2
      have FZ : Fr w (((w5.setCell ⟨q + 2, 0, none⟩ (.slice A n c)).setCell ⟨q + 2, 1, none⟩ (.int .i64 rt)).setCell ⟨q + 2, 2, none⟩ (.int .i64 fr)) q [.cells #[.slice A n c, .int .i64 rt, .int .i64 fr] 24, .cells #[.int .i64 qh, .int .i64 qt] 43, .cells #[.slice A n c, .int .i64 rt, .int .i64 fr] 24] := (((FR.out.set 2 0 rfl rfl (.slice A n c)).set 2 1 rfl rfl (.int .i64 rt)).set 2 2 rfl rfl (.int .i64 fr))
      refine bodyPost_ret (res_cs Try.results22 (by rfl) (FZ.load 2 rfl rfl Try.underlying24 (by kernel_rfl))) rfl ?_
      rw [HE.out]
      exact ⟨_, _, _, rfl, FZ.es RX.out, FZ.out, Or.inr rfl⟩
    · rw [if_neg hp] at hE
      have hpb := hpi (by omega)
      rw [HL.out] at hpb
      obtain ⟨i, rfl⟩ : ∃ i : Nat, pl = i := ⟨pl.toNat, by omega⟩
      have b1 : decide ((i : Int) < 0) = false := by simp
      have i0 : (0 : Int) ≤ (i : Int) := by omega
      have i1 : (i : Int) < (n : Int) := hpb
      have HE := Lib.hid (show R = ((ns.set i { ndAt ns (i : Int) with h := qh, t := qt }, rt, fr), 0) from hE)
      clear hp hpi hpb hE
      go_enter Try.func22, Try.ntmps22
      have c00 : v3.cell? ⟨q, 0, none⟩ = some (.slice A n c) := FR.out.cell 0 0 rfl rfl rfl
      have c01 : v3.cell? ⟨q, 1, none⟩ = some (.int .i64 rt) := FR.out.cell 0 1 rfl rfl rfl
      have c02 : v3.cell? ⟨q, 2, none⟩ = some (.int .i64 fr) := FR.out.cell 0 2 rfl rfl rfl
      have c10 : v3.cell? ⟨q + 1, 0, none⟩ = some (.int .i64 qh) := FR.out.cell 1 0 rfl rfl rfl
      have c11 : v3.cell? ⟨q + 1, 1, none⟩ = some (.int .i64 qt) := FR.out.cell 1 1 rfl rfl rfl
      have c20 : v3.cell? ⟨q + 2, 0, none⟩ = some (.slice none 0 0) := FR.out.cell 2 0 rfl rfl rfl
      have c21 : v3.cell? ⟨q + 2, 1, none⟩ = some (.int .i64 0) := FR.out.cell 2 1 rfl rfl rfl
      have c22 : v3.cell? ⟨q + 2, 2, none⟩ = some (.int .i64 0) := FR.out.cell 2 2 rfl rfl rfl
      go_wp2_with fail
      refine ((PL.out _ (FR.out.es RX.out))).mono ?_
      rintro e w4 ⟨rfl, hb⟩
      clear c00 c01 c02 c10 c11 c20 c21 c22
      replace FR := Lib.hid (FR.out.step hb)
      clear hb
      have c00 : w4.cell? ⟨q, 0, none⟩ = some (.slice A n c) := FR.out.cell 0 0 rfl rfl rfl
      have c01 : w4.cell? ⟨q, 1, none⟩ = some (.int .i64 rt) := FR.out.cell 0 1 rfl rfl rfl
      have c02 : w4.cell? ⟨q, 2, none⟩ = some (.int .i64 fr) := FR.out.cell 0 2 rfl rfl rfl
      have c10 : w4.cell? ⟨q + 1, 0, none⟩ = some (.int .i64 qh) := FR.out.cell 1 0 rfl rfl rfl
      have c11 : w4.cell? ⟨q + 1, 1, none⟩ = some (.int .i64 qt) := FR.out.cell 1 1 rfl rfl rfl
      have c20 : w4.cell? ⟨q + 2, 0, none⟩ = some (.slice none 0 0) := FR.out.cell 2 0 rfl rfl rfl
      have c21 : w4.cell? ⟨q + 2, 1, none⟩ = some (.int .i64 0) := FR.out.cell 2 1 rfl rfl rfl
      have c22 : w4.cell? ⟨q + 2, 2, none⟩ = some (.int .i64 0) := FR.out.cell 2 2 rfl rfl rfl
      go_wp2_with fail
      refine ((RT.out _ (FR.out.es RX.out))).mono ?_
      rintro e w5 ⟨rfl, hb⟩
      clear c00 c01 c02 c10 c11 c20 c21 c22
      replace FR := Lib.hid (FR.out.step hb)
      clear hb
      have FR0 := FR.out.sz
      simp only [List.length_cons, List.length_nil] at FR0
      have c00 : w5.cell? ⟨q, 0, none⟩ = some (.slice A n c) := FR.out.cell 0 0 rfl rfl rfl
      have c01 : w5.cell? ⟨q, 1, none⟩ = some (.int .i64 rt) := FR.out.cell 0 1 rfl rfl rfl
      have c02 : w5.cell? ⟨q, 2, none⟩ = some (.int .i64 fr) := FR.out.cell 0 2 rfl rfl rfl
      have c10 : w5.cell? ⟨q + 1, 0, none⟩ = some (.int .i64 qh) := FR.out.cell 1 0 rfl rfl rfl
      have c11 : w5.cell? ⟨q + 1, 1, none⟩ = some (.int .i64 qt) := FR.out.cell 1 1 rfl rfl rfl
      have c20 : w5.cell? ⟨q + 2, 0, none⟩ = some (.slice none 0 0) := FR.out.cell 2 0 rfl rfl rfl
      have c21 : w5.cell? ⟨q + 2, 1, none⟩ = some (.int .i64 0) := FR.out.cell 2 1 rfl rfl rfl
      have c22 : w5.cell? ⟨q + 2, 2, none⟩ = some (.int .i64 0) := FR.out.cell 2 2 rfl rfl rfl
      go_wp2_with fail
      refine ((CP.out _ (FR.out.es RX.out))).mono ?_
      rintro e w6 ⟨B, d, rfl, hown, hb⟩
      clear c00 c01 c02 c10 c11 c20 c21 c22
      replace FR := Lib.hid (FR.out.step hb)
      clear hb
      have OW := Lib.hid (own_base hown FR0)
      obtain ⟨gg, rfl⟩ := own_some9 OW.out (by omega)
      clear hown FR0 hv1 hv2 hv3 z1 z2 z3
      have gex := FR.out.sz
      simp only [List.length_cons, List.length_nil] at gex
      obtain ⟨w7, hw7⟩ : ∃ W, w6.alloc (.cells #[.slice (some ⟨gg, 0, none⟩) n d, .int .i64 rt, .int .i64 fr] 24) = W := ⟨_, rfl⟩
      have hb : Below w6.heap.size w6 w7 := hw7 ▸ (Below.refl _ _).alloc (Nat.le_refl _) _
      have hv : w7.heap[w6.heap.size]? = some (.cells #[.slice (some ⟨gg, 0, none⟩) n d, .int .i64 rt, .int .i64 fr] 24) := hw7 ▸ heap_alloc_new _ _
      replace FR := Lib.hid (FR.out.step hb)
      replace OW := Lib.hid (own_below OW.out hb)
      have Vx := Lib.hid hv
      generalize hsx : w6.heap.size = sx at *
      clear hb hv
      obtain ⟨e0, e1, e2, e3, e4, e5⟩ := ndC_at ns i (by have := HL.out; omega)
      have g4 := (OW.out.cellAt (i * 6 + 4) (by omega)).trans e4
      have ff4 := OW.out.frozenAt (i * 6 + 4)
      have g5 := (OW.out.cellAt (i * 6 + 5) (by omega)).trans e5
      have ff5 := OW.out.frozenAt (i * 6 + 5)
      clear e0 e1 e2 e3 e4 e5
      have oc10 : w7.cell? ⟨q + 1, 0, none⟩ = some (.int .i64 qh) := FR.out.cell 1 0 rfl rfl rfl
      have oc11 : w7.cell? ⟨q + 1, 1, none⟩ = some (.int .i64 qt) := FR.out.cell 1 1 rfl rfl rfl
      have ocx0 : w7.cell? ⟨sx, 0, none⟩ = some (.slice (some ⟨gg, 0, none⟩) n d) := (blk_cell Vx.out 0).trans rfl
      have ocx1 : w7.cell? ⟨sx, 1, none⟩ = some (.int .i64 rt) := (blk_cell Vx.out 1).trans rfl
      have ocx2 : w7.cell? ⟨sx, 2, none⟩ = some (.int .i64 fr) := (blk_cell Vx.out 2).trans rfl
      have hszw8 := FR.out.sz
      simp only [List.length_cons, List.length_nil] at hszw8
      have hox := own_ne OW.out Vx.out (by decide)
      have hgg := (OW.out.lt gg (by simp [Value.ownBlock])).1
      have hxg : sx ≠ gg := fun e => hox (by rw [e]; rfl)
      obtain ⟨w8, hw8⟩ : ∃ W, ((w7.setCell ⟨gg, i * 6 + 4, none⟩ (.int .i64 qh)).setCell ⟨gg, i * 6 + 5, none⟩ (.int .i64 qt)) = W := ⟨_, rfl⟩
      have OW2 := ((((OW.out).stored (i * 6 + 4) (.int .i64 qh)).1).stored (i * 6 + 5) (.int .i64 qt)).1
      replace FR := Lib.hid (show Fr w w8 q [.cells #[.slice A n c, .int .i64 rt, .int .i64 fr] 24, .cells #[.int .i64 qh, .int .i64 qt] 43, .cells #[.slice none 0 0, .int .i64 0, .int .i64 0] 24] from hw8 ▸ ((FR.out.other (b := gg) (j := i * 6 + 4) (by simp only [List.length_cons, List.length_nil]; omega) (.int .i64 qh)).other (b := gg) (j := i * 6 + 5) (by simp only [List.length_cons, List.length_nil]; omega) (.int .i64 qt)))
      replace Vx := Lib.hid (show w8.heap[sx]? = some (.cells #[.slice (some ⟨gg, 0, none⟩) n d, .int .i64 rt, .int .i64 fr] 24) from hw8 ▸ ((Below.heap_setCell _ ⟨gg, i * 6 + 5, none⟩ (.int .i64 qt) sx hxg).trans ((Below.heap_setCell _ ⟨gg, i * 6 + 4, none⟩ (.int .i64 qh) sx hxg).trans Vx.out)))
      rw [hw8] at OW2
      replace OW := Lib.hid OW2
      clear OW2
      have OWn := Lib.hid (show World.ownsRow _ _ _ _ _ _ (ndC (ns.set i { ndAt ns (i : Int) with h := qh, t := qt })) from by rw [ndC_q ns i qh qt (by have := HL.out; omega)]; exact OW.out)
      replace OW := OWn
      clear OWn
      have c20 : w8.cell? ⟨q + 2, 0, none⟩ = some (.slice none 0 0) := FR.out.cell 2 0 rfl rfl rfl
      have f20 : w8.frozen? ⟨q + 2, 0, none⟩ = false := FR.out.frozen 2 0 rfl rfl
      have c21 : w8.cell? ⟨q + 2, 1, none⟩ = some (.int .i64 0) := FR.out.cell 2 1 rfl rfl rfl
      have f21 : w8.frozen? ⟨q + 2, 1, none⟩ = false := FR.out.frozen 2 1 rfl rfl
      have c22 : w8.cell? ⟨q + 2, 2, none⟩ = some (.int .i64 0) := FR.out.cell 2 2 rfl rfl rfl
      have f22 : w8.frozen? ⟨q + 2, 2, none⟩ = false := FR.out.frozen 2 2 rfl rfl
      have cx0 : w8.cell? ⟨sx, 0, none⟩ = some (.slice (some ⟨gg, 0, none⟩) n d) := (blk_cell Vx.out 0).trans rfl
      have fx0 : w8.frozen? ⟨sx, 0, none⟩ = false := blk_frozen Vx.out 0
      have cx1 : w8.cell? ⟨sx, 1, none⟩ = some (.int .i64 rt) := (blk_cell Vx.out 1).trans rfl
      have fx1 : w8.frozen? ⟨sx, 1, none⟩ = false := blk_frozen Vx.out 1
      have cx2 : w8.cell? ⟨sx, 2, none⟩ = some (.int .i64 fr) := (blk_cell Vx.out 2).trans rfl
      have fx2 : w8.frozen? ⟨sx, 2, none⟩ = false := blk_frozen Vx.out 2
      go_wp2
      have FZ : Fr w (((w8.setCell ⟨q + 2, 0, none⟩ (.slice (some ⟨gg, 0, none⟩) n d)).setCell ⟨q + 2, 1, none⟩ (.int .i64 rt)).setCell ⟨q + 2, 2, none⟩ (.int .i64 fr)) q [.cells #[.slice A n c, .int .i64 rt, .int .i64 fr] 24, .cells #[.int .i64 qh, .int .i64 qt] 43, .cells #[.slice (some ⟨gg, 0, none⟩) n d, .int .i64 rt, .int .i64 fr] 24] := (((FR.out.set 2 0 rfl rfl (.slice (some ⟨gg, 0, none⟩) n d)).set 2 1 rfl rfl (.int .i64 rt)).set 2 2 rfl rfl (.int .i64 fr))
      refine bodyPost_ret (res_cs Try.results22 (by rfl) (FZ.load 2 rfl rfl Try.underlying24 (by kernel_rfl))) rfl ?_
      rw [HE.out]
      have hrs := own_base (own_apart (own_apart (own_apart (OW.out) (k := q + 2) (o := 0) (u := .slice (some ⟨gg, 0, none⟩) n d) (by omega)) (k := q + 2) (o := 1) (u := .int .i64 rt) (by omega)) (k := q + 2) (o := 2) (u := .int .i64 fr) (by omega)) (show w.heap.size ≤ _ from by omega)
      exact ⟨_, _, _, rfl, ns_own hrs, FZ.out, Or.inl hrs⟩
end Go.Proofs.Ytfgfohomgomidaa
