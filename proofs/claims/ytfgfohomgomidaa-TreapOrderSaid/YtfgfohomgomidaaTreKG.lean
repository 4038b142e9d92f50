/- What the landed treap's own Insert, Delete and Hang of layer 9 answer; for slices of up to 16384 nodes. -/
import Derived.Test.YtfgfohomgomidaaTreKF
namespace Go.Proofs.Ytfgfohomgomidaa
set_option linter.unusedVariables false
set_option linter.unusedSimpArgs false
open Go.RowKit
set_option maxRecDepth 100000 in
set_option maxHeartbeats 8000000 in
theorem tpInsert_any (A : Option Addr) (n c : Nat) (ns : List Nd) (rt fr : Int) (w : World) (key prio : Int) (hx : Ns w A n c ns) (hn : n ≤ 16384) :
    Calls Try.prog 9 #[.agg #[.slice A n c, .int .i64 rt, .int .i64 fr], .int .i64 key, .int .u32 prio] w (IGot w A n c (insT (ns, rt, fr) key prio)) := by
  have hlen := hx.len
  have RX := Lib.hid hx
  have HL := Lib.hid hlen
  have CP := Lib.hid (fun (W : World) (h : Ns W A n c ns) => tpCopied_any A n c ns rt fr W h hn)
  obtain ⟨R, hR⟩ : ∃ R, insT (ns, rt, fr) key prio = R := ⟨_, rfl⟩
  rw [hR]
  clear hx
  have RT := fun (W : World) (h : Ns W A n c ns) => tpRight_any A n c ns rt fr W h hn
  obtain ⟨v1, hv1⟩ : ∃ W, w.alloc (.cells #[.slice A n c, .int .i64 rt, .int .i64 fr] 24) = W := ⟨_, rfl⟩
  have fr1 : Fr w v1 w.heap.size [.cells #[.slice A n c, .int .i64 rt, .int .i64 fr] 24] := hv1 ▸ Fr.first w _
  have z1 : v1.heap.size = w.heap.size + 1 := by rw [← hv1, Fr.size1]
  obtain ⟨v2, hv2⟩ : ∃ W, v1.alloc (.cells #[.slice none 0 0, .int .i64 0, .int .i64 0] 24) = W := ⟨_, rfl⟩
  have fr2 : Fr w v2 w.heap.size [.cells #[.slice A n c, .int .i64 rt, .int .i64 fr] 24, .cells #[.slice none 0 0, .int .i64 0, .int .i64 0] 24] := hv2 ▸ fr1.more z1 _
  have z2 : v2.heap.size = w.heap.size + 2 := by rw [← hv2, Fr.size1, z1]
  generalize hq : w.heap.size = q at *
  have FR := Lib.hid fr2
  clear fr1 fr2
  by_cases hk : key < 0
  · have b1 : decide (key < 0) = true := by simpa using hk
    have HE := Lib.hid (show R = ((ns, rt, fr), 0, 1) by rw [← hR]; unfold insT; rw [if_pos (Or.inr hk)])
    clear hk hR RT hlen
    go_enter Try.func9, Try.ntmps9
    have FR0 := FR.out.sz
    simp only [List.length_cons, List.length_nil] at FR0
    have c00 : v2.cell? ⟨q, 0, none⟩ = some (.slice A n c) := FR.out.cell 0 0 rfl rfl rfl
    have c01 : v2.cell? ⟨q, 1, none⟩ = some (.int .i64 rt) := FR.out.cell 0 1 rfl rfl rfl
    have c02 : v2.cell? ⟨q, 2, none⟩ = some (.int .i64 fr) := FR.out.cell 0 2 rfl rfl rfl
    have c10 : v2.cell? ⟨q + 1, 0, none⟩ = some (.slice none 0 0) := FR.out.cell 1 0 rfl rfl rfl
    have c11 : v2.cell? ⟨q + 1, 1, none⟩ = some (.int .i64 0) := FR.out.cell 1 1 rfl rfl rfl
    have c12 : v2.cell? ⟨q + 1, 2, none⟩ = some (.int .i64 0) := FR.out.cell 1 2 rfl rfl rfl
    go_wp2_with fail
    refine ((CP.out _ (FR.out.es RX.out))).mono ?_
    rintro e w3 ⟨B, d, rfl, hown, hb⟩
    clear c00 c01 c02 c10 c11 c12
    replace FR := Lib.hid (FR.out.step hb)
    clear hb
    have OW := Lib.hid (own_base hown FR0)
    clear hown FR0 hv1 z1 hv2 z2
    have gex := FR.out.sz
    simp only [List.length_cons, List.length_nil] at gex
    obtain ⟨w4, hw4⟩ : ∃ W, w3.alloc (.cells #[.slice B n d, .int .i64 rt, .int .i64 fr] 54) = W := ⟨_, rfl⟩
    have hb : Below w3.heap.size w3 w4 := hw4 ▸ (Below.refl _ _).alloc (Nat.le_refl _) _
    have hv : w4.heap[w3.heap.size]? = some (.cells #[.slice B n d, .int .i64 rt, .int .i64 fr] 54) := hw4 ▸ heap_alloc_new _ _
    replace FR := Lib.hid (FR.out.step hb)
    replace OW := Lib.hid (own_below OW.out hb)
    have Vx := Lib.hid hv
    generalize hsx : w3.heap.size = sx at *
    clear hb hv
    have c00 : w4.cell? ⟨q, 0, none⟩ = some (.slice A n c) := FR.out.cell 0 0 rfl rfl rfl
    have f00 : w4.frozen? ⟨q, 0, none⟩ = false := FR.out.frozen 0 0 rfl rfl
    have c01 : w4.cell? ⟨q, 1, none⟩ = some (.int .i64 rt) := FR.out.cell 0 1 rfl rfl rfl
    have f01 : w4.frozen? ⟨q, 1, none⟩ = false := FR.out.frozen 0 1 rfl rfl
    have c02 : w4.cell? ⟨q, 2, none⟩ = some (.int .i64 fr) := FR.out.cell 0 2 rfl rfl rfl
    have f02 : w4.frozen? ⟨q, 2, none⟩ = false := FR.out.frozen 0 2 rfl rfl
    have c10 : w4.cell? ⟨q + 1, 0, none⟩ = some (.slice none 0 0) := FR.out.cell 1 0 rfl rfl rfl
    have f10 : w4.frozen? ⟨q + 1, 0, none⟩ = false := FR.out.frozen 1 0 rfl rfl
    have c11 : w4.cell? ⟨q + 1, 1, none⟩ = some (.int .i64 0) := FR.out.cell 1 1 rfl rfl rfl
    have f11 : w4.frozen? ⟨q + 1, 1, none⟩ = false := FR.out.frozen 1 1 rfl rfl
    have c12 : w4.cell? ⟨q + 1, 2, none⟩ = some (.int .i64 0) := FR.out.cell 1 2 rfl rfl rfl
    have f12 : w4.frozen? ⟨q + 1, 2, none⟩ = false := FR.out.frozen 1 2 rfl rfl
    have cx0 : w4.cell? ⟨sx, 0, none⟩ = some (.slice B n d) := (blk_cell Vx.out 0).trans rfl
    have fx0 : w4.frozen? ⟨sx, 0, none⟩ = false := blk_frozen Vx.out 0
    have cx1 : w4.cell? ⟨sx, 1, none⟩ = some (.int .i64 rt) := (blk_cell Vx.out 1).trans rfl
    have fx1 : w4.frozen? ⟨sx, 1, none⟩ = false := blk_frozen Vx.out 1
    have cx2 : w4.cell? ⟨sx, 2, none⟩ = some (.int .i64 fr) := (blk_cell Vx.out 2).trans rfl
    have fx2 : w4.frozen? ⟨sx, 2, none⟩ = false := blk_frozen Vx.out 2
    go_wp2
    have FZ : Fr w (((w4.setCell ⟨q + 1, 0, none⟩ (.slice B n d)).setCell ⟨q + 1, 1, none⟩ (.int .i64 rt)).setCell ⟨q + 1, 2, none⟩ (.int .i64 fr)) q [.cells #[.slice A n c, .int .i64 rt, .int .i64 fr] 24, .cells #[.slice B n d, .int .i64 rt, .int .i64 fr] 24] := (((FR.out.set 1 0 rfl rfl (.slice B n d)).set 1 1 rfl rfl (.int .i64 rt)).set 1 2 rfl rfl (.int .i64 fr))
    refine bodyPost_ret (res_css Try.results9 (by rfl) (FZ.load 1 rfl rfl Try.underlying24 (by kernel_rfl))) rfl ?_
    rw [HE.out]
    have hrs := own_base (own_apart (own_apart (own_apart (OW.out) (k := q + 1) (o := 0) (u := .slice B n d) (by omega)) (k := q + 1) (o := 1) (u := .int .i64 rt) (by omega)) (k := q + 1) (o := 2) (u := .int .i64 fr) (by omega)) (show w.heap.size ≤ _ from by omega)
    exact ⟨_, _, _, rfl, ns_own hrs, FZ.out, Or.inl hrs⟩
  · have b1 : decide (key < 0) = false := by simpa using hk
    cases hr : rightT (ns, rt, fr)
    · rw [hr] at RT
      replace RT := Lib.hid RT
      have HE := Lib.hid (show R = ((ns, rt, fr), 0, 1) by rw [← hR]; unfold insT; rw [if_pos (Or.inl hr)])
      clear hk hR hr hlen
      go_enter Try.func9, Try.ntmps9
      have FR0 := FR.out.sz
      simp only [List.length_cons, List.length_nil] at FR0
      have c00 : v2.cell? ⟨q, 0, none⟩ = some (.slice A n c) := FR.out.cell 0 0 rfl rfl rfl
      have c01 : v2.cell? ⟨q, 1, none⟩ = some (.int .i64 rt) := FR.out.cell 0 1 rfl rfl rfl
      have c02 : v2.cell? ⟨q, 2, none⟩ = some (.int .i64 fr) := FR.out.cell 0 2 rfl rfl rfl
      have c10 : v2.cell? ⟨q + 1, 0, none⟩ = some (.slice none 0 0) := FR.out.cell 1 0 rfl rfl rfl
      have c11 : v2.cell? ⟨q + 1, 1, none⟩ = some (.int .i64 0) := FR.out.cell 1 1 rfl rfl rfl
      have c12 : v2.cell? ⟨q + 1, 2, none⟩ = some (.int .i64 0) := FR.out.cell 1 2 rfl rfl rfl
      go_wp2_with fail
      refine ((CP.out _ (FR.out.es RX.out))).mono ?_
      rintro e w3 ⟨B, d, rfl, hown, hb⟩
      clear c00 c01 c02 c10 c11 c12
      replace FR := Lib.hid (FR.out.step hb)
      clear hb
      have OW := Lib.hid (own_base hown FR0)
      clear hown FR0 hv1 z1 hv2 z2
      have gex := FR.out.sz
      simp only [List.length_cons, List.length_nil] at gex
      obtain ⟨w4, hw4⟩ : ∃ W, w3.alloc (.cells #[.slice B n d, .int .i64 rt, .int .i64 fr] 54) = W := ⟨_, rfl⟩
      have hb : Below w3.heap.size w3 w4 := hw4 ▸ (Below.refl _ _).alloc (Nat.le_refl _) _
      have hv : w4.heap[w3.heap.size]? = some (.cells #[.slice B n d, .int .i64 rt, .int .i64 fr] 54) := hw4 ▸ heap_alloc_new _ _
      replace FR := Lib.hid (FR.out.step hb)
      replace OW := Lib.hid (own_below OW.out hb)
      have Vx := Lib.hid hv
      generalize hsx : w3.heap.size = sx at *
      clear hb hv
      have c00 : w4.cell? ⟨q, 0, none⟩ = some (.slice A n c) := FR.out.cell 0 0 rfl rfl rfl
      have c01 : w4.cell? ⟨q, 1, none⟩ = some (.int .i64 rt) := FR.out.cell 0 1 rfl rfl rfl
      have c02 : w4.cell? ⟨q, 2, none⟩ = some (.int .i64 fr) := FR.out.cell 0 2 rfl rfl rfl
      have c10 : w4.cell? ⟨q + 1, 0, none⟩ = some (.slice none 0 0) := FR.out.cell 1 0 rfl rfl rfl
      have c11 : w4.cell? ⟨q + 1, 1, none⟩ = some (.int .i64 0) := FR.out.cell 1 1 rfl rfl rfl
      have c12 : w4.cell? ⟨q + 1, 2, none⟩ = some (.int .i64 0) := FR.out.cell 1 2 rfl rfl rfl
      have cx0 : w4.cell? ⟨sx, 0, none⟩ = some (.slice B n d) := (blk_cell Vx.out 0).trans rfl
      have cx1 : w4.cell? ⟨sx, 1, none⟩ = some (.int .i64 rt) := (blk_cell Vx.out 1).trans rfl
      have cx2 : w4.cell? ⟨sx, 2, none⟩ = some (.int .i64 fr) := (blk_cell Vx.out 2).trans rfl
      go_wp2_with fail
      refine ((RT.out _ (FR.out.es RX.out))).mono ?_
      rintro e w5 ⟨rfl, hb⟩
      clear c00 c01 c02 c10 c11 c12 cx0 cx1 cx2
      replace FR := Lib.hid (FR.out.step hb)
      replace OW := Lib.hid (own_below OW.out hb)
      replace Vx := Lib.hid (blk_below Vx.out hb (blk_lt Vx.out))
      clear hb
      have c00 : w5.cell? ⟨q, 0, none⟩ = some (.slice A n c) := FR.out.cell 0 0 rfl rfl rfl
      have f00 : w5.frozen? ⟨q, 0, none⟩ = false := FR.out.frozen 0 0 rfl rfl
      have c01 : w5.cell? ⟨q, 1, none⟩ = some (.int .i64 rt) := FR.out.cell 0 1 rfl rfl rfl
      have f01 : w5.frozen? ⟨q, 1, none⟩ = false := FR.out.frozen 0 1 rfl rfl
      have c02 : w5.cell? ⟨q, 2, none⟩ = some (.int .i64 fr) := FR.out.cell 0 2 rfl rfl rfl
      have f02 : w5.frozen? ⟨q, 2, none⟩ = false := FR.out.frozen 0 2 rfl rfl
      have c10 : w5.cell? ⟨q + 1, 0, none⟩ = some (.slice none 0 0) := FR.out.cell 1 0 rfl rfl rfl
      have f10 : w5.frozen? ⟨q + 1, 0, none⟩ = false := FR.out.frozen 1 0 rfl rfl
      have c11 : w5.cell? ⟨q + 1, 1, none⟩ = some (.int .i64 0) := FR.out.cell 1 1 rfl rfl rfl
      have f11 : w5.frozen? ⟨q + 1, 1, none⟩ = false := FR.out.frozen 1 1 rfl rfl
      have c12 : w5.cell? ⟨q + 1, 2, none⟩ = some (.int .i64 0) := FR.out.cell 1 2 rfl rfl rfl
      have f12 : w5.frozen? ⟨q + 1, 2, none⟩ = false := FR.out.frozen 1 2 rfl rfl
      have cx0 : w5.cell? ⟨sx, 0, none⟩ = some (.slice B n d) := (blk_cell Vx.out 0).trans rfl
      have fx0 : w5.frozen? ⟨sx, 0, none⟩ = false := blk_frozen Vx.out 0
      have cx1 : w5.cell? ⟨sx, 1, none⟩ = some (.int .i64 rt) := (blk_cell Vx.out 1).trans rfl
      have fx1 : w5.frozen? ⟨sx, 1, none⟩ = false := blk_frozen Vx.out 1
      have cx2 : w5.cell? ⟨sx, 2, none⟩ = some (.int .i64 fr) := (blk_cell Vx.out 2).trans rfl
      have fx2 : w5.frozen? ⟨sx, 2, none⟩ = false := blk_frozen Vx.out 2
      go_wp2
      have FZ : Fr w (((w5.setCell ⟨q + 1, 0, none⟩ (.slice B n d)).setCell ⟨q + 1, 1, none⟩ (.int .i64 rt)).setCell ⟨q + 1, 2, none⟩ (.int .i64 fr)) q [.cells #[.slice A n c, .int .i64 rt, .int .i64 fr] 24, .cells #[.slice B n d, .int .i64 rt, .int .i64 fr] 24] := (((FR.out.set 1 0 rfl rfl (.slice B n d)).set 1 1 rfl rfl (.int .i64 rt)).set 1 2 rfl rfl (.int .i64 fr))
      refine bodyPost_ret (res_css Try.results9 (by rfl) (FZ.load 1 rfl rfl Try.underlying24 (by kernel_rfl))) rfl ?_
      rw [HE.out]
      have hrs := own_base (own_apart (own_apart (own_apart (OW.out) (k := q + 1) (o := 0) (u := .slice B n d) (by omega)) (k := q + 1) (o := 1) (u := .int .i64 rt) (by omega)) (k := q + 1) (o := 2) (u := .int .i64 fr) (by omega)) (show w.heap.size ≤ _ from by omega)
      exact ⟨_, _, _, rfl, ns_own hrs, FZ.out, Or.inl hrs⟩
    · rw [hr] at RT
      replace RT := Lib.hid RT
      obtain ⟨fl, l, hok⟩ := TOk.of hr
      have FW := fun (B : Option Addr) (d : Nat) (W : World) (h : Ns W B n d ns) => tpFindW_any B n d ns rt fr key W h hn fl l hok
      rcases hok.find key with ⟨x, hxl, hkx, ct, _, _, he⟩ | ⟨hnew, ct, _, he⟩
      · rw [he] at FW
        replace FW := Lib.hid FW
        have HE := Lib.hid (show R = ((ns, rt, fr), 0, 8) from by
          rw [← hR]; unfold insT; rw [if_neg (by rw [hr]; simp; omega)]
          have hp : placeT ns key = x := hok.place_some hxl hkx
          have hb := hok.inN x hxl
          rw [show placeT (ns, rt, fr).1 key = x from hp, if_pos hb.1])
        clear hk hR hr hlen hok hxl hkx he
        go_enter Try.func9, Try.ntmps9
        have FR0 := FR.out.sz
        simp only [List.length_cons, List.length_nil] at FR0
        have c00 : v2.cell? ⟨q, 0, none⟩ = some (.slice A n c) := FR.out.cell 0 0 rfl rfl rfl
        have c01 : v2.cell? ⟨q, 1, none⟩ = some (.int .i64 rt) := FR.out.cell 0 1 rfl rfl rfl
        have c02 : v2.cell? ⟨q, 2, none⟩ = some (.int .i64 fr) := FR.out.cell 0 2 rfl rfl rfl
        have c10 : v2.cell? ⟨q + 1, 0, none⟩ = some (.slice none 0 0) := FR.out.cell 1 0 rfl rfl rfl
        have c11 : v2.cell? ⟨q + 1, 1, none⟩ = some (.int .i64 0) := FR.out.cell 1 1 rfl rfl rfl
        have c12 : v2.cell? ⟨q + 1, 2, none⟩ = some (.int .i64 0) := FR.out.cell 1 2 rfl rfl rfl
        go_wp2_with fail
        refine ((CP.out _ (FR.out.es RX.out))).mono ?_
        rintro e w3 ⟨B, d, rfl, hown, hb⟩
        clear c00 c01 c02 c10 c11 c12
        replace FR := Lib.hid (FR.out.step hb)
        clear hb
        have OW := Lib.hid (own_base hown FR0)
        clear hown FR0 hv1 z1 hv2 z2
        have gex := FR.out.sz
        simp only [List.length_cons, List.length_nil] at gex
        obtain ⟨w4, hw4⟩ : ∃ W, w3.alloc (.cells #[.slice B n d, .int .i64 rt, .int .i64 fr] 54) = W := ⟨_, rfl⟩
        have hb : Below w3.heap.size w3 w4 := hw4 ▸ (Below.refl _ _).alloc (Nat.le_refl _) _
        have hv : w4.heap[w3.heap.size]? = some (.cells #[.slice B n d, .int .i64 rt, .int .i64 fr] 54) := hw4 ▸ heap_alloc_new _ _
        replace FR := Lib.hid (FR.out.step hb)
        replace OW := Lib.hid (own_below OW.out hb)
        have Vx := Lib.hid hv
        generalize hsx : w3.heap.size = sx at *
        clear hb hv
        have c00 : w4.cell? ⟨q, 0, none⟩ = some (.slice A n c) := FR.out.cell 0 0 rfl rfl rfl
        have c01 : w4.cell? ⟨q, 1, none⟩ = some (.int .i64 rt) := FR.out.cell 0 1 rfl rfl rfl
        have c02 : w4.cell? ⟨q, 2, none⟩ = some (.int .i64 fr) := FR.out.cell 0 2 rfl rfl rfl
        have c10 : w4.cell? ⟨q + 1, 0, none⟩ = some (.slice none 0 0) := FR.out.cell 1 0 rfl rfl rfl
        have c11 : w4.cell? ⟨q + 1, 1, none⟩ = some (.int .i64 0) := FR.out.cell 1 1 rfl rfl rfl
        have c12 : w4.cell? ⟨q + 1, 2, none⟩ = some (.int .i64 0) := FR.out.cell 1 2 rfl rfl rfl
        have cx0 : w4.cell? ⟨sx, 0, none⟩ = some (.slice B n d) := (blk_cell Vx.out 0).trans rfl
        have cx1 : w4.cell? ⟨sx, 1, none⟩ = some (.int .i64 rt) := (blk_cell Vx.out 1).trans rfl
        have cx2 : w4.cell? ⟨sx, 2, none⟩ = some (.int .i64 fr) := (blk_cell Vx.out 2).trans rfl
        go_wp2_with fail
        refine ((RT.out _ (FR.out.es RX.out))).mono ?_
        rintro e w5 ⟨rfl, hb⟩
        clear c00 c01 c02 c10 c11 c12 cx0 cx1 cx2
        replace FR := Lib.hid (FR.out.step hb)
        replace OW := Lib.hid (own_below OW.out hb)
        replace Vx := Lib.hid (blk_below Vx.out hb (blk_lt Vx.out))
        clear hb
        have c00 : w5.cell? ⟨q, 0, none⟩ = some (.slice A n c) := FR.out.cell 0 0 rfl rfl rfl
        have c01 : w5.cell? ⟨q, 1, none⟩ = some (.int .i64 rt) := FR.out.cell 0 1 rfl rfl rfl
        have c02 : w5.cell? ⟨q, 2, none⟩ = some (.int .i64 fr) := FR.out.cell 0 2 rfl rfl rfl
        have c10 : w5.cell? ⟨q + 1, 0, none⟩ = some (.slice none 0 0) := FR.out.cell 1 0 rfl rfl rfl
        have c11 : w5.cell? ⟨q + 1, 1, none⟩ = some (.int .i64 0) := FR.out.cell 1 1 rfl rfl rfl
        have c12 : w5.cell? ⟨q + 1, 2, none⟩ = some (.int .i64 0) := FR.out.cell 1 2 rfl rfl rfl
        have cx0 : w5.cell? ⟨sx, 0, none⟩ = some (.slice B n d) := (blk_cell Vx.out 0).trans rfl
        have cx1 : w5.cell? ⟨sx, 1, none⟩ = some (.int .i64 rt) := (blk_cell Vx.out 1).trans rfl
        have cx2 : w5.cell? ⟨sx, 2, none⟩ = some (.int .i64 fr) := (blk_cell Vx.out 2).trans rfl
        go_wp2_with fail
        refine ((FW.out B d _ (ns_own OW.out))).mono ?_
        rintro e w6 ⟨rfl, hb⟩
        clear c00 c01 c02 c10 c11 c12 cx0 cx1 cx2
        replace FR := Lib.hid (FR.out.step hb)
        replace OW := Lib.hid (own_below OW.out hb)
        replace Vx := Lib.hid (blk_below Vx.out hb (blk_lt Vx.out))
        clear hb
        have c00 : w6.cell? ⟨q, 0, none⟩ = some (.slice A n c) := FR.out.cell 0 0 rfl rfl rfl
        have f00 : w6.frozen? ⟨q, 0, none⟩ = false := FR.out.frozen 0 0 rfl rfl
        have c01 : w6.cell? ⟨q, 1, none⟩ = some (.int .i64 rt) := FR.out.cell 0 1 rfl rfl rfl
        have f01 : w6.frozen? ⟨q, 1, none⟩ = false := FR.out.frozen 0 1 rfl rfl
        have c02 : w6.cell? ⟨q, 2, none⟩ = some (.int .i64 fr) := FR.out.cell 0 2 rfl rfl rfl
        have f02 : w6.frozen? ⟨q, 2, none⟩ = false := FR.out.frozen 0 2 rfl rfl
        have c10 : w6.cell? ⟨q + 1, 0, none⟩ = some (.slice none 0 0) := FR.out.cell 1 0 rfl rfl rfl
        have f10 : w6.frozen? ⟨q + 1, 0, none⟩ = false := FR.out.frozen 1 0 rfl rfl
        have c11 : w6.cell? ⟨q + 1, 1, none⟩ = some (.int .i64 0) := FR.out.cell 1 1 rfl rfl rfl
        have f11 : w6.frozen? ⟨q + 1, 1, none⟩ = false := FR.out.frozen 1 1 rfl rfl
        have c12 : w6.cell? ⟨q + 1, 2, none⟩ = some (.int .i64 0) := FR.out.cell 1 2 rfl rfl rfl
        have f12 : w6.frozen? ⟨q + 1, 2, none⟩ = false := FR.out.frozen 1 2 rfl rfl
        have cx0 : w6.cell? ⟨sx, 0, none⟩ = some (.slice B n d) := (blk_cell Vx.out 0).trans rfl
        have fx0 : w6.frozen? ⟨sx, 0, none⟩ = false := blk_frozen Vx.out 0
        have cx1 : w6.cell? ⟨sx, 1, none⟩ = some (.int .i64 rt) := (blk_cell Vx.out 1).trans rfl
        have fx1 : w6.frozen? ⟨sx, 1, none⟩ = false := blk_frozen Vx.out 1
        have cx2 : w6.cell? ⟨sx, 2, none⟩ = some (.int .i64 fr) := (blk_cell Vx.out 2).trans rfl
        have fx2 : w6.frozen? ⟨sx, 2, none⟩ = false := blk_frozen Vx.out 2
        go_wp2
        have FZ : Fr w (((w6.setCell ⟨q + 1, 0, none⟩ (.slice B n d)).setCell ⟨q + 1, 1, none⟩ (.int .i64 rt)).setCell ⟨q + 1, 2, none⟩ (.int .i64 fr)) q [.cells #[.slice A n c, .int .i64 rt, .int .i64 fr] 24, .cells #[.slice B n d, .int .i64 rt, .int .i64 fr] 24] := (((FR.out.set 1 0 rfl rfl (.slice B n d)).set 1 1 rfl rfl (.int .i64 rt)).set 1 2 rfl rfl (.int .i64 fr))
        refine bodyPost_ret (res_css Try.results9 (by rfl) (FZ.load 1 rfl rfl Try.underlying24 (by kernel_rfl))) rfl ?_
        rw [HE.out]
        have hrs := own_base (own_apart (own_apart (own_apart (OW.out) (k := q + 1) (o := 0) (u := .slice B n d) (by omega)) (k := q + 1) (o := 1) (u := .int .i64 rt) (by omega)) (k := q + 1) (o := 2) (u := .int .i64 fr) (by omega)) (show w.heap.size ≤ _ from by omega)
        exact ⟨_, _, _, rfl, ns_own hrs, FZ.out, Or.inl hrs⟩
      · rw [he] at FW
        replace FW := Lib.hid FW
        cases fl with
        | nil =>
          have hfr : fr = -1 := hok.chain
          have b2 : (fr == -1) = true := by simp [hfr]
          have HE := Lib.hid (show R = ((ns, rt, fr), 0, 6) from by
            rw [← hR]; unfold insT; rw [if_neg (by rw [hr]; simp; omega)]
            rw [show placeT (ns, rt, fr).1 key = -1 from hok.place_none hnew, if_neg (by omega), if_pos hfr])
          clear hk hR hr hlen hok hnew he hfr
          go_enter Try.func9, Try.ntmps9
          have FR0 := FR.out.sz
          simp only [List.length_cons, List.length_nil] at FR0
          have c00 : v2.cell? ⟨q, 0, none⟩ = some (.slice A n c) := FR.out.cell 0 0 rfl rfl rfl
          have c01 : v2.cell? ⟨q, 1, none⟩ = some (.int .i64 rt) := FR.out.cell 0 1 rfl rfl rfl
          have c02 : v2.cell? ⟨q, 2, none⟩ = some (.int .i64 fr) := FR.out.cell 0 2 rfl rfl rfl
          have c10 : v2.cell? ⟨q + 1, 0, none⟩ = some (.slice none 0 0) := FR.out.cell 1 0 rfl rfl rfl
          have c11 : v2.cell? ⟨q + 1, 1, none⟩ = some (.int .i64 0) := FR.out.cell 1 1 rfl rfl rfl
          have c12 : v2.cell? ⟨q + 1, 2, none⟩ = some (.int .i64 0) := FR.out.cell 1 2 rfl rfl rfl
          go_wp2_with fail
          refine ((CP.out _ (FR.out.es RX.out))).mono ?_
          rintro e w3 ⟨B, d, rfl, hown, hb⟩
          clear c00 c01 c02 c10 c11 c12
          replace FR := Lib.hid (FR.out.step hb)
          clear hb
          have OW := Lib.hid (own_base hown FR0)
          clear hown FR0 hv1 z1 hv2 z2
          have gex := FR.out.sz
          simp only [List.length_cons, List.length_nil] at gex
          obtain ⟨w4, hw4⟩ : ∃ W, w3.alloc (.cells #[.slice B n d, .int .i64 rt, .int .i64 fr] 54) = W := ⟨_, rfl⟩
          have hb : Below w3.heap.size w3 w4 := hw4 ▸ (Below.refl _ _).alloc (Nat.le_refl _) _
          have hv : w4.heap[w3.heap.size]? = some (.cells #[.slice B n d, .int .i64 rt, .int .i64 fr] 54) := hw4 ▸ heap_alloc_new _ _
          replace FR := Lib.hid (FR.out.step hb)
          replace OW := Lib.hid (own_below OW.out hb)
          have Vx := Lib.hid hv
          generalize hsx : w3.heap.size = sx at *
          clear hb hv
          have c00 : w4.cell? ⟨q, 0, none⟩ = some (.slice A n c) := FR.out.cell 0 0 rfl rfl rfl
          have c01 : w4.cell? ⟨q, 1, none⟩ = some (.int .i64 rt) := FR.out.cell 0 1 rfl rfl rfl
          have c02 : w4.cell? ⟨q, 2, none⟩ = some (.int .i64 fr) := FR.out.cell 0 2 rfl rfl rfl
          have c10 : w4.cell? ⟨q + 1, 0, none⟩ = some (.slice none 0 0) := FR.out.cell 1 0 rfl rfl rfl
          have c11 : w4.cell? ⟨q + 1, 1, none⟩ = some (.int .i64 0) := FR.out.cell 1 1 rfl rfl rfl
          have c12 : w4.cell? ⟨q + 1, 2, none⟩ = some (.int .i64 0) := FR.out.cell 1 2 rfl rfl rfl
          have cx0 : w4.cell? ⟨sx, 0, none⟩ = some (.slice B n d) := (blk_cell Vx.out 0).trans rfl
          have cx1 : w4.cell? ⟨sx, 1, none⟩ = some (.int .i64 rt) := (blk_cell Vx.out 1).trans rfl
          have cx2 : w4.cell? ⟨sx, 2, none⟩ = some (.int .i64 fr) := (blk_cell Vx.out 2).trans rfl
          go_wp2_with fail
          refine ((RT.out _ (FR.out.es RX.out))).mono ?_
          rintro e w5 ⟨rfl, hb⟩
          clear c00 c01 c02 c10 c11 c12 cx0 cx1 cx2
          replace FR := Lib.hid (FR.out.step hb)
          replace OW := Lib.hid (own_below OW.out hb)
          replace Vx := Lib.hid (blk_below Vx.out hb (blk_lt Vx.out))
          clear hb
          have c00 : w5.cell? ⟨q, 0, none⟩ = some (.slice A n c) := FR.out.cell 0 0 rfl rfl rfl
          have c01 : w5.cell? ⟨q, 1, none⟩ = some (.int .i64 rt) := FR.out.cell 0 1 rfl rfl rfl
          have c02 : w5.cell? ⟨q, 2, none⟩ = some (.int .i64 fr) := FR.out.cell 0 2 rfl rfl rfl
          have c10 : w5.cell? ⟨q + 1, 0, none⟩ = some (.slice none 0 0) := FR.out.cell 1 0 rfl rfl rfl
          have c11 : w5.cell? ⟨q + 1, 1, none⟩ = some (.int .i64 0) := FR.out.cell 1 1 rfl rfl rfl
          have c12 : w5.cell? ⟨q + 1, 2, none⟩ = some (.int .i64 0) := FR.out.cell 1 2 rfl rfl rfl
          have cx0 : w5.cell? ⟨sx, 0, none⟩ = some (.slice B n d) := (blk_cell Vx.out 0).trans rfl
          have cx1 : w5.cell? ⟨sx, 1, none⟩ = some (.int .i64 rt) := (blk_cell Vx.out 1).trans rfl
          have cx2 : w5.cell? ⟨sx, 2, none⟩ = some (.int .i64 fr) := (blk_cell Vx.out 2).trans rfl
          go_wp2_with fail
          refine ((FW.out B d _ (ns_own OW.out))).mono ?_
          rintro e w6 ⟨rfl, hb⟩
          clear c00 c01 c02 c10 c11 c12 cx0 cx1 cx2
          replace FR := Lib.hid (FR.out.step hb)
          replace OW := Lib.hid (own_below OW.out hb)
          replace Vx := Lib.hid (blk_below Vx.out hb (blk_lt Vx.out))
          clear hb
          have c00 : w6.cell? ⟨q, 0, none⟩ = some (.slice A n c) := FR.out.cell 0 0 rfl rfl rfl
          have f00 : w6.frozen? ⟨q, 0, none⟩ = false := FR.out.frozen 0 0 rfl rfl
          have c01 : w6.cell? ⟨q, 1, none⟩ = some (.int .i64 rt) := FR.out.cell 0 1 rfl rfl rfl
          have f01 : w6.frozen? ⟨q, 1, none⟩ = false := FR.out.frozen 0 1 rfl rfl
          have c02 : w6.cell? ⟨q, 2, none⟩ = some (.int .i64 fr) := FR.out.cell 0 2 rfl rfl rfl
          have f02 : w6.frozen? ⟨q, 2, none⟩ = false := FR.out.frozen 0 2 rfl rfl
          have c10 : w6.cell? ⟨q + 1, 0, none⟩ = some (.slice none 0 0) := FR.out.cell 1 0 rfl rfl rfl
          have f10 : w6.frozen? ⟨q + 1, 0, none⟩ = false := FR.out.frozen 1 0 rfl rfl
          have c11 : w6.cell? ⟨q + 1, 1, none⟩ = some (.int .i64 0) := FR.out.cell 1 1 rfl rfl rfl
          have f11 : w6.frozen? ⟨q + 1, 1, none⟩ = false := FR.out.frozen 1 1 rfl rfl
          have c12 : w6.cell? ⟨q + 1, 2, none⟩ = some (.int .i64 0) := FR.out.cell 1 2 rfl rfl rfl
          have f12 : w6.frozen? ⟨q + 1, 2, none⟩ = false := FR.out.frozen 1 2 rfl rfl
          have cx0 : w6.cell? ⟨sx, 0, none⟩ = some (.slice B n d) := (blk_cell Vx.out 0).trans rfl
          have fx0 : w6.frozen? ⟨sx, 0, none⟩ = false := blk_frozen Vx.out 0
          have cx1 : w6.cell? ⟨sx, 1, none⟩ = some (.int .i64 rt) := (blk_cell Vx.out 1).trans rfl
          have fx1 : w6.frozen? ⟨sx, 1, none⟩ = false := blk_frozen Vx.out 1
          have cx2 : w6.cell? ⟨sx, 2, none⟩ = some (.int .i64 fr) := (blk_cell Vx.out 2).trans rfl
          have fx2 : w6.frozen? ⟨sx, 2, none⟩ = false := blk_frozen Vx.out 2
          go_wp2
          have FZ : Fr w (((w6.setCell ⟨q + 1, 0, none⟩ (.slice B n d)).setCell ⟨q + 1, 1, none⟩ (.int .i64 rt)).setCell ⟨q + 1, 2, none⟩ (.int .i64 fr)) q [.cells #[.slice A n c, .int .i64 rt, .int .i64 fr] 24, .cells #[.slice B n d, .int .i64 rt, .int .i64 fr] 24] := (((FR.out.set 1 0 rfl rfl (.slice B n d)).set 1 1 rfl rfl (.int .i64 rt)).set 1 2 rfl rfl (.int .i64 fr))
          refine bodyPost_ret (res_css Try.results9 (by rfl) (FZ.load 1 rfl rfl Try.underlying24 (by kernel_rfl))) rfl ?_
          rw [HE.out]
          have hrs := own_base (own_apart (own_apart (own_apart (OW.out) (k := q + 1) (o := 0) (u := .slice B n d) (by omega)) (k := q + 1) (o := 1) (u := .int .i64 rt) (by omega)) (k := q + 1) (o := 2) (u := .int .i64 fr) (by omega)) (show w.heap.size ≤ _ from by omega)
          exact ⟨_, _, _, rfl, ns_own hrs, FZ.out, Or.inl hrs⟩
        | cons i0 fl =>
          have hch := hok.chain
          obtain ⟨hfr, g0, g1, _, _⟩ := hch
          simp only at hfr g1
          subst hfr
          rw [hlen] at g1
          obtain ⟨i, rfl⟩ : ∃ i : Nat, fr = i := ⟨fr.toNat, by omega⟩
          have hin : i < n := by omega
          have b2 : ((i : Int) == -1) = false := by simp
          have hil : (i : Int) ∉ l := fun hm => ((hok.cover _).1 hm).2.2 (by simp)
          have hnd : ∀ j : Int, 0 ≤ j → ndAt (ns.set i (newN key prio)) j = if j = (i : Int) then newN key prio else ndAt ns j := fun j h0 => ndAt_set (ns := ns) (i := (i : Int)) g0 h0 (by rw [hlen]; exact g1)
          have hj : ∀ x ∈ l, 0 ≤ x ∧ x ≠ (i : Int) := fun x hx => ⟨(hok.inN x hx).1, fun e => hil (e ▸ hx)⟩
          have HT1 := Lib.hid (show Tr (ns.set i (newN key prio)) rt l from Tr.same hok.tree (by simp) fun y hy => by rw [hnd y (hj y hy).1, if_neg (hj y hy).2])
          have HS1 := Lib.hid (show Rise (ns.set i (newN key prio)) l from List.Pairwise.imp_of_mem (fun {x y} hx hy hlt => by unfold keyT; rw [hnd x (hj x hx).1, hnd y (hj y hy).1, if_neg (hj x hx).2, if_neg (hj y hy).2]; exact hlt) hok.rise)
          have HK1 := Lib.hid (show ∀ x ∈ l, keyT (ns.set i (newN key prio)) x ≠ keyT (ns.set i (newN key prio)) (i : Int) from fun x hx => by unfold keyT; rw [hnd x (hj x hx).1, hnd (i : Int) g0, if_neg (hj x hx).2, if_pos rfl]; exact hnew x hx)
          have HIL := Lib.hid hil
          have HD := Lib.hid (fun (ns2 : List Nd) (r : Int) (hw : WithOk (ns.set i (newN key prio)) l (i : Int) ns2 r) => (by rw [← hR]; exact ins_done (p := (ns, rt, (i : Int))) hok (by omega) hnew hw : R = ((ns2, r, (ndAt ns (i : Int)).l), (i : Int), 0)))
          clear hk hR hr hlen hok hnew he hj hnd hil g0 g1
          go_enter Try.func9, Try.ntmps9
          obtain ⟨nx, hnx⟩ : ∃ nx, (ndAt ns (i : Int)).l = nx := ⟨_, rfl⟩
          have FR0 := FR.out.sz
          simp only [List.length_cons, List.length_nil] at FR0
          have c00 : v2.cell? ⟨q, 0, none⟩ = some (.slice A n c) := FR.out.cell 0 0 rfl rfl rfl
          have c01 : v2.cell? ⟨q, 1, none⟩ = some (.int .i64 rt) := FR.out.cell 0 1 rfl rfl rfl
          have c02 : v2.cell? ⟨q, 2, none⟩ = some (.int .i64 (i : Int)) := FR.out.cell 0 2 rfl rfl rfl
          have c10 : v2.cell? ⟨q + 1, 0, none⟩ = some (.slice none 0 0) := FR.out.cell 1 0 rfl rfl rfl
          have c11 : v2.cell? ⟨q + 1, 1, none⟩ = some (.int .i64 0) := FR.out.cell 1 1 rfl rfl rfl
          have c12 : v2.cell? ⟨q + 1, 2, none⟩ = some (.int .i64 0) := FR.out.cell 1 2 rfl rfl rfl
          go_wp2_with fail
          refine ((CP.out _ (FR.out.es RX.out))).mono ?_
          rintro e w3 ⟨B, d, rfl, hown, hb⟩
          clear c00 c01 c02 c10 c11 c12
          replace FR := Lib.hid (FR.out.step hb)
          clear hb
          have OW := Lib.hid (own_base hown FR0)
          clear hown FR0 hv1 z1 hv2 z2
          obtain ⟨gg, rfl⟩ := own_some9 OW.out (by omega)
          have gex := FR.out.sz
          simp only [List.length_cons, List.length_nil] at gex
          obtain ⟨w4, hw4⟩ : ∃ W, w3.alloc (.cells #[.slice (some ⟨gg, 0, none⟩) n d, .int .i64 rt, .int .i64 (i : Int)] 54) = W := ⟨_, rfl⟩
          have hb : Below w3.heap.size w3 w4 := hw4 ▸ (Below.refl _ _).alloc (Nat.le_refl _) _
          have hv : w4.heap[w3.heap.size]? = some (.cells #[.slice (some ⟨gg, 0, none⟩) n d, .int .i64 rt, .int .i64 (i : Int)] 54) := hw4 ▸ heap_alloc_new _ _
          replace FR := Lib.hid (FR.out.step hb)
          replace OW := Lib.hid (own_below OW.out hb)
          have Vx := Lib.hid hv
          generalize hsx : w3.heap.size = sx at *
          clear hb hv
          have c00 : w4.cell? ⟨q, 0, none⟩ = some (.slice A n c) := FR.out.cell 0 0 rfl rfl rfl
          have c01 : w4.cell? ⟨q, 1, none⟩ = some (.int .i64 rt) := FR.out.cell 0 1 rfl rfl rfl
          have c02 : w4.cell? ⟨q, 2, none⟩ = some (.int .i64 (i : Int)) := FR.out.cell 0 2 rfl rfl rfl
          have c10 : w4.cell? ⟨q + 1, 0, none⟩ = some (.slice none 0 0) := FR.out.cell 1 0 rfl rfl rfl
          have c11 : w4.cell? ⟨q + 1, 1, none⟩ = some (.int .i64 0) := FR.out.cell 1 1 rfl rfl rfl
          have c12 : w4.cell? ⟨q + 1, 2, none⟩ = some (.int .i64 0) := FR.out.cell 1 2 rfl rfl rfl
          have cx0 : w4.cell? ⟨sx, 0, none⟩ = some (.slice (some ⟨gg, 0, none⟩) n d) := (blk_cell Vx.out 0).trans rfl
          have cx1 : w4.cell? ⟨sx, 1, none⟩ = some (.int .i64 rt) := (blk_cell Vx.out 1).trans rfl
          have cx2 : w4.cell? ⟨sx, 2, none⟩ = some (.int .i64 (i : Int)) := (blk_cell Vx.out 2).trans rfl
          go_wp2_with fail
          refine ((RT.out _ (FR.out.es RX.out))).mono ?_
          rintro e w5 ⟨rfl, hb⟩
          clear c00 c01 c02 c10 c11 c12 cx0 cx1 cx2
          replace FR := Lib.hid (FR.out.step hb)
          replace OW := Lib.hid (own_below OW.out hb)
          replace Vx := Lib.hid (blk_below Vx.out hb (blk_lt Vx.out))
          clear hb
          have c00 : w5.cell? ⟨q, 0, none⟩ = some (.slice A n c) := FR.out.cell 0 0 rfl rfl rfl
          have c01 : w5.cell? ⟨q, 1, none⟩ = some (.int .i64 rt) := FR.out.cell 0 1 rfl rfl rfl
          have c02 : w5.cell? ⟨q, 2, none⟩ = some (.int .i64 (i : Int)) := FR.out.cell 0 2 rfl rfl rfl
          have c10 : w5.cell? ⟨q + 1, 0, none⟩ = some (.slice none 0 0) := FR.out.cell 1 0 rfl rfl rfl
          have c11 : w5.cell? ⟨q + 1, 1, none⟩ = some (.int .i64 0) := FR.out.cell 1 1 rfl rfl rfl
          have c12 : w5.cell? ⟨q + 1, 2, none⟩ = some (.int .i64 0) := FR.out.cell 1 2 rfl rfl rfl
          have cx0 : w5.cell? ⟨sx, 0, none⟩ = some (.slice (some ⟨gg, 0, none⟩) n d) := (blk_cell Vx.out 0).trans rfl
          have cx1 : w5.cell? ⟨sx, 1, none⟩ = some (.int .i64 rt) := (blk_cell Vx.out 1).trans rfl
          have cx2 : w5.cell? ⟨sx, 2, none⟩ = some (.int .i64 (i : Int)) := (blk_cell Vx.out 2).trans rfl
          go_wp2_with fail
          refine ((FW.out _ d _ (ns_own OW.out))).mono ?_
          rintro e w6 ⟨rfl, hb⟩
          clear c00 c01 c02 c10 c11 c12 cx0 cx1 cx2
          replace FR := Lib.hid (FR.out.step hb)
          replace OW := Lib.hid (own_below OW.out hb)
          replace Vx := Lib.hid (blk_below Vx.out hb (blk_lt Vx.out))
          clear hb
          have hgg := (OW.out.lt gg (by simp [Value.ownBlock])).1
          have BX := Lib.hid (show Bx w6 sx gg n d (q + 2) rt (i : Int) ns from ⟨Vx.out, OW.out⟩)
          have c00 : w6.cell? ⟨q, 0, none⟩ = some (.slice A n c) := FR.out.cell 0 0 rfl rfl rfl
          have f00 : w6.frozen? ⟨q, 0, none⟩ = false := FR.out.frozen 0 0 rfl rfl
          have c01 : w6.cell? ⟨q, 1, none⟩ = some (.int .i64 rt) := FR.out.cell 0 1 rfl rfl rfl
          have f01 : w6.frozen? ⟨q, 1, none⟩ = false := FR.out.frozen 0 1 rfl rfl
          have c02 : w6.cell? ⟨q, 2, none⟩ = some (.int .i64 (i : Int)) := FR.out.cell 0 2 rfl rfl rfl
          have f02 : w6.frozen? ⟨q, 2, none⟩ = false := FR.out.frozen 0 2 rfl rfl
          have c10 : w6.cell? ⟨q + 1, 0, none⟩ = some (.slice none 0 0) := FR.out.cell 1 0 rfl rfl rfl
          have f10 : w6.frozen? ⟨q + 1, 0, none⟩ = false := FR.out.frozen 1 0 rfl rfl
          have c11 : w6.cell? ⟨q + 1, 1, none⟩ = some (.int .i64 0) := FR.out.cell 1 1 rfl rfl rfl
          have f11 : w6.frozen? ⟨q + 1, 1, none⟩ = false := FR.out.frozen 1 1 rfl rfl
          have c12 : w6.cell? ⟨q + 1, 2, none⟩ = some (.int .i64 0) := FR.out.cell 1 2 rfl rfl rfl
          have f12 : w6.frozen? ⟨q + 1, 2, none⟩ = false := FR.out.frozen 1 2 rfl rfl
          have cx0 : w6.cell? ⟨sx, 0, none⟩ = some (.slice (some ⟨gg, 0, none⟩) n d) := (blk_cell Vx.out 0).trans rfl
          have fx0 : w6.frozen? ⟨sx, 0, none⟩ = false := blk_frozen Vx.out 0
          have cx1 : w6.cell? ⟨sx, 1, none⟩ = some (.int .i64 rt) := (blk_cell Vx.out 1).trans rfl
          have fx1 : w6.frozen? ⟨sx, 1, none⟩ = false := blk_frozen Vx.out 1
          have cx2 : w6.cell? ⟨sx, 2, none⟩ = some (.int .i64 (i : Int)) := (blk_cell Vx.out 2).trans rfl
          have fx2 : w6.frozen? ⟨sx, 2, none⟩ = false := blk_frozen Vx.out 2
          go_wp2_with fail
          refine (tpTake_any sx gg n d (q + 2) i rt key prio ns _ hin BX.out).mono ?_
          rintro e w7 ⟨rfl, hbx, hgp⟩
          rw [hnx] at hbx
          clear c00 f00 c01 f01 c02 f02 c10 f10 c11 f11 c12 f12 cx0 fx0 cx1 fx1 cx2 fx2
          replace FR := Lib.hid (FR.out.gp hgp (by simp only [List.length_cons, List.length_nil]; omega) (by simp only [List.length_cons, List.length_nil]; omega))
          have Vx := Lib.hid hbx.box
          have OW := Lib.hid hbx.own
          have WT := Lib.hid (tpWith_any sx gg n d (q + 2) rt nx hn i hin l.length (ns.set i (newN key prio)) l rt w7 (Nat.le_refl _) hbx HT1.out HS1.out HIL.out HK1.out)
          clear hbx hgp BX
          have c00 : w7.cell? ⟨q, 0, none⟩ = some (.slice A n c) := FR.out.cell 0 0 rfl rfl rfl
          have f00 : w7.frozen? ⟨q, 0, none⟩ = false := FR.out.frozen 0 0 rfl rfl
          have c01 : w7.cell? ⟨q, 1, none⟩ = some (.int .i64 rt) := FR.out.cell 0 1 rfl rfl rfl
          have f01 : w7.frozen? ⟨q, 1, none⟩ = false := FR.out.frozen 0 1 rfl rfl
          have c02 : w7.cell? ⟨q, 2, none⟩ = some (.int .i64 (i : Int)) := FR.out.cell 0 2 rfl rfl rfl
          have f02 : w7.frozen? ⟨q, 2, none⟩ = false := FR.out.frozen 0 2 rfl rfl
          have c10 : w7.cell? ⟨q + 1, 0, none⟩ = some (.slice none 0 0) := FR.out.cell 1 0 rfl rfl rfl
          have f10 : w7.frozen? ⟨q + 1, 0, none⟩ = false := FR.out.frozen 1 0 rfl rfl
          have c11 : w7.cell? ⟨q + 1, 1, none⟩ = some (.int .i64 0) := FR.out.cell 1 1 rfl rfl rfl
          have f11 : w7.frozen? ⟨q + 1, 1, none⟩ = false := FR.out.frozen 1 1 rfl rfl
          have c12 : w7.cell? ⟨q + 1, 2, none⟩ = some (.int .i64 0) := FR.out.cell 1 2 rfl rfl rfl
          have f12 : w7.frozen? ⟨q + 1, 2, none⟩ = false := FR.out.frozen 1 2 rfl rfl
          have cx0 : w7.cell? ⟨sx, 0, none⟩ = some (.slice (some ⟨gg, 0, none⟩) n d) := (blk_cell Vx.out 0).trans rfl
          have fx0 : w7.frozen? ⟨sx, 0, none⟩ = false := blk_frozen Vx.out 0
          have cx1 : w7.cell? ⟨sx, 1, none⟩ = some (.int .i64 rt) := (blk_cell Vx.out 1).trans rfl
          have fx1 : w7.frozen? ⟨sx, 1, none⟩ = false := blk_frozen Vx.out 1
          have cx2 : w7.cell? ⟨sx, 2, none⟩ = some (.int .i64 nx) := (blk_cell Vx.out 2).trans rfl
          have fx2 : w7.frozen? ⟨sx, 2, none⟩ = false := blk_frozen Vx.out 2
          go_wp2_with fail
          refine WT.out.mono ?_
          rintro e w8 ⟨ns2, r, hok, rfl, hbx, hgp⟩
          clear c00 f00 c01 f01 c02 f02 c10 f10 c11 f11 c12 f12 cx0 fx0 cx1 fx1 cx2 fx2
          have HE := Lib.hid (HD.out ns2 r hok)
          rw [hnx] at HE
          replace FR := Lib.hid (FR.out.gp hgp (by simp only [List.length_cons, List.length_nil]; omega) (by simp only [List.length_cons, List.length_nil]; omega))
          have Vx := Lib.hid hbx.box
          have oc00 : w8.cell? ⟨q, 0, none⟩ = some (.slice A n c) := FR.out.cell 0 0 rfl rfl rfl
          have of00 : w8.frozen? ⟨q, 0, none⟩ = false := FR.out.frozen 0 0 rfl rfl
          have oc01 : w8.cell? ⟨q, 1, none⟩ = some (.int .i64 rt) := FR.out.cell 0 1 rfl rfl rfl
          have of01 : w8.frozen? ⟨q, 1, none⟩ = false := FR.out.frozen 0 1 rfl rfl
          have oc02 : w8.cell? ⟨q, 2, none⟩ = some (.int .i64 (i : Int)) := FR.out.cell 0 2 rfl rfl rfl
          have of02 : w8.frozen? ⟨q, 2, none⟩ = false := FR.out.frozen 0 2 rfl rfl
          have oc10 : w8.cell? ⟨q + 1, 0, none⟩ = some (.slice none 0 0) := FR.out.cell 1 0 rfl rfl rfl
          have of10 : w8.frozen? ⟨q + 1, 0, none⟩ = false := FR.out.frozen 1 0 rfl rfl
          have oc11 : w8.cell? ⟨q + 1, 1, none⟩ = some (.int .i64 0) := FR.out.cell 1 1 rfl rfl rfl
          have of11 : w8.frozen? ⟨q + 1, 1, none⟩ = false := FR.out.frozen 1 1 rfl rfl
          have oc12 : w8.cell? ⟨q + 1, 2, none⟩ = some (.int .i64 0) := FR.out.cell 1 2 rfl rfl rfl
          have of12 : w8.frozen? ⟨q + 1, 2, none⟩ = false := FR.out.frozen 1 2 rfl rfl
          have ocx0 : w8.cell? ⟨sx, 0, none⟩ = some (.slice (some ⟨gg, 0, none⟩) n d) := (blk_cell Vx.out 0).trans rfl
          have ofx0 : w8.frozen? ⟨sx, 0, none⟩ = false := blk_frozen Vx.out 0
          have ocx1 : w8.cell? ⟨sx, 1, none⟩ = some (.int .i64 rt) := (blk_cell Vx.out 1).trans rfl
          have ofx1 : w8.frozen? ⟨sx, 1, none⟩ = false := blk_frozen Vx.out 1
          have ocx2 : w8.cell? ⟨sx, 2, none⟩ = some (.int .i64 nx) := (blk_cell Vx.out 2).trans rfl
          have ofx2 : w8.frozen? ⟨sx, 2, none⟩ = false := blk_frozen Vx.out 2
          obtain ⟨w9, hw9⟩ : ∃ W, w8.setCell ⟨sx, 1, none⟩ (.int .i64 r) = W := ⟨_, rfl⟩
          have B9 := Lib.hid (show Bx w9 sx gg n d (q + 2) r nx ns2 from hw9 ▸ hbx.setRt r)
          replace FR := Lib.hid (show Fr w w9 q [.cells #[.slice A n c, .int .i64 rt, .int .i64 (i : Int)] 24, .cells #[.slice none 0 0, .int .i64 0, .int .i64 0] 24] from hw9 ▸ FR.out.other (b := sx) (j := 1) (by simp only [List.length_cons, List.length_nil]; omega) (.int .i64 r))
          replace Vx := Lib.hid B9.out.box
          have OW := Lib.hid B9.out.own
          clear hbx hgp hok WT HD B9 HT1 HS1 HK1 HIL
          have c00 : w9.cell? ⟨q, 0, none⟩ = some (.slice A n c) := FR.out.cell 0 0 rfl rfl rfl
          have f00 : w9.frozen? ⟨q, 0, none⟩ = false := FR.out.frozen 0 0 rfl rfl
          have c01 : w9.cell? ⟨q, 1, none⟩ = some (.int .i64 rt) := FR.out.cell 0 1 rfl rfl rfl
          have f01 : w9.frozen? ⟨q, 1, none⟩ = false := FR.out.frozen 0 1 rfl rfl
          have c02 : w9.cell? ⟨q, 2, none⟩ = some (.int .i64 (i : Int)) := FR.out.cell 0 2 rfl rfl rfl
          have f02 : w9.frozen? ⟨q, 2, none⟩ = false := FR.out.frozen 0 2 rfl rfl
          have c10 : w9.cell? ⟨q + 1, 0, none⟩ = some (.slice none 0 0) := FR.out.cell 1 0 rfl rfl rfl
          have f10 : w9.frozen? ⟨q + 1, 0, none⟩ = false := FR.out.frozen 1 0 rfl rfl
          have c11 : w9.cell? ⟨q + 1, 1, none⟩ = some (.int .i64 0) := FR.out.cell 1 1 rfl rfl rfl
          have f11 : w9.frozen? ⟨q + 1, 1, none⟩ = false := FR.out.frozen 1 1 rfl rfl
          have c12 : w9.cell? ⟨q + 1, 2, none⟩ = some (.int .i64 0) := FR.out.cell 1 2 rfl rfl rfl
          have f12 : w9.frozen? ⟨q + 1, 2, none⟩ = false := FR.out.frozen 1 2 rfl rfl
          have cx0 : w9.cell? ⟨sx, 0, none⟩ = some (.slice (some ⟨gg, 0, none⟩) n d) := (blk_cell Vx.out 0).trans rfl
          have fx0 : w9.frozen? ⟨sx, 0, none⟩ = false := blk_frozen Vx.out 0
          have cx1 : w9.cell? ⟨sx, 1, none⟩ = some (.int .i64 r) := (blk_cell Vx.out 1).trans rfl
          have fx1 : w9.frozen? ⟨sx, 1, none⟩ = false := blk_frozen Vx.out 1
          have cx2 : w9.cell? ⟨sx, 2, none⟩ = some (.int .i64 nx) := (blk_cell Vx.out 2).trans rfl
          have fx2 : w9.frozen? ⟨sx, 2, none⟩ = false := blk_frozen Vx.out 2
          go_wp2
          have FZ : Fr w (((w9.setCell ⟨q + 1, 0, none⟩ (.slice (some ⟨gg, 0, none⟩) n d)).setCell ⟨q + 1, 1, none⟩ (.int .i64 r)).setCell ⟨q + 1, 2, none⟩ (.int .i64 nx)) q [.cells #[.slice A n c, .int .i64 rt, .int .i64 (i : Int)] 24, .cells #[.slice (some ⟨gg, 0, none⟩) n d, .int .i64 r, .int .i64 nx] 24] := (((FR.out.set 1 0 rfl rfl (.slice (some ⟨gg, 0, none⟩) n d)).set 1 1 rfl rfl (.int .i64 r)).set 1 2 rfl rfl (.int .i64 nx))
          refine bodyPost_ret (res_css Try.results9 (by rfl) (FZ.load 1 rfl rfl Try.underlying24 (by kernel_rfl))) rfl ?_
          rw [HE.out]
          have hrs := own_base (own_apart (own_apart (own_apart (OW.out) (k := q + 1) (o := 0) (u := .slice (some ⟨gg, 0, none⟩) n d) (by omega)) (k := q + 1) (o := 1) (u := .int .i64 r) (by omega)) (k := q + 1) (o := 2) (u := .int .i64 nx) (by omega)) (show w.heap.size ≤ _ from by omega)
          exact ⟨_, _, _, rfl, ns_own hrs, FZ.out, Or.inl hrs⟩
theorem rng2 {w : World} {b o : Nat} {v0 v1 : Value} (h0 : w.cell? ⟨b, o, none⟩ = some v0) (h1 : w.cell? ⟨b, o + 1, none⟩ = some v1) : w.rangeAt b o [v0, v1] := by
  intro j v hj
  match j, hj with
  | 0, hj => simp at hj; subst hj; exact h0
  | 1, hj => simp at hj; subst hj; exact h1
  | j + 2, hj => simp at hj
set_option maxRecDepth 100000 in
set_option maxHeartbeats 8000000 in
theorem tpDelete_any (A : Option Addr) (n c : Nat) (ns : List Nd) (rt fr : Int) (w : World) (key : Int) (hx : Ns w A n c ns) (hn : n ≤ 16384) :
    Calls Try.prog 11 #[.agg #[.slice A n c, .int .i64 rt, .int .i64 fr], .int .i64 key] w (TGot w A n c (delT (ns, rt, fr) key)) := by
  have hlen := hx.len
  have RX := Lib.hid hx
  have HL := Lib.hid hlen
  have CP := Lib.hid (fun (W : World) (h : Ns W A n c ns) => tpCopied_any A n c ns rt fr W h hn)
  obtain ⟨R, hR⟩ : ∃ R, delT (ns, rt, fr) key = R := ⟨_, rfl⟩
  rw [hR]
  clear hx
  have PE := fun (B : Option Addr) (d : Nat) (W : World) (h : Ns W B n d ns) => tpPlaceE_any B n d ns rt fr key W h hn
  obtain ⟨v1, hv1⟩ : ∃ W, w.alloc (.cells #[.slice A n c, .int .i64 rt, .int .i64 fr] 24) = W := ⟨_, rfl⟩
  have fr1 : Fr w v1 w.heap.size [.cells #[.slice A n c, .int .i64 rt, .int .i64 fr] 24] := hv1 ▸ Fr.first w _
  have z1 : v1.heap.size = w.heap.size + 1 := by rw [← hv1, Fr.size1]
  obtain ⟨v2, hv2⟩ : ∃ W, v1.alloc (.cells #[.slice none 0 0, .int .i64 0, .int .i64 0] 24) = W := ⟨_, rfl⟩
  have fr2 : Fr w v2 w.heap.size [.cells #[.slice A n c, .int .i64 rt, .int .i64 fr] 24, .cells #[.slice none 0 0, .int .i64 0, .int .i64 0] 24] := hv2 ▸ fr1.more z1 _
  have z2 : v2.heap.size = w.heap.size + 2 := by rw [← hv2, Fr.size1, z1]
  generalize hq : w.heap.size = q at *
  have FR := Lib.hid fr2
  clear fr1 fr2
  cases hr : rightT (ns, rt, fr)
  · rw [show placeE (ns, rt, fr) key = (0, 1) from by unfold placeE; rw [if_pos hr]] at PE
    replace PE := Lib.hid PE
    have HE := Lib.hid (show R = ((ns, rt, fr), 1) by rw [← hR]; unfold delT; rw [if_pos hr])
    clear hr hR hlen
    go_enter Try.func11, Try.ntmps11
    have FR0 := FR.out.sz
    simp only [List.length_cons, List.length_nil] at FR0
    have c00 : v2.cell? ⟨q, 0, none⟩ = some (.slice A n c) := FR.out.cell 0 0 rfl rfl rfl
    have c01 : v2.cell? ⟨q, 1, none⟩ = some (.int .i64 rt) := FR.out.cell 0 1 rfl rfl rfl
    have c02 : v2.cell? ⟨q, 2, none⟩ = some (.int .i64 fr) := FR.out.cell 0 2 rfl rfl rfl
    have c10 : v2.cell? ⟨q + 1, 0, none⟩ = some (.slice none 0 0) := FR.out.cell 1 0 rfl rfl rfl
    have c11 : v2.cell? ⟨q + 1, 1, none⟩ = some (.int .i64 0) := FR.out.cell 1 1 rfl rfl rfl
    have c12 : v2.cell? ⟨q + 1, 2, none⟩ = some (.int .i64 0) := FR.out.cell 1 2 rfl rfl rfl
    go_wp2_with fail
    refine ((CP.out _ (FR.out.es RX.out))).mono ?_
    rintro e w3 ⟨B, d, rfl, hown, hb⟩
    clear c00 c01 c02 c10 c11 c12
    replace FR := Lib.hid (FR.out.step hb)
    clear hb
    have OW := Lib.hid (own_base hown FR0)
    clear hown FR0 hv1 z1 hv2 z2
    have gex := FR.out.sz
    simp only [List.length_cons, List.length_nil] at gex
    obtain ⟨w4, hw4⟩ : ∃ W, w3.alloc (.cells #[.slice B n d, .int .i64 rt, .int .i64 fr] 54) = W := ⟨_, rfl⟩
    have hb : Below w3.heap.size w3 w4 := hw4 ▸ (Below.refl _ _).alloc (Nat.le_refl _) _
    have hv : w4.heap[w3.heap.size]? = some (.cells #[.slice B n d, .int .i64 rt, .int .i64 fr] 54) := hw4 ▸ heap_alloc_new _ _
    replace FR := Lib.hid (FR.out.step hb)
    replace OW := Lib.hid (own_below OW.out hb)
    have Vx := Lib.hid hv
    generalize hsx : w3.heap.size = sx at *
    clear hb hv
    have c00 : w4.cell? ⟨q, 0, none⟩ = some (.slice A n c) := FR.out.cell 0 0 rfl rfl rfl
    have c01 : w4.cell? ⟨q, 1, none⟩ = some (.int .i64 rt) := FR.out.cell 0 1 rfl rfl rfl
    have c02 : w4.cell? ⟨q, 2, none⟩ = some (.int .i64 fr) := FR.out.cell 0 2 rfl rfl rfl
    have c10 : w4.cell? ⟨q + 1, 0, none⟩ = some (.slice none 0 0) := FR.out.cell 1 0 rfl rfl rfl
    have c11 : w4.cell? ⟨q + 1, 1, none⟩ = some (.int .i64 0) := FR.out.cell 1 1 rfl rfl rfl
    have c12 : w4.cell? ⟨q + 1, 2, none⟩ = some (.int .i64 0) := FR.out.cell 1 2 rfl rfl rfl
    have cx0 : w4.cell? ⟨sx, 0, none⟩ = some (.slice B n d) := (blk_cell Vx.out 0).trans rfl
    have cx1 : w4.cell? ⟨sx, 1, none⟩ = some (.int .i64 rt) := (blk_cell Vx.out 1).trans rfl
    have cx2 : w4.cell? ⟨sx, 2, none⟩ = some (.int .i64 fr) := (blk_cell Vx.out 2).trans rfl
    go_wp2_with fail
    refine ((PE.out B d _ (ns_own OW.out))).mono ?_
    rintro e w5 ⟨rfl, hb⟩
    clear c00 c01 c02 c10 c11 c12 cx0 cx1 cx2
    replace FR := Lib.hid (FR.out.step hb)
    replace OW := Lib.hid (own_below OW.out hb)
    replace Vx := Lib.hid (blk_below Vx.out hb (blk_lt Vx.out))
    clear hb
    have c00 : w5.cell? ⟨q, 0, none⟩ = some (.slice A n c) := FR.out.cell 0 0 rfl rfl rfl
    have f00 : w5.frozen? ⟨q, 0, none⟩ = false := FR.out.frozen 0 0 rfl rfl
    have c01 : w5.cell? ⟨q, 1, none⟩ = some (.int .i64 rt) := FR.out.cell 0 1 rfl rfl rfl
    have f01 : w5.frozen? ⟨q, 1, none⟩ = false := FR.out.frozen 0 1 rfl rfl
    have c02 : w5.cell? ⟨q, 2, none⟩ = some (.int .i64 fr) := FR.out.cell 0 2 rfl rfl rfl
    have f02 : w5.frozen? ⟨q, 2, none⟩ = false := FR.out.frozen 0 2 rfl rfl
    have c10 : w5.cell? ⟨q + 1, 0, none⟩ = some (.slice none 0 0) := FR.out.cell 1 0 rfl rfl rfl
    have f10 : w5.frozen? ⟨q + 1, 0, none⟩ = false := FR.out.frozen 1 0 rfl rfl
    have c11 : w5.cell? ⟨q + 1, 1, none⟩ = some (.int .i64 0) := FR.out.cell 1 1 rfl rfl rfl
    have f11 : w5.frozen? ⟨q + 1, 1, none⟩ = false := FR.out.frozen 1 1 rfl rfl
    have c12 : w5.cell? ⟨q + 1, 2, none⟩ = some (.int .i64 0) := FR.out.cell 1 2 rfl rfl rfl
    have f12 : w5.frozen? ⟨q + 1, 2, none⟩ = false := FR.out.frozen 1 2 rfl rfl
    have cx0 : w5.cell? ⟨sx, 0, none⟩ = some (.slice B n d) := (blk_cell Vx.out 0).trans rfl
    have fx0 : w5.frozen? ⟨sx, 0, none⟩ = false := blk_frozen Vx.out 0
    have cx1 : w5.cell? ⟨sx, 1, none⟩ = some (.int .i64 rt) := (blk_cell Vx.out 1).trans rfl
    have fx1 : w5.frozen? ⟨sx, 1, none⟩ = false := blk_frozen Vx.out 1
    have cx2 : w5.cell? ⟨sx, 2, none⟩ = some (.int .i64 fr) := (blk_cell Vx.out 2).trans rfl
    have fx2 : w5.frozen? ⟨sx, 2, none⟩ = false := blk_frozen Vx.out 2
    go_wp2
    have FZ : Fr w (((w5.setCell ⟨q + 1, 0, none⟩ (.slice B n d)).setCell ⟨q + 1, 1, none⟩ (.int .i64 rt)).setCell ⟨q + 1, 2, none⟩ (.int .i64 fr)) q [.cells #[.slice A n c, .int .i64 rt, .int .i64 fr] 24, .cells #[.slice B n d, .int .i64 rt, .int .i64 fr] 24] := (((FR.out.set 1 0 rfl rfl (.slice B n d)).set 1 1 rfl rfl (.int .i64 rt)).set 1 2 rfl rfl (.int .i64 fr))
    refine bodyPost_ret (res_cs Try.results11 (by rfl) (FZ.load 1 rfl rfl Try.underlying24 (by kernel_rfl))) rfl ?_
    rw [HE.out]
    have hrs := own_base (own_apart (own_apart (own_apart (OW.out) (k := q + 1) (o := 0) (u := .slice B n d) (by omega)) (k := q + 1) (o := 1) (u := .int .i64 rt) (by omega)) (k := q + 1) (o := 2) (u := .int .i64 fr) (by omega)) (show w.heap.size ≤ _ from by omega)
    exact ⟨_, _, _, rfl, ns_own hrs, FZ.out, Or.inl hrs⟩
  · obtain ⟨fl, l, hok⟩ := TOk.of hr
    rcases hok.find key with ⟨x, hxl, hkx, ct, _, _, he⟩ | ⟨hnew, ct, _, he⟩
    · have hb := hok.inN x hxl
      simp only [hlen] at hb
      obtain ⟨i, rfl⟩ : ∃ i : Nat, x = i := ⟨x.toNat, by omega⟩
      have hin : i < n := by omega
      have i0 : (0 : Int) ≤ (i : Int) := by omega
      have i1 : (i : Int) < (n : Int) := by omega
      have hpl : placeT ns key = (i : Int) := hok.place_some hxl hkx
      rw [show placeE (ns, rt, fr) key = ((i : Int), 0) from by unfold placeE; rw [if_neg (by rw [hr]; simp), show placeT (ns, rt, fr).1 key = (i : Int) from hpl, if_neg (by omega)]] at PE
      replace PE := Lib.hid PE
      have hqn := queue_neq (ndAt ns (i : Int)).h (ndAt ns (i : Int)).t (-1) (-1)
      by_cases hqq : ((ndAt ns (i : Int)).h, (ndAt ns (i : Int)).t) = (-1, -1)
      · rw [decide_eq_false (fun h => h hqq)] at hqn
        have HS := Lib.hid (show Tr ns rt l ∧ Rise ns l ∧ (i : Int) ∈ l from ⟨hok.tree, hok.rise, hxl⟩)
        have HD := Lib.hid (fun (ns1 : List Nd) (r : Int) (hw : WithoutOk ns l (i : Int) ns1 r) => (by rw [← hR]; exact del_done (p := (ns, rt, fr)) hok hxl hkx (by injection hqq with a b; exact ⟨a, b⟩) hw : R = ((ns1.set i (empN fr), r, (i : Int)), 0)))
        clear hr hR hlen hok hxl hkx he hqq hpl hb
        obtain ⟨qh, hqh⟩ : ∃ x, (ndAt ns (i : Int)).h = x := ⟨_, rfl⟩
        obtain ⟨qt, hqt⟩ : ∃ x, (ndAt ns (i : Int)).t = x := ⟨_, rfl⟩
        rw [hqh, hqt] at hqn
        have HQ1 := Lib.hid hqh; have HQ2 := Lib.hid hqt
        go_enter Try.func11, Try.ntmps11
        have FR0 := FR.out.sz
        simp only [List.length_cons, List.length_nil] at FR0
        have c00 : v2.cell? ⟨q, 0, none⟩ = some (.slice A n c) := FR.out.cell 0 0 rfl rfl rfl
        have c01 : v2.cell? ⟨q, 1, none⟩ = some (.int .i64 rt) := FR.out.cell 0 1 rfl rfl rfl
        have c02 : v2.cell? ⟨q, 2, none⟩ = some (.int .i64 fr) := FR.out.cell 0 2 rfl rfl rfl
        have c10 : v2.cell? ⟨q + 1, 0, none⟩ = some (.slice none 0 0) := FR.out.cell 1 0 rfl rfl rfl
        have c11 : v2.cell? ⟨q + 1, 1, none⟩ = some (.int .i64 0) := FR.out.cell 1 1 rfl rfl rfl
        have c12 : v2.cell? ⟨q + 1, 2, none⟩ = some (.int .i64 0) := FR.out.cell 1 2 rfl rfl rfl
        go_wp2_with fail
        refine ((CP.out _ (FR.out.es RX.out))).mono ?_
        rintro e w3 ⟨B, d, rfl, hown, hb⟩
        clear c00 c01 c02 c10 c11 c12
        replace FR := Lib.hid (FR.out.step hb)
        clear hb
        have OW := Lib.hid (own_base hown FR0)
        clear hown FR0 hv1 z1 hv2 z2
        obtain ⟨gg, rfl⟩ := own_some9 OW.out (by omega)
        have gex := FR.out.sz
        simp only [List.length_cons, List.length_nil] at gex
        obtain ⟨w4, hw4⟩ : ∃ W, w3.alloc (.cells #[.slice (some ⟨gg, 0, none⟩) n d, .int .i64 rt, .int .i64 fr] 54) = W := ⟨_, rfl⟩
        have hb : Below w3.heap.size w3 w4 := hw4 ▸ (Below.refl _ _).alloc (Nat.le_refl _) _
        have hv : w4.heap[w3.heap.size]? = some (.cells #[.slice (some ⟨gg, 0, none⟩) n d, .int .i64 rt, .int .i64 fr] 54) := hw4 ▸ heap_alloc_new _ _
        replace FR := Lib.hid (FR.out.step hb)
        replace OW := Lib.hid (own_below OW.out hb)
        have Vx := Lib.hid hv
        generalize hsx : w3.heap.size = sx at *
        clear hb hv
        have c00 : w4.cell? ⟨q, 0, none⟩ = some (.slice A n c) := FR.out.cell 0 0 rfl rfl rfl
        have c01 : w4.cell? ⟨q, 1, none⟩ = some (.int .i64 rt) := FR.out.cell 0 1 rfl rfl rfl
        have c02 : w4.cell? ⟨q, 2, none⟩ = some (.int .i64 fr) := FR.out.cell 0 2 rfl rfl rfl
        have c10 : w4.cell? ⟨q + 1, 0, none⟩ = some (.slice none 0 0) := FR.out.cell 1 0 rfl rfl rfl
        have c11 : w4.cell? ⟨q + 1, 1, none⟩ = some (.int .i64 0) := FR.out.cell 1 1 rfl rfl rfl
        have c12 : w4.cell? ⟨q + 1, 2, none⟩ = some (.int .i64 0) := FR.out.cell 1 2 rfl rfl rfl
        have cx0 : w4.cell? ⟨sx, 0, none⟩ = some (.slice (some ⟨gg, 0, none⟩) n d) := (blk_cell Vx.out 0).trans rfl
        have cx1 : w4.cell? ⟨sx, 1, none⟩ = some (.int .i64 rt) := (blk_cell Vx.out 1).trans rfl
        have cx2 : w4.cell? ⟨sx, 2, none⟩ = some (.int .i64 fr) := (blk_cell Vx.out 2).trans rfl
        go_wp2_with fail
        refine ((PE.out _ d _ (ns_own OW.out))).mono ?_
        rintro e w5 ⟨rfl, hb⟩
        clear c00 c01 c02 c10 c11 c12 cx0 cx1 cx2
        replace FR := Lib.hid (FR.out.step hb)
        replace OW := Lib.hid (own_below OW.out hb)
        replace Vx := Lib.hid (blk_below Vx.out hb (blk_lt Vx.out))
        clear hb
        have hgg := (OW.out.lt gg (by simp [Value.ownBlock])).1
        have BX := Lib.hid (show Bx w5 sx gg n d (q + 2) rt fr ns from ⟨Vx.out, OW.out⟩)
        have KA := Lib.hid (BX.out.at i hin)
        rw [hqh, hqt] at KA
        have cx0 : w5.cell? ⟨sx, 0, none⟩ = some (.slice (some ⟨gg, 0, none⟩) n d) := (blk_cell Vx.out 0).trans rfl
        have cx1 : w5.cell? ⟨sx, 1, none⟩ = some (.int .i64 rt) := (blk_cell Vx.out 1).trans rfl
        have cx2 : w5.cell? ⟨sx, 2, none⟩ = some (.int .i64 fr) := (blk_cell Vx.out 2).trans rfl
        go_wp2
        refine wp_region_noPanic ?_
        refine wp_region_held_drew (S := (fun wv => Hid (Below w5.heap.size w5 wv))) (by kernel_rfl) (Lib.hid (Below.refl _ w5).drew) (fun hS => ?_)
        refine wpAnyH_take (i := 0) (oi := ⟨some 24, .fieldAddr 54 (.tmp 6) 0, 0, "treap.go:67", #[], none⟩) (v := ?_) rfl (by kernel_rfl) (by kernel_rfl) (by kernel_rfl) (fun _ _ _ h => h) (Or.inl ⟨by rfl, ?_⟩) hS ?_
        rotate_left
        · intro wv _; go_simp; try with_reducible rfl
        try simp only [Act.put, List.setIfInBounds_toArray, List.set_cons_zero, List.set_cons_succ]
        refine wpAnyH_take (i := 1) (oi := ⟨some 25, .fieldAddr 24 (.tmp 24) 0, 0, "treap.go:67", #[⟨0, .data⟩], none⟩) (v := ?_) rfl (by kernel_rfl) (by kernel_rfl) (by kernel_rfl) (fun _ _ _ h => h) (Or.inl ⟨by rfl, ?_⟩) hS ?_
        rotate_left
        · intro wv _; go_simp; try with_reducible rfl
        try simp only [Act.put, List.setIfInBounds_toArray, List.set_cons_zero, List.set_cons_succ]
        refine wpAnyH_take (i := 2) (oi := ⟨some 26, .load 22 (.tmp 25), 22, "treap.go:67", #[⟨1, .data⟩], none⟩) (v := ?_) rfl (by kernel_rfl) (by kernel_rfl) (by kernel_rfl) (fun _ _ _ h => h) (Or.inl ⟨by rfl, ?_⟩) hS ?_
        rotate_left
        · intro wv hS; have hrun := (hS.out.cell (p := ⟨sx, 0, none⟩) (blk_lt Vx.out)).trans BX.out.c0; go_simp; try with_reducible rfl
        try simp only [Act.put, List.setIfInBounds_toArray, List.set_cons_zero, List.set_cons_succ]
        refine wpAnyH_take (i := 3) (oi := ⟨some 27, .move (.tmp 7), 3, "treap.go:67", #[], none⟩) (v := ?_) rfl (by kernel_rfl) (by kernel_rfl) (by kernel_rfl) (fun _ _ _ h => h) (Or.inl ⟨by rfl, ?_⟩) hS ?_
        rotate_left
        · intro wv _; go_simp; try with_reducible rfl
        try simp only [Act.put, List.setIfInBounds_toArray, List.set_cons_zero, List.set_cons_succ]
        refine wpAnyH_take (i := 4) (oi := ⟨some 28, .indexAddr 22 (.tmp 26) (.tmp 27), 0, "treap.go:67", #[⟨2, .data⟩, ⟨3, .data⟩], none⟩) (v := ?_) rfl (by kernel_rfl) (by kernel_rfl) (by kernel_rfl) (fun _ _ _ h => h) (Or.inl ⟨by rfl, ?_⟩) hS ?_
        rotate_left
        · intro wv _; go_simp; try with_reducible rfl
        try simp only [Act.put, List.setIfInBounds_toArray, List.set_cons_zero, List.set_cons_succ]
        refine wpAnyH_take (i := 5) (oi := ⟨some 29, .fieldAddr 52 (.tmp 28) 4, 0, "treap.go:67", #[⟨4, .data⟩], none⟩) (v := ?_) rfl (by kernel_rfl) (by kernel_rfl) (by kernel_rfl) (fun _ _ _ h => h) (Or.inl ⟨by rfl, ?_⟩) hS ?_
        rotate_left
        · intro wv _; go_simp; try with_reducible rfl
        try simp only [Act.put, List.setIfInBounds_toArray, List.set_cons_zero, List.set_cons_succ]
        refine wpAnyH_take (i := 6) (oi := ⟨some 30, .load 43 (.tmp 29), 43, "treap.go:67", #[⟨5, .data⟩], none⟩) (v := .agg (([.int .i64 qh, .int .i64 qt] : List Value)).toArray) rfl (by kernel_rfl) (by kernel_rfl) (by kernel_rfl) (fun _ _ _ h => h) (yieldsIf_load_mid (by rfl) _ _ (by rfl) (gg) (i * 6 + 4) (by rfl) (([.int .i64 qh, .int .i64 qt] : List Value)) _ (fun wv hS => rng2 (hS.out.cell (p := ⟨gg, i * 6 + 4, none⟩) (gpz BX.out) |>.trans KA.out.2.2.2.2.1) (hS.out.cell (p := ⟨gg, i * 6 + 5, none⟩) (gpz BX.out) |>.trans KA.out.2.2.2.2.2)) Try.underlying43 (by rfl) (by kernel_rfl)) hS ?_
        try simp only [Act.put, List.setIfInBounds_toArray, List.set_cons_zero, List.set_cons_succ]
        refine wpAnyH_ready (rs := [7]) (by kernel_rfl) (by simp) (AllReadyH.cons (o := ⟨some 31, .call { callee := .value (.func 33), args := #[], argTypes := #[] }, 43, "treap.go:67", #[], none⟩) rfl (fun K hK => ?_) AllReadyH.nil)
        go_simp
        refine (tpNoQueue_any _).mono ?_; rintro e wa ⟨rfl, hb⟩
        replace hS := Lib.hid (hS.out.trans (hb.mono hS.out.size))
        clear hb
        go_wp2_with fail
        refine Shut.out hK _ _ hS (fun _ => ?_)
        clear hK K
        try simp only [Act.put, List.setIfInBounds_toArray, List.set_cons_zero, List.set_cons_succ]
        refine wpAnyH_take (i := 8) (oi := ⟨some 32, .binOp .neq 43 (.tmp 30) (.tmp 31) 43, 4, "treap.go:67", #[⟨6, .data⟩, ⟨7, .data⟩], none⟩) (v := ?_) rfl (by kernel_rfl) (by kernel_rfl) (by kernel_rfl) (fun _ _ _ h => h) (Or.inl ⟨by rfl, ?_⟩) hS ?_
        rotate_left
        · intro wv _; go_simp; try with_reducible rfl
        try simp only [Act.put, List.setIfInBounds_toArray, List.set_cons_zero, List.set_cons_succ]
        refine wpAnyH_take (i := 9) (oi := ⟨some 23, .assign (.tmp 32), 4, "treap.go:67", #[⟨8, .data⟩, ⟨7, .chain⟩], none⟩) (v := ?_) rfl (by kernel_rfl) (by kernel_rfl) (by kernel_rfl) (fun _ _ _ h => h) (Or.inl ⟨by rfl, ?_⟩) hS ?_
        rotate_left
        · intro wv _; go_simp; try with_reducible rfl
        try simp only [Act.put, List.setIfInBounds_toArray, List.set_cons_zero, List.set_cons_succ]
        refine wpAnyH_done (by kernel_rfl) ?_ _
        refine NoPanic.normal ?_
        clear cx0 cx1 cx2
        have hb := hS.out
        clear hS BX KA
        replace FR := Lib.hid (FR.out.step hb)
        replace OW := Lib.hid (own_below OW.out hb)
        replace Vx := Lib.hid (blk_below Vx.out hb (blk_lt Vx.out))
        clear hb
        clear hqn hqh hqt HQ1 HQ2
        have WO := Lib.hid (tpWithout_any sx gg n d (q + 2) rt fr hn i hin l.length ns l rt wa (Nat.le_refl _) (show Bx wa sx gg n d (q + 2) rt fr ns from ⟨Vx.out, OW.out⟩) HS.out.1 HS.out.2.1 HS.out.2.2)
        have c00 : wa.cell? ⟨q, 0, none⟩ = some (.slice A n c) := FR.out.cell 0 0 rfl rfl rfl
        have f00 : wa.frozen? ⟨q, 0, none⟩ = false := FR.out.frozen 0 0 rfl rfl
        have c01 : wa.cell? ⟨q, 1, none⟩ = some (.int .i64 rt) := FR.out.cell 0 1 rfl rfl rfl
        have f01 : wa.frozen? ⟨q, 1, none⟩ = false := FR.out.frozen 0 1 rfl rfl
        have c02 : wa.cell? ⟨q, 2, none⟩ = some (.int .i64 fr) := FR.out.cell 0 2 rfl rfl rfl
        have f02 : wa.frozen? ⟨q, 2, none⟩ = false := FR.out.frozen 0 2 rfl rfl
        have c10 : wa.cell? ⟨q + 1, 0, none⟩ = some (.slice none 0 0) := FR.out.cell 1 0 rfl rfl rfl
        have f10 : wa.frozen? ⟨q + 1, 0, none⟩ = false := FR.out.frozen 1 0 rfl rfl
        have c11 : wa.cell? ⟨q + 1, 1, none⟩ = some (.int .i64 0) := FR.out.cell 1 1 rfl rfl rfl
        have f11 : wa.frozen? ⟨q + 1, 1, none⟩ = false := FR.out.frozen 1 1 rfl rfl
        have c12 : wa.cell? ⟨q + 1, 2, none⟩ = some (.int .i64 0) := FR.out.cell 1 2 rfl rfl rfl
        have f12 : wa.frozen? ⟨q + 1, 2, none⟩ = false := FR.out.frozen 1 2 rfl rfl
        have cx0 : wa.cell? ⟨sx, 0, none⟩ = some (.slice (some ⟨gg, 0, none⟩) n d) := (blk_cell Vx.out 0).trans rfl
        have fx0 : wa.frozen? ⟨sx, 0, none⟩ = false := blk_frozen Vx.out 0
        have cx1 : wa.cell? ⟨sx, 1, none⟩ = some (.int .i64 rt) := (blk_cell Vx.out 1).trans rfl
        have fx1 : wa.frozen? ⟨sx, 1, none⟩ = false := blk_frozen Vx.out 1
        have cx2 : wa.cell? ⟨sx, 2, none⟩ = some (.int .i64 fr) := (blk_cell Vx.out 2).trans rfl
        have fx2 : wa.frozen? ⟨sx, 2, none⟩ = false := blk_frozen Vx.out 2
        go_wp2_with fail
        refine WO.out.mono ?_
        rintro e w8 ⟨ns1, r, hok, rfl, hbx, hgp⟩
        clear c00 f00 c01 f01 c02 f02 c10 f10 c11 f11 c12 f12 cx0 fx0 cx1 fx1 cx2 fx2
        have HE := Lib.hid (HD.out ns1 r hok)
        replace FR := Lib.hid (FR.out.gp hgp (by simp only [List.length_cons, List.length_nil]; omega) (by simp only [List.length_cons, List.length_nil]; omega))
        replace Vx := Lib.hid hbx.box
        have oc00 : w8.cell? ⟨q, 0, none⟩ = some (.slice A n c) := FR.out.cell 0 0 rfl rfl rfl
        have of00 : w8.frozen? ⟨q, 0, none⟩ = false := FR.out.frozen 0 0 rfl rfl
        have oc01 : w8.cell? ⟨q, 1, none⟩ = some (.int .i64 rt) := FR.out.cell 0 1 rfl rfl rfl
        have of01 : w8.frozen? ⟨q, 1, none⟩ = false := FR.out.frozen 0 1 rfl rfl
        have oc02 : w8.cell? ⟨q, 2, none⟩ = some (.int .i64 fr) := FR.out.cell 0 2 rfl rfl rfl
        have of02 : w8.frozen? ⟨q, 2, none⟩ = false := FR.out.frozen 0 2 rfl rfl
        have oc10 : w8.cell? ⟨q + 1, 0, none⟩ = some (.slice none 0 0) := FR.out.cell 1 0 rfl rfl rfl
        have of10 : w8.frozen? ⟨q + 1, 0, none⟩ = false := FR.out.frozen 1 0 rfl rfl
        have oc11 : w8.cell? ⟨q + 1, 1, none⟩ = some (.int .i64 0) := FR.out.cell 1 1 rfl rfl rfl
        have of11 : w8.frozen? ⟨q + 1, 1, none⟩ = false := FR.out.frozen 1 1 rfl rfl
        have oc12 : w8.cell? ⟨q + 1, 2, none⟩ = some (.int .i64 0) := FR.out.cell 1 2 rfl rfl rfl
        have of12 : w8.frozen? ⟨q + 1, 2, none⟩ = false := FR.out.frozen 1 2 rfl rfl
        have ocx0 : w8.cell? ⟨sx, 0, none⟩ = some (.slice (some ⟨gg, 0, none⟩) n d) := (blk_cell Vx.out 0).trans rfl
        have ofx0 : w8.frozen? ⟨sx, 0, none⟩ = false := blk_frozen Vx.out 0
        have ocx1 : w8.cell? ⟨sx, 1, none⟩ = some (.int .i64 rt) := (blk_cell Vx.out 1).trans rfl
        have ofx1 : w8.frozen? ⟨sx, 1, none⟩ = false := blk_frozen Vx.out 1
        have ocx2 : w8.cell? ⟨sx, 2, none⟩ = some (.int .i64 fr) := (blk_cell Vx.out 2).trans rfl
        have ofx2 : w8.frozen? ⟨sx, 2, none⟩ = false := blk_frozen Vx.out 2
        obtain ⟨w9, hw9⟩ : ∃ W, w8.setCell ⟨sx, 1, none⟩ (.int .i64 r) = W := ⟨_, rfl⟩
        have B9 := Lib.hid (show Bx w9 sx gg n d (q + 2) r fr ns1 from hw9 ▸ hbx.setRt r)
        replace FR := Lib.hid (show Fr w w9 q [.cells #[.slice A n c, .int .i64 rt, .int .i64 fr] 24, .cells #[.slice none 0 0, .int .i64 0, .int .i64 0] 24] from hw9 ▸ FR.out.other (b := sx) (j := 1) (by simp only [List.length_cons, List.length_nil]; omega) (.int .i64 r))
        clear hbx hgp hok WO HD HS OW
        replace Vx := Lib.hid B9.out.box
        have c00 : w9.cell? ⟨q, 0, none⟩ = some (.slice A n c) := FR.out.cell 0 0 rfl rfl rfl
        have f00 : w9.frozen? ⟨q, 0, none⟩ = false := FR.out.frozen 0 0 rfl rfl
        have c01 : w9.cell? ⟨q, 1, none⟩ = some (.int .i64 rt) := FR.out.cell 0 1 rfl rfl rfl
        have f01 : w9.frozen? ⟨q, 1, none⟩ = false := FR.out.frozen 0 1 rfl rfl
        have c02 : w9.cell? ⟨q, 2, none⟩ = some (.int .i64 fr) := FR.out.cell 0 2 rfl rfl rfl
        have f02 : w9.frozen? ⟨q, 2, none⟩ = false := FR.out.frozen 0 2 rfl rfl
        have c10 : w9.cell? ⟨q + 1, 0, none⟩ = some (.slice none 0 0) := FR.out.cell 1 0 rfl rfl rfl
        have f10 : w9.frozen? ⟨q + 1, 0, none⟩ = false := FR.out.frozen 1 0 rfl rfl
        have c11 : w9.cell? ⟨q + 1, 1, none⟩ = some (.int .i64 0) := FR.out.cell 1 1 rfl rfl rfl
        have f11 : w9.frozen? ⟨q + 1, 1, none⟩ = false := FR.out.frozen 1 1 rfl rfl
        have c12 : w9.cell? ⟨q + 1, 2, none⟩ = some (.int .i64 0) := FR.out.cell 1 2 rfl rfl rfl
        have f12 : w9.frozen? ⟨q + 1, 2, none⟩ = false := FR.out.frozen 1 2 rfl rfl
        have cx0 : w9.cell? ⟨sx, 0, none⟩ = some (.slice (some ⟨gg, 0, none⟩) n d) := (blk_cell Vx.out 0).trans rfl
        have fx0 : w9.frozen? ⟨sx, 0, none⟩ = false := blk_frozen Vx.out 0
        have cx1 : w9.cell? ⟨sx, 1, none⟩ = some (.int .i64 r) := (blk_cell Vx.out 1).trans rfl
        have fx1 : w9.frozen? ⟨sx, 1, none⟩ = false := blk_frozen Vx.out 1
        have cx2 : w9.cell? ⟨sx, 2, none⟩ = some (.int .i64 fr) := (blk_cell Vx.out 2).trans rfl
        have fx2 : w9.frozen? ⟨sx, 2, none⟩ = false := blk_frozen Vx.out 2
        go_wp2_with fail
        refine (tpRelease_any sx gg n d (q + 2) i r fr ns1 w9 hin B9.out).mono ?_
        rintro e wr ⟨rfl, hbx, hgp⟩
        clear oc00 of00 oc01 of01 oc02 of02 oc10 of10 oc11 of11 oc12 of12 ocx0 ofx0 ocx1 ofx1 ocx2 ofx2 c00 f00 c01 f01 c02 f02 c10 f10 c11 f11 c12 f12 cx0 fx0 cx1 fx1 cx2 fx2
        replace FR := Lib.hid (FR.out.gp hgp (by simp only [List.length_cons, List.length_nil]; omega) (by simp only [List.length_cons, List.length_nil]; omega))
        replace Vx := Lib.hid hbx.box
        have OW := Lib.hid hbx.own
        clear hbx hgp B9 hw9
        have c00 : wr.cell? ⟨q, 0, none⟩ = some (.slice A n c) := FR.out.cell 0 0 rfl rfl rfl
        have f00 : wr.frozen? ⟨q, 0, none⟩ = false := FR.out.frozen 0 0 rfl rfl
        have c01 : wr.cell? ⟨q, 1, none⟩ = some (.int .i64 rt) := FR.out.cell 0 1 rfl rfl rfl
        have f01 : wr.frozen? ⟨q, 1, none⟩ = false := FR.out.frozen 0 1 rfl rfl
        have c02 : wr.cell? ⟨q, 2, none⟩ = some (.int .i64 fr) := FR.out.cell 0 2 rfl rfl rfl
        have f02 : wr.frozen? ⟨q, 2, none⟩ = false := FR.out.frozen 0 2 rfl rfl
        have c10 : wr.cell? ⟨q + 1, 0, none⟩ = some (.slice none 0 0) := FR.out.cell 1 0 rfl rfl rfl
        have f10 : wr.frozen? ⟨q + 1, 0, none⟩ = false := FR.out.frozen 1 0 rfl rfl
        have c11 : wr.cell? ⟨q + 1, 1, none⟩ = some (.int .i64 0) := FR.out.cell 1 1 rfl rfl rfl
        have f11 : wr.frozen? ⟨q + 1, 1, none⟩ = false := FR.out.frozen 1 1 rfl rfl
        have c12 : wr.cell? ⟨q + 1, 2, none⟩ = some (.int .i64 0) := FR.out.cell 1 2 rfl rfl rfl
        have f12 : wr.frozen? ⟨q + 1, 2, none⟩ = false := FR.out.frozen 1 2 rfl rfl
        have cx0 : wr.cell? ⟨sx, 0, none⟩ = some (.slice (some ⟨gg, 0, none⟩) n d) := (blk_cell Vx.out 0).trans rfl
        have fx0 : wr.frozen? ⟨sx, 0, none⟩ = false := blk_frozen Vx.out 0
        have cx1 : wr.cell? ⟨sx, 1, none⟩ = some (.int .i64 r) := (blk_cell Vx.out 1).trans rfl
        have fx1 : wr.frozen? ⟨sx, 1, none⟩ = false := blk_frozen Vx.out 1
        have cx2 : wr.cell? ⟨sx, 2, none⟩ = some (.int .i64 (i : Int)) := (blk_cell Vx.out 2).trans rfl
        have fx2 : wr.frozen? ⟨sx, 2, none⟩ = false := blk_frozen Vx.out 2
        go_wp2
        have FZ : Fr w (((wr.setCell ⟨q + 1, 0, none⟩ (.slice (some ⟨gg, 0, none⟩) n d)).setCell ⟨q + 1, 1, none⟩ (.int .i64 r)).setCell ⟨q + 1, 2, none⟩ (.int .i64 (i : Int))) q [.cells #[.slice A n c, .int .i64 rt, .int .i64 fr] 24, .cells #[.slice (some ⟨gg, 0, none⟩) n d, .int .i64 r, .int .i64 (i : Int)] 24] := (((FR.out.set 1 0 rfl rfl (.slice (some ⟨gg, 0, none⟩) n d)).set 1 1 rfl rfl (.int .i64 r)).set 1 2 rfl rfl (.int .i64 (i : Int)))
        refine bodyPost_ret (res_cs Try.results11 (by rfl) (FZ.load 1 rfl rfl Try.underlying24 (by kernel_rfl))) rfl ?_
        rw [HE.out]
        have hrs := own_base (own_apart (own_apart (own_apart (OW.out) (k := q + 1) (o := 0) (u := .slice (some ⟨gg, 0, none⟩) n d) (by omega)) (k := q + 1) (o := 1) (u := .int .i64 r) (by omega)) (k := q + 1) (o := 2) (u := .int .i64 (i : Int)) (by omega)) (show w.heap.size ≤ _ from by omega)
        exact ⟨_, _, _, rfl, ns_own hrs, FZ.out, Or.inl hrs⟩
      · rw [decide_eq_true hqq] at hqn
        have HE := Lib.hid (show R = ((ns, rt, fr), 8) by rw [← hR]; unfold delT; rw [if_neg (by rw [hr]; simp), show placeT (ns, rt, fr).1 key = (i : Int) from hpl, if_neg (by omega), if_pos hqq])
        clear hr hR hlen hok hxl hkx he hqq hpl hb
        obtain ⟨qh, hqh⟩ : ∃ x, (ndAt ns (i : Int)).h = x := ⟨_, rfl⟩
        obtain ⟨qt, hqt⟩ : ∃ x, (ndAt ns (i : Int)).t = x := ⟨_, rfl⟩
        rw [hqh, hqt] at hqn
        go_enter Try.func11, Try.ntmps11
        have FR0 := FR.out.sz
        simp only [List.length_cons, List.length_nil] at FR0
        have c00 : v2.cell? ⟨q, 0, none⟩ = some (.slice A n c) := FR.out.cell 0 0 rfl rfl rfl
        have c01 : v2.cell? ⟨q, 1, none⟩ = some (.int .i64 rt) := FR.out.cell 0 1 rfl rfl rfl
        have c02 : v2.cell? ⟨q, 2, none⟩ = some (.int .i64 fr) := FR.out.cell 0 2 rfl rfl rfl
        have c10 : v2.cell? ⟨q + 1, 0, none⟩ = some (.slice none 0 0) := FR.out.cell 1 0 rfl rfl rfl
        have c11 : v2.cell? ⟨q + 1, 1, none⟩ = some (.int .i64 0) := FR.out.cell 1 1 rfl rfl rfl
        have c12 : v2.cell? ⟨q + 1, 2, none⟩ = some (.int .i64 0) := FR.out.cell 1 2 rfl rfl rfl
        go_wp2_with fail
        refine ((CP.out _ (FR.out.es RX.out))).mono ?_
        rintro e w3 ⟨B, d, rfl, hown, hb⟩
        clear c00 c01 c02 c10 c11 c12
        replace FR := Lib.hid (FR.out.step hb)
        clear hb
        have OW := Lib.hid (own_base hown FR0)
        clear hown FR0 hv1 z1 hv2 z2
        obtain ⟨gg, rfl⟩ := own_some9 OW.out (by omega)
        have gex := FR.out.sz
        simp only [List.length_cons, List.length_nil] at gex
        obtain ⟨w4, hw4⟩ : ∃ W, w3.alloc (.cells #[.slice (some ⟨gg, 0, none⟩) n d, .int .i64 rt, .int .i64 fr] 54) = W := ⟨_, rfl⟩
        have hb : Below w3.heap.size w3 w4 := hw4 ▸ (Below.refl _ _).alloc (Nat.le_refl _) _
        have hv : w4.heap[w3.heap.size]? = some (.cells #[.slice (some ⟨gg, 0, none⟩) n d, .int .i64 rt, .int .i64 fr] 54) := hw4 ▸ heap_alloc_new _ _
        replace FR := Lib.hid (FR.out.step hb)
        replace OW := Lib.hid (own_below OW.out hb)
        have Vx := Lib.hid hv
        generalize hsx : w3.heap.size = sx at *
        clear hb hv
        have c00 : w4.cell? ⟨q, 0, none⟩ = some (.slice A n c) := FR.out.cell 0 0 rfl rfl rfl
        have c01 : w4.cell? ⟨q, 1, none⟩ = some (.int .i64 rt) := FR.out.cell 0 1 rfl rfl rfl
        have c02 : w4.cell? ⟨q, 2, none⟩ = some (.int .i64 fr) := FR.out.cell 0 2 rfl rfl rfl
        have c10 : w4.cell? ⟨q + 1, 0, none⟩ = some (.slice none 0 0) := FR.out.cell 1 0 rfl rfl rfl
        have c11 : w4.cell? ⟨q + 1, 1, none⟩ = some (.int .i64 0) := FR.out.cell 1 1 rfl rfl rfl
        have c12 : w4.cell? ⟨q + 1, 2, none⟩ = some (.int .i64 0) := FR.out.cell 1 2 rfl rfl rfl
        have cx0 : w4.cell? ⟨sx, 0, none⟩ = some (.slice (some ⟨gg, 0, none⟩) n d) := (blk_cell Vx.out 0).trans rfl
        have cx1 : w4.cell? ⟨sx, 1, none⟩ = some (.int .i64 rt) := (blk_cell Vx.out 1).trans rfl
        have cx2 : w4.cell? ⟨sx, 2, none⟩ = some (.int .i64 fr) := (blk_cell Vx.out 2).trans rfl
        go_wp2_with fail
        refine ((PE.out _ d _ (ns_own OW.out))).mono ?_
        rintro e w5 ⟨rfl, hb⟩
        clear c00 c01 c02 c10 c11 c12 cx0 cx1 cx2
        replace FR := Lib.hid (FR.out.step hb)
        replace OW := Lib.hid (own_below OW.out hb)
        replace Vx := Lib.hid (blk_below Vx.out hb (blk_lt Vx.out))
        clear hb
        have hgg := (OW.out.lt gg (by simp [Value.ownBlock])).1
        have BX := Lib.hid (show Bx w5 sx gg n d (q + 2) rt fr ns from ⟨Vx.out, OW.out⟩)
        have KA := Lib.hid (BX.out.at i hin)
        rw [hqh, hqt] at KA
        have cx0 : w5.cell? ⟨sx, 0, none⟩ = some (.slice (some ⟨gg, 0, none⟩) n d) := (blk_cell Vx.out 0).trans rfl
        have cx1 : w5.cell? ⟨sx, 1, none⟩ = some (.int .i64 rt) := (blk_cell Vx.out 1).trans rfl
        have cx2 : w5.cell? ⟨sx, 2, none⟩ = some (.int .i64 fr) := (blk_cell Vx.out 2).trans rfl
        go_wp2
        refine wp_region_noPanic ?_
        refine wp_region_held_drew (S := (fun wv => Hid (Below w5.heap.size w5 wv))) (by kernel_rfl) (Lib.hid (Below.refl _ w5).drew) (fun hS => ?_)
        refine wpAnyH_take (i := 0) (oi := ⟨some 24, .fieldAddr 54 (.tmp 6) 0, 0, "treap.go:67", #[], none⟩) (v := ?_) rfl (by kernel_rfl) (by kernel_rfl) (by kernel_rfl) (fun _ _ _ h => h) (Or.inl ⟨by rfl, ?_⟩) hS ?_
        rotate_left
        · intro wv _; go_simp; try with_reducible rfl
        try simp only [Act.put, List.setIfInBounds_toArray, List.set_cons_zero, List.set_cons_succ]
        refine wpAnyH_take (i := 1) (oi := ⟨some 25, .fieldAddr 24 (.tmp 24) 0, 0, "treap.go:67", #[⟨0, .data⟩], none⟩) (v := ?_) rfl (by kernel_rfl) (by kernel_rfl) (by kernel_rfl) (fun _ _ _ h => h) (Or.inl ⟨by rfl, ?_⟩) hS ?_
        rotate_left
        · intro wv _; go_simp; try with_reducible rfl
        try simp only [Act.put, List.setIfInBounds_toArray, List.set_cons_zero, List.set_cons_succ]
        refine wpAnyH_take (i := 2) (oi := ⟨some 26, .load 22 (.tmp 25), 22, "treap.go:67", #[⟨1, .data⟩], none⟩) (v := ?_) rfl (by kernel_rfl) (by kernel_rfl) (by kernel_rfl) (fun _ _ _ h => h) (Or.inl ⟨by rfl, ?_⟩) hS ?_
        rotate_left
        · intro wv hS; have hrun := (hS.out.cell (p := ⟨sx, 0, none⟩) (blk_lt Vx.out)).trans BX.out.c0; go_simp; try with_reducible rfl
        try simp only [Act.put, List.setIfInBounds_toArray, List.set_cons_zero, List.set_cons_succ]
        refine wpAnyH_take (i := 3) (oi := ⟨some 27, .move (.tmp 7), 3, "treap.go:67", #[], none⟩) (v := ?_) rfl (by kernel_rfl) (by kernel_rfl) (by kernel_rfl) (fun _ _ _ h => h) (Or.inl ⟨by rfl, ?_⟩) hS ?_
        rotate_left
        · intro wv _; go_simp; try with_reducible rfl
        try simp only [Act.put, List.setIfInBounds_toArray, List.set_cons_zero, List.set_cons_succ]
        refine wpAnyH_take (i := 4) (oi := ⟨some 28, .indexAddr 22 (.tmp 26) (.tmp 27), 0, "treap.go:67", #[⟨2, .data⟩, ⟨3, .data⟩], none⟩) (v := ?_) rfl (by kernel_rfl) (by kernel_rfl) (by kernel_rfl) (fun _ _ _ h => h) (Or.inl ⟨by rfl, ?_⟩) hS ?_
        rotate_left
        · intro wv _; go_simp; try with_reducible rfl
        try simp only [Act.put, List.setIfInBounds_toArray, List.set_cons_zero, List.set_cons_succ]
        refine wpAnyH_take (i := 5) (oi := ⟨some 29, .fieldAddr 52 (.tmp 28) 4, 0, "treap.go:67", #[⟨4, .data⟩], none⟩) (v := ?_) rfl (by kernel_rfl) (by kernel_rfl) (by kernel_rfl) (fun _ _ _ h => h) (Or.inl ⟨by rfl, ?_⟩) hS ?_
        rotate_left
        · intro wv _; go_simp; try with_reducible rfl
        try simp only [Act.put, List.setIfInBounds_toArray, List.set_cons_zero, List.set_cons_succ]
        refine wpAnyH_take (i := 6) (oi := ⟨some 30, .load 43 (.tmp 29), 43, "treap.go:67", #[⟨5, .data⟩], none⟩) (v := .agg (([.int .i64 qh, .int .i64 qt] : List Value)).toArray) rfl (by kernel_rfl) (by kernel_rfl) (by kernel_rfl) (fun _ _ _ h => h) (yieldsIf_load_mid (by rfl) _ _ (by rfl) (gg) (i * 6 + 4) (by rfl) (([.int .i64 qh, .int .i64 qt] : List Value)) _ (fun wv hS => rng2 (hS.out.cell (p := ⟨gg, i * 6 + 4, none⟩) (gpz BX.out) |>.trans KA.out.2.2.2.2.1) (hS.out.cell (p := ⟨gg, i * 6 + 5, none⟩) (gpz BX.out) |>.trans KA.out.2.2.2.2.2)) Try.underlying43 (by rfl) (by kernel_rfl)) hS ?_
        try simp only [Act.put, List.setIfInBounds_toArray, List.set_cons_zero, List.set_cons_succ]
        refine wpAnyH_ready (rs := [7]) (by kernel_rfl) (by simp) (AllReadyH.cons (o := ⟨some 31, .call { callee := .value (.func 33), args := #[], argTypes := #[] }, 43, "treap.go:67", #[], none⟩) rfl (fun K hK => ?_) AllReadyH.nil)
        go_simp
        refine (tpNoQueue_any _).mono ?_; rintro e wa ⟨rfl, hb⟩
        replace hS := Lib.hid (hS.out.trans (hb.mono hS.out.size))
        clear hb
        go_wp2_with fail
        refine Shut.out hK _ _ hS (fun _ => ?_)
        clear hK K
        try simp only [Act.put, List.setIfInBounds_toArray, List.set_cons_zero, List.set_cons_succ]
        refine wpAnyH_take (i := 8) (oi := ⟨some 32, .binOp .neq 43 (.tmp 30) (.tmp 31) 43, 4, "treap.go:67", #[⟨6, .data⟩, ⟨7, .data⟩], none⟩) (v := ?_) rfl (by kernel_rfl) (by kernel_rfl) (by kernel_rfl) (fun _ _ _ h => h) (Or.inl ⟨by rfl, ?_⟩) hS ?_
        rotate_left
        · intro wv _; go_simp; try with_reducible rfl
        try simp only [Act.put, List.setIfInBounds_toArray, List.set_cons_zero, List.set_cons_succ]
        refine wpAnyH_take (i := 9) (oi := ⟨some 23, .assign (.tmp 32), 4, "treap.go:67", #[⟨8, .data⟩, ⟨7, .chain⟩], none⟩) (v := ?_) rfl (by kernel_rfl) (by kernel_rfl) (by kernel_rfl) (fun _ _ _ h => h) (Or.inl ⟨by rfl, ?_⟩) hS ?_
        rotate_left
        · intro wv _; go_simp; try with_reducible rfl
        try simp only [Act.put, List.setIfInBounds_toArray, List.set_cons_zero, List.set_cons_succ]
        refine wpAnyH_done (by kernel_rfl) ?_ _
        refine NoPanic.normal ?_
        clear cx0 cx1 cx2
        have hb := hS.out
        clear hS BX KA
        replace FR := Lib.hid (FR.out.step hb)
        replace OW := Lib.hid (own_below OW.out hb)
        replace Vx := Lib.hid (blk_below Vx.out hb (blk_lt Vx.out))
        clear hb
        clear hqn hqh hqt
        have c00 : wa.cell? ⟨q, 0, none⟩ = some (.slice A n c) := FR.out.cell 0 0 rfl rfl rfl
        have f00 : wa.frozen? ⟨q, 0, none⟩ = false := FR.out.frozen 0 0 rfl rfl
        have c01 : wa.cell? ⟨q, 1, none⟩ = some (.int .i64 rt) := FR.out.cell 0 1 rfl rfl rfl
        have f01 : wa.frozen? ⟨q, 1, none⟩ = false := FR.out.frozen 0 1 rfl rfl
        have c02 : wa.cell? ⟨q, 2, none⟩ = some (.int .i64 fr) := FR.out.cell 0 2 rfl rfl rfl
        have f02 : wa.frozen? ⟨q, 2, none⟩ = false := FR.out.frozen 0 2 rfl rfl
        have c10 : wa.cell? ⟨q + 1, 0, none⟩ = some (.slice none 0 0) := FR.out.cell 1 0 rfl rfl rfl
        have f10 : wa.frozen? ⟨q + 1, 0, none⟩ = false := FR.out.frozen 1 0 rfl rfl
        have c11 : wa.cell? ⟨q + 1, 1, none⟩ = some (.int .i64 0) := FR.out.cell 1 1 rfl rfl rfl
        have f11 : wa.frozen? ⟨q + 1, 1, none⟩ = false := FR.out.frozen 1 1 rfl rfl
        have c12 : wa.cell? ⟨q + 1, 2, none⟩ = some (.int .i64 0) := FR.out.cell 1 2 rfl rfl rfl
        have f12 : wa.frozen? ⟨q + 1, 2, none⟩ = false := FR.out.frozen 1 2 rfl rfl
        have cx0 : wa.cell? ⟨sx, 0, none⟩ = some (.slice (some ⟨gg, 0, none⟩) n d) := (blk_cell Vx.out 0).trans rfl
        have fx0 : wa.frozen? ⟨sx, 0, none⟩ = false := blk_frozen Vx.out 0
        have cx1 : wa.cell? ⟨sx, 1, none⟩ = some (.int .i64 rt) := (blk_cell Vx.out 1).trans rfl
        have fx1 : wa.frozen? ⟨sx, 1, none⟩ = false := blk_frozen Vx.out 1
        have cx2 : wa.cell? ⟨sx, 2, none⟩ = some (.int .i64 fr) := (blk_cell Vx.out 2).trans rfl
        have fx2 : wa.frozen? ⟨sx, 2, none⟩ = false := blk_frozen Vx.out 2
        go_wp2
        have FZ : Fr w (((wa.setCell ⟨q + 1, 0, none⟩ (.slice (some ⟨gg, 0, none⟩) n d)).setCell ⟨q + 1, 1, none⟩ (.int .i64 rt)).setCell ⟨q + 1, 2, none⟩ (.int .i64 fr)) q [.cells #[.slice A n c, .int .i64 rt, .int .i64 fr] 24, .cells #[.slice (some ⟨gg, 0, none⟩) n d, .int .i64 rt, .int .i64 fr] 24] := (((FR.out.set 1 0 rfl rfl (.slice (some ⟨gg, 0, none⟩) n d)).set 1 1 rfl rfl (.int .i64 rt)).set 1 2 rfl rfl (.int .i64 fr))
        refine bodyPost_ret (res_cs Try.results11 (by rfl) (FZ.load 1 rfl rfl Try.underlying24 (by kernel_rfl))) rfl ?_
        rw [HE.out]
        have hrs := own_base (own_apart (own_apart (own_apart (OW.out) (k := q + 1) (o := 0) (u := .slice (some ⟨gg, 0, none⟩) n d) (by omega)) (k := q + 1) (o := 1) (u := .int .i64 rt) (by omega)) (k := q + 1) (o := 2) (u := .int .i64 fr) (by omega)) (show w.heap.size ≤ _ from by omega)
        exact ⟨_, _, _, rfl, ns_own hrs, FZ.out, Or.inl hrs⟩
    · rw [show placeE (ns, rt, fr) key = (0, 7) from by unfold placeE; rw [if_neg (by rw [hr]; simp), show placeT (ns, rt, fr).1 key = -1 from hok.place_none hnew]; rfl] at PE
      replace PE := Lib.hid PE
      have HE := Lib.hid (show R = ((ns, rt, fr), 7) by rw [← hR]; unfold delT; rw [if_neg (by rw [hr]; simp), show placeT (ns, rt, fr).1 key = -1 from hok.place_none hnew]; rfl)
      clear hr hR hlen hok hnew he
      go_enter Try.func11, Try.ntmps11
      have FR0 := FR.out.sz
      simp only [List.length_cons, List.length_nil] at FR0
      have c00 : v2.cell? ⟨q, 0, none⟩ = some (.slice A n c) := FR.out.cell 0 0 rfl rfl rfl
      have c01 : v2.cell? ⟨q, 1, none⟩ = some (.int .i64 rt) := FR.out.cell 0 1 rfl rfl rfl
      have c02 : v2.cell? ⟨q, 2, none⟩ = some (.int .i64 fr) := FR.out.cell 0 2 rfl rfl rfl
      have c10 : v2.cell? ⟨q + 1, 0, none⟩ = some (.slice none 0 0) := FR.out.cell 1 0 rfl rfl rfl
      have c11 : v2.cell? ⟨q + 1, 1, none⟩ = some (.int .i64 0) := FR.out.cell 1 1 rfl rfl rfl
      have c12 : v2.cell? ⟨q + 1, 2, none⟩ = some (.int .i64 0) := FR.out.cell 1 2 rfl rfl rfl
      go_wp2_with fail
      refine ((CP.out _ (FR.out.es RX.out))).mono ?_
      rintro e w3 ⟨B, d, rfl, hown, hb⟩
      clear c00 c01 c02 c10 c11 c12
      replace FR := Lib.hid (FR.out.step hb)
      clear hb
      have OW := Lib.hid (own_base hown FR0)
      clear hown FR0 hv1 z1 hv2 z2
      have gex := FR.out.sz
      simp only [List.length_cons, List.length_nil] at gex
      obtain ⟨w4, hw4⟩ : ∃ W, w3.alloc (.cells #[.slice B n d, .int .i64 rt, .int .i64 fr] 54) = W := ⟨_, rfl⟩
      have hb : Below w3.heap.size w3 w4 := hw4 ▸ (Below.refl _ _).alloc (Nat.le_refl _) _
      have hv : w4.heap[w3.heap.size]? = some (.cells #[.slice B n d, .int .i64 rt, .int .i64 fr] 54) := hw4 ▸ heap_alloc_new _ _
      replace FR := Lib.hid (FR.out.step hb)
      replace OW := Lib.hid (own_below OW.out hb)
      have Vx := Lib.hid hv
      generalize hsx : w3.heap.size = sx at *
      clear hb hv
      have c00 : w4.cell? ⟨q, 0, none⟩ = some (.slice A n c) := FR.out.cell 0 0 rfl rfl rfl
      have c01 : w4.cell? ⟨q, 1, none⟩ = some (.int .i64 rt) := FR.out.cell 0 1 rfl rfl rfl
      have c02 : w4.cell? ⟨q, 2, none⟩ = some (.int .i64 fr) := FR.out.cell 0 2 rfl rfl rfl
      have c10 : w4.cell? ⟨q + 1, 0, none⟩ = some (.slice none 0 0) := FR.out.cell 1 0 rfl rfl rfl
      have c11 : w4.cell? ⟨q + 1, 1, none⟩ = some (.int .i64 0) := FR.out.cell 1 1 rfl rfl rfl
      have c12 : w4.cell? ⟨q + 1, 2, none⟩ = some (.int .i64 0) := FR.out.cell 1 2 rfl rfl rfl
      have cx0 : w4.cell? ⟨sx, 0, none⟩ = some (.slice B n d) := (blk_cell Vx.out 0).trans rfl
      have cx1 : w4.cell? ⟨sx, 1, none⟩ = some (.int .i64 rt) := (blk_cell Vx.out 1).trans rfl
      have cx2 : w4.cell? ⟨sx, 2, none⟩ = some (.int .i64 fr) := (blk_cell Vx.out 2).trans rfl
      go_wp2_with fail
      refine ((PE.out B d _ (ns_own OW.out))).mono ?_
      rintro e w5 ⟨rfl, hb⟩
      clear c00 c01 c02 c10 c11 c12 cx0 cx1 cx2
      replace FR := Lib.hid (FR.out.step hb)
      replace OW := Lib.hid (own_below OW.out hb)
      replace Vx := Lib.hid (blk_below Vx.out hb (blk_lt Vx.out))
      clear hb
      have c00 : w5.cell? ⟨q, 0, none⟩ = some (.slice A n c) := FR.out.cell 0 0 rfl rfl rfl
      have f00 : w5.frozen? ⟨q, 0, none⟩ = false := FR.out.frozen 0 0 rfl rfl
      have c01 : w5.cell? ⟨q, 1, none⟩ = some (.int .i64 rt) := FR.out.cell 0 1 rfl rfl rfl
      have f01 : w5.frozen? ⟨q, 1, none⟩ = false := FR.out.frozen 0 1 rfl rfl
      have c02 : w5.cell? ⟨q, 2, none⟩ = some (.int .i64 fr) := FR.out.cell 0 2 rfl rfl rfl
      have f02 : w5.frozen? ⟨q, 2, none⟩ = false := FR.out.frozen 0 2 rfl rfl
      have c10 : w5.cell? ⟨q + 1, 0, none⟩ = some (.slice none 0 0) := FR.out.cell 1 0 rfl rfl rfl
      have f10 : w5.frozen? ⟨q + 1, 0, none⟩ = false := FR.out.frozen 1 0 rfl rfl
      have c11 : w5.cell? ⟨q + 1, 1, none⟩ = some (.int .i64 0) := FR.out.cell 1 1 rfl rfl rfl
      have f11 : w5.frozen? ⟨q + 1, 1, none⟩ = false := FR.out.frozen 1 1 rfl rfl
      have c12 : w5.cell? ⟨q + 1, 2, none⟩ = some (.int .i64 0) := FR.out.cell 1 2 rfl rfl rfl
      have f12 : w5.frozen? ⟨q + 1, 2, none⟩ = false := FR.out.frozen 1 2 rfl rfl
      have cx0 : w5.cell? ⟨sx, 0, none⟩ = some (.slice B n d) := (blk_cell Vx.out 0).trans rfl
      have fx0 : w5.frozen? ⟨sx, 0, none⟩ = false := blk_frozen Vx.out 0
      have cx1 : w5.cell? ⟨sx, 1, none⟩ = some (.int .i64 rt) := (blk_cell Vx.out 1).trans rfl
      have fx1 : w5.frozen? ⟨sx, 1, none⟩ = false := blk_frozen Vx.out 1
      have cx2 : w5.cell? ⟨sx, 2, none⟩ = some (.int .i64 fr) := (blk_cell Vx.out 2).trans rfl
      have fx2 : w5.frozen? ⟨sx, 2, none⟩ = false := blk_frozen Vx.out 2
      go_wp2
      have FZ : Fr w (((w5.setCell ⟨q + 1, 0, none⟩ (.slice B n d)).setCell ⟨q + 1, 1, none⟩ (.int .i64 rt)).setCell ⟨q + 1, 2, none⟩ (.int .i64 fr)) q [.cells #[.slice A n c, .int .i64 rt, .int .i64 fr] 24, .cells #[.slice B n d, .int .i64 rt, .int .i64 fr] 24] := (((FR.out.set 1 0 rfl rfl (.slice B n d)).set 1 1 rfl rfl (.int .i64 rt)).set 1 2 rfl rfl (.int .i64 fr))
      refine bodyPost_ret (res_cs Try.results11 (by rfl) (FZ.load 1 rfl rfl Try.underlying24 (by kernel_rfl))) rfl ?_
      rw [HE.out]
      have hrs := own_base (own_apart (own_apart (own_apart (OW.out) (k := q + 1) (o := 0) (u := .slice B n d) (by omega)) (k := q + 1) (o := 1) (u := .int .i64 rt) (by omega)) (k := q + 1) (o := 2) (u := .int .i64 fr) (by omega)) (show w.heap.size ≤ _ from by omega)
      exact ⟨_, _, _, rfl, ns_own hrs, FZ.out, Or.inl hrs⟩
set_option maxRecDepth 100000 in
set_option maxHeartbeats 8000000 in
theorem tpHang_any (A : Option Addr) (n c : Nat) (ns : List Nd) (rt fr : Int) (w : World) (key qh qt : Int) (hx : Ns w A n c ns) (hn : n ≤ 16384) :
    Calls Try.prog 21 #[.agg #[.slice A n c, .int .i64 rt, .int .i64 fr], .int .i64 key, .agg #[.int .i64 qh, .int .i64 qt]] w (TGot w A n c (hangT (ns, rt, fr) key qh qt)) := by
  have hlen := hx.len
  have RX := Lib.hid hx
  have HL := Lib.hid hlen
  have CP := Lib.hid (fun (W : World) (h : Ns W A n c ns) => tpCopied_any A n c ns rt fr W h hn)
  obtain ⟨R, hR⟩ : ∃ R, hangT (ns, rt, fr) key qh qt = R := ⟨_, rfl⟩
  rw [hR]
  clear hx
  have PE := fun (B : Option Addr) (d : Nat) (W : World) (h : Ns W B n d ns) => tpPlaceE_any B n d ns rt fr key W h hn
  obtain ⟨v1, hv1⟩ : ∃ W, w.alloc (.cells #[.slice A n c, .int .i64 rt, .int .i64 fr] 24) = W := ⟨_, rfl⟩
  have fr1 : Fr w v1 w.heap.size [.cells #[.slice A n c, .int .i64 rt, .int .i64 fr] 24] := hv1 ▸ Fr.first w _
  have z1 : v1.heap.size = w.heap.size + 1 := by rw [← hv1, Fr.size1]
  obtain ⟨v2, hv2⟩ : ∃ W, v1.alloc (.cells #[.int .i64 qh, .int .i64 qt] 43) = W := ⟨_, rfl⟩
  have fr2 : Fr w v2 w.heap.size [.cells #[.slice A n c, .int .i64 rt, .int .i64 fr] 24, .cells #[.int .i64 qh, .int .i64 qt] 43] := hv2 ▸ fr1.more z1 _
  have z2 : v2.heap.size = w.heap.size + 2 := by rw [← hv2, Fr.size1, z1]
  obtain ⟨v3, hv3⟩ : ∃ W, v2.alloc (.cells #[.slice none 0 0, .int .i64 0, .int .i64 0] 24) = W := ⟨_, rfl⟩
  have fr3 : Fr w v3 w.heap.size [.cells #[.slice A n c, .int .i64 rt, .int .i64 fr] 24, .cells #[.int .i64 qh, .int .i64 qt] 43, .cells #[.slice none 0 0, .int .i64 0, .int .i64 0] 24] := hv3 ▸ fr2.more z2 _
  have z3 : v3.heap.size = w.heap.size + 3 := by rw [← hv3, Fr.size1, z2]
  generalize hq : w.heap.size = q at *
  have FR := Lib.hid fr3
  clear fr1 fr2 fr3
  cases hr : rightT (ns, rt, fr)
  · rw [show placeE (ns, rt, fr) key = (0, 1) from by unfold placeE; rw [if_pos hr]] at PE
    replace PE := Lib.hid PE
    have HE := Lib.hid (show R = ((ns, rt, fr), 1) by rw [← hR]; unfold hangT; rw [if_pos hr])
    clear hr hR hlen
    go_enter Try.func21, Try.ntmps21
    have FR0 := FR.out.sz
    simp only [List.length_cons, List.length_nil] at FR0
    have c00 : v3.cell? ⟨q, 0, none⟩ = some (.slice A n c) := FR.out.cell 0 0 rfl rfl rfl
    have c01 : v3.cell? ⟨q, 1, none⟩ = some (.int .i64 rt) := FR.out.cell 0 1 rfl rfl rfl
    have c02 : v3.cell? ⟨q, 2, none⟩ = some (.int .i64 fr) := FR.out.cell 0 2 rfl rfl rfl
    have c10 : v3.cell? ⟨q + 1, 0, none⟩ = some (.int .i64 qh) := FR.out.cell 1 0 rfl rfl rfl
    have c11 : v3.cell? ⟨q + 1, 1, none⟩ = some (.int .i64 qt) := FR.out.cell 1 1 rfl rfl rfl
    have c20 : v3.cell? ⟨q + 2, 0, none⟩ = some (.slice none 0 0) := FR.out.cell 2 0 rfl rfl rfl
    have c21 : v3.cell? ⟨q + 2, 1, none⟩ = some (.int .i64 0) := FR.out.cell 2 1 rfl rfl rfl
    have c22 : v3.cell? ⟨q + 2, 2, none⟩ = some (.int .i64 0) := FR.out.cell 2 2 rfl rfl rfl
    go_wp2_with fail
    refine ((CP.out _ (FR.out.es RX.out))).mono ?_
    rintro e w4 ⟨B, d, rfl, hown, hb⟩
    clear c00 c01 c02 c10 c11 c20 c21 c22
    replace FR := Lib.hid (FR.out.step hb)
    clear hb
    have OW := Lib.hid (own_base hown FR0)
    clear hown FR0 hv1 z1 hv2 z2 hv3 z3
    have gex := FR.out.sz
    simp only [List.length_cons, List.length_nil] at gex
    obtain ⟨w5, hw5⟩ : ∃ W, w4.alloc (.cells #[.slice B n d, .int .i64 rt, .int .i64 fr] 54) = W := ⟨_, rfl⟩
    have hb : Below w4.heap.size w4 w5 := hw5 ▸ (Below.refl _ _).alloc (Nat.le_refl _) _
    have hv : w5.heap[w4.heap.size]? = some (.cells #[.slice B n d, .int .i64 rt, .int .i64 fr] 54) := hw5 ▸ heap_alloc_new _ _
    replace FR := Lib.hid (FR.out.step hb)
    replace OW := Lib.hid (own_below OW.out hb)
    have Vx := Lib.hid hv
    generalize hsx : w4.heap.size = sx at *
    clear hb hv
    have c00 : w5.cell? ⟨q, 0, none⟩ = some (.slice A n c) := FR.out.cell 0 0 rfl rfl rfl
    have c01 : w5.cell? ⟨q, 1, none⟩ = some (.int .i64 rt) := FR.out.cell 0 1 rfl rfl rfl
    have c02 : w5.cell? ⟨q, 2, none⟩ = some (.int .i64 fr) := FR.out.cell 0 2 rfl rfl rfl
    have c10 : w5.cell? ⟨q + 1, 0, none⟩ = some (.int .i64 qh) := FR.out.cell 1 0 rfl rfl rfl
    have c11 : w5.cell? ⟨q + 1, 1, none⟩ = some (.int .i64 qt) := FR.out.cell 1 1 rfl rfl rfl
    have c20 : w5.cell? ⟨q + 2, 0, none⟩ = some (.slice none 0 0) := FR.out.cell 2 0 rfl rfl rfl
    have c21 : w5.cell? ⟨q + 2, 1, none⟩ = some (.int .i64 0) := FR.out.cell 2 1 rfl rfl rfl
    have c22 : w5.cell? ⟨q + 2, 2, none⟩ = some (.int .i64 0) := FR.out.cell 2 2 rfl rfl rfl
    have cx0 : w5.cell? ⟨sx, 0, none⟩ = some (.slice B n d) := (blk_cell Vx.out 0).trans rfl
    have cx1 : w5.cell? ⟨sx, 1, none⟩ = some (.int .i64 rt) := (blk_cell Vx.out 1).trans rfl
    have cx2 : w5.cell? ⟨sx, 2, none⟩ = some (.int .i64 fr) := (blk_cell Vx.out 2).trans rfl
    go_wp2_with fail
    refine ((PE.out B d _ (ns_own OW.out))).mono ?_
    rintro e w6 ⟨rfl, hb⟩
    clear c00 c01 c02 c10 c11 c20 c21 c22 cx0 cx1 cx2
    replace FR := Lib.hid (FR.out.step hb)
    replace OW := Lib.hid (own_below OW.out hb)
    replace Vx := Lib.hid (blk_below Vx.out hb (blk_lt Vx.out))
    clear hb
    have c00 : w6.cell? ⟨q, 0, none⟩ = some (.slice A n c) := FR.out.cell 0 0 rfl rfl rfl
    have f00 : w6.frozen? ⟨q, 0, none⟩ = false := FR.out.frozen 0 0 rfl rfl
    have c01 : w6.cell? ⟨q, 1, none⟩ = some (.int .i64 rt) := FR.out.cell 0 1 rfl rfl rfl
    have f01 : w6.frozen? ⟨q, 1, none⟩ = false := FR.out.frozen 0 1 rfl rfl
    have c02 : w6.cell? ⟨q, 2, none⟩ = some (.int .i64 fr) := FR.out.cell 0 2 rfl rfl rfl
    have f02 : w6.frozen? ⟨q, 2, none⟩ = false := FR.out.frozen 0 2 rfl rfl
    have c10 : w6.cell? ⟨q + 1, 0, none⟩ = some (.int .i64 qh) := FR.out.cell 1 0 rfl rfl rfl
    have f10 : w6.frozen? ⟨q + 1, 0, none⟩ = false := FR.out.frozen 1 0 rfl rfl
    have c11 : w6.cell? ⟨q + 1, 1, none⟩ = some (.int .i64 qt) := FR.out.cell 1 1 rfl rfl rfl
    have f11 : w6.frozen? ⟨q + 1, 1, none⟩ = false := FR.out.frozen 1 1 rfl rfl
    have c20 : w6.cell? ⟨q + 2, 0, none⟩ = some (.slice none 0 0) := FR.out.cell 2 0 rfl rfl rfl
    have f20 : w6.frozen? ⟨q + 2, 0, none⟩ = false := FR.out.frozen 2 0 rfl rfl
    have c21 : w6.cell? ⟨q + 2, 1, none⟩ = some (.int .i64 0) := FR.out.cell 2 1 rfl rfl rfl
    have f21 : w6.frozen? ⟨q + 2, 1, none⟩ = false := FR.out.frozen 2 1 rfl rfl
    have c22 : w6.cell? ⟨q + 2, 2, none⟩ = some (.int .i64 0) := FR.out.cell 2 2 rfl rfl rfl
    have f22 : w6.frozen? ⟨q + 2, 2, none⟩ = false := FR.out.frozen 2 2 rfl rfl
    have cx0 : w6.cell? ⟨sx, 0, none⟩ = some (.slice B n d) := (blk_cell Vx.out 0).trans rfl
    have fx0 : w6.frozen? ⟨sx, 0, none⟩ = false := blk_frozen Vx.out 0
    have cx1 : w6.cell? ⟨sx, 1, none⟩ = some (.int .i64 rt) := (blk_cell Vx.out 1).trans rfl
    have fx1 : w6.frozen? ⟨sx, 1, none⟩ = false := blk_frozen Vx.out 1
    have cx2 : w6.cell? ⟨sx, 2, none⟩ = some (.int .i64 fr) := (blk_cell Vx.out 2).trans rfl
    have fx2 : w6.frozen? ⟨sx, 2, none⟩ = false := blk_frozen Vx.out 2
    go_wp2
    have FZ : Fr w (((w6.setCell ⟨q + 2, 0, none⟩ (.slice B n d)).setCell ⟨q + 2, 1, none⟩ (.int .i64 rt)).setCell ⟨q + 2, 2, none⟩ (.int .i64 fr)) q [.cells #[.slice A n c, .int .i64 rt, .int .i64 fr] 24, .cells #[.int .i64 qh, .int .i64 qt] 43, .cells #[.slice B n d, .int .i64 rt, .int .i64 fr] 24] := (((FR.out.set 2 0 rfl rfl (.slice B n d)).set 2 1 rfl rfl (.int .i64 rt)).set 2 2 rfl rfl (.int .i64 fr))
    refine bodyPost_ret (res_cs Try.results21 (by rfl) (FZ.load 2 rfl rfl Try.underlying24 (by kernel_rfl))) rfl ?_
    rw [HE.out]
    have hrs := own_base (own_apart (own_apart (own_apart (OW.out) (k := q + 2) (o := 0) (u := .slice B n d) (by omega)) (k := q + 2) (o := 1) (u := .int .i64 rt) (by omega)) (k := q + 2) (o := 2) (u := .int .i64 fr) (by omega)) (show w.heap.size ≤ _ from by omega)
    exact ⟨_, _, _, rfl, ns_own hrs, FZ.out, Or.inl hrs⟩
  · obtain ⟨fl, l, hok⟩ := TOk.of hr
    rcases hok.find key with ⟨x, hxl, hkx, ct, _, _, he⟩ | ⟨hnew, ct, _, he⟩
    · have hb := hok.inN x hxl
      simp only [hlen] at hb
      obtain ⟨i, rfl⟩ : ∃ i : Nat, x = i := ⟨x.toNat, by omega⟩
      have hin : i < n := by omega
      have i0 : (0 : Int) ≤ (i : Int) := by omega
      have i1 : (i : Int) < (n : Int) := by omega
      have hpl : placeT ns key = (i : Int) := hok.place_some hxl hkx
      rw [show placeE (ns, rt, fr) key = ((i : Int), 0) from by unfold placeE; rw [if_neg (by rw [hr]; simp), show placeT (ns, rt, fr).1 key = (i : Int) from hpl, if_neg (by omega)]] at PE
      replace PE := Lib.hid PE
      have HE := Lib.hid (show R = ((ns.set i { ndAt ns (i : Int) with h := qh, t := qt }, rt, fr), 0) by rw [← hR]; unfold hangT; rw [if_neg (by rw [hr]; simp), show placeT (ns, rt, fr).1 key = (i : Int) from hpl, if_neg (by omega)]; rfl)
      clear hr hR hlen hok hxl hkx he hpl hb
      go_enter Try.func21, Try.ntmps21
      have FR0 := FR.out.sz
      simp only [List.length_cons, List.length_nil] at FR0
      have c00 : v3.cell? ⟨q, 0, none⟩ = some (.slice A n c) := FR.out.cell 0 0 rfl rfl rfl
      have c01 : v3.cell? ⟨q, 1, none⟩ = some (.int .i64 rt) := FR.out.cell 0 1 rfl rfl rfl
      have c02 : v3.cell? ⟨q, 2, none⟩ = some (.int .i64 fr) := FR.out.cell 0 2 rfl rfl rfl
      have c10 : v3.cell? ⟨q + 1, 0, none⟩ = some (.int .i64 qh) := FR.out.cell 1 0 rfl rfl rfl
      have c11 : v3.cell? ⟨q + 1, 1, none⟩ = some (.int .i64 qt) := FR.out.cell 1 1 rfl rfl rfl
      have c20 : v3.cell? ⟨q + 2, 0, none⟩ = some (.slice none 0 0) := FR.out.cell 2 0 rfl rfl rfl
      have c21 : v3.cell? ⟨q + 2, 1, none⟩ = some (.int .i64 0) := FR.out.cell 2 1 rfl rfl rfl
      have c22 : v3.cell? ⟨q + 2, 2, none⟩ = some (.int .i64 0) := FR.out.cell 2 2 rfl rfl rfl
      go_wp2_with fail
      refine ((CP.out _ (FR.out.es RX.out))).mono ?_
      rintro e w4 ⟨B, d, rfl, hown, hb⟩
      clear c00 c01 c02 c10 c11 c20 c21 c22
      replace FR := Lib.hid (FR.out.step hb)
      clear hb
      have OW := Lib.hid (own_base hown FR0)
      clear hown FR0 hv1 z1 hv2 z2 hv3 z3
      obtain ⟨gg, rfl⟩ := own_some9 OW.out (by omega)
      have gex := FR.out.sz
      simp only [List.length_cons, List.length_nil] at gex
      obtain ⟨w5, hw5⟩ : ∃ W, w4.alloc (.cells #[.slice (some ⟨gg, 0, none⟩) n d, .int .i64 rt, .int .i64 fr] 54) = W := ⟨_, rfl⟩
      have hb : Below w4.heap.size w4 w5 := hw5 ▸ (Below.refl _ _).alloc (Nat.le_refl _) _
      have hv : w5.heap[w4.heap.size]? = some (.cells #[.slice (some ⟨gg, 0, none⟩) n d, .int .i64 rt, .int .i64 fr] 54) := hw5 ▸ heap_alloc_new _ _
      replace FR := Lib.hid (FR.out.step hb)
      replace OW := Lib.hid (own_below OW.out hb)
      have Vx := Lib.hid hv
      generalize hsx : w4.heap.size = sx at *
      clear hb hv
      have c00 : w5.cell? ⟨q, 0, none⟩ = some (.slice A n c) := FR.out.cell 0 0 rfl rfl rfl
      have c01 : w5.cell? ⟨q, 1, none⟩ = some (.int .i64 rt) := FR.out.cell 0 1 rfl rfl rfl
      have c02 : w5.cell? ⟨q, 2, none⟩ = some (.int .i64 fr) := FR.out.cell 0 2 rfl rfl rfl
      have c10 : w5.cell? ⟨q + 1, 0, none⟩ = some (.int .i64 qh) := FR.out.cell 1 0 rfl rfl rfl
      have c11 : w5.cell? ⟨q + 1, 1, none⟩ = some (.int .i64 qt) := FR.out.cell 1 1 rfl rfl rfl
      have c20 : w5.cell? ⟨q + 2, 0, none⟩ = some (.slice none 0 0) := FR.out.cell 2 0 rfl rfl rfl
      have c21 : w5.cell? ⟨q + 2, 1, none⟩ = some (.int .i64 0) := FR.out.cell 2 1 rfl rfl rfl
      have c22 : w5.cell? ⟨q + 2, 2, none⟩ = some (.int .i64 0) := FR.out.cell 2 2 rfl rfl rfl
      have cx0 : w5.cell? ⟨sx, 0, none⟩ = some (.slice (some ⟨gg, 0, none⟩) n d) := (blk_cell Vx.out 0).trans rfl
      have cx1 : w5.cell? ⟨sx, 1, none⟩ = some (.int .i64 rt) := (blk_cell Vx.out 1).trans rfl
      have cx2 : w5.cell? ⟨sx, 2, none⟩ = some (.int .i64 fr) := (blk_cell Vx.out 2).trans rfl
      go_wp2_with fail
      refine ((PE.out _ d _ (ns_own OW.out))).mono ?_
      rintro e w6 ⟨rfl, hb⟩
      clear c00 c01 c02 c10 c11 c20 c21 c22 cx0 cx1 cx2
      replace FR := Lib.hid (FR.out.step hb)
      replace OW := Lib.hid (own_below OW.out hb)
      replace Vx := Lib.hid (blk_below Vx.out hb (blk_lt Vx.out))
      clear hb
      have hgg := (OW.out.lt gg (by simp [Value.ownBlock])).1
      obtain ⟨g0, g1, g2, g3, g4, g5⟩ := (show Bx w6 sx gg n d (q + 3) rt fr ns from ⟨Vx.out, OW.out⟩).at i hin
      have ff4 := OW.out.frozenAt (i * 6 + 4)
      have ff5 := OW.out.frozenAt (i * 6 + 5)
      clear g0 g1 g2 g3
      have oc00 : w6.cell? ⟨q, 0, none⟩ = some (.slice A n c) := FR.out.cell 0 0 rfl rfl rfl
      have of00 : w6.frozen? ⟨q, 0, none⟩ = false := FR.out.frozen 0 0 rfl rfl
      have oc01 : w6.cell? ⟨q, 1, none⟩ = some (.int .i64 rt) := FR.out.cell 0 1 rfl rfl rfl
      have of01 : w6.frozen? ⟨q, 1, none⟩ = false := FR.out.frozen 0 1 rfl rfl
      have oc02 : w6.cell? ⟨q, 2, none⟩ = some (.int .i64 fr) := FR.out.cell 0 2 rfl rfl rfl
      have of02 : w6.frozen? ⟨q, 2, none⟩ = false := FR.out.frozen 0 2 rfl rfl
      have oc10 : w6.cell? ⟨q + 1, 0, none⟩ = some (.int .i64 qh) := FR.out.cell 1 0 rfl rfl rfl
      have of10 : w6.frozen? ⟨q + 1, 0, none⟩ = false := FR.out.frozen 1 0 rfl rfl
      have oc11 : w6.cell? ⟨q + 1, 1, none⟩ = some (.int .i64 qt) := FR.out.cell 1 1 rfl rfl rfl
      have of11 : w6.frozen? ⟨q + 1, 1, none⟩ = false := FR.out.frozen 1 1 rfl rfl
      have oc20 : w6.cell? ⟨q + 2, 0, none⟩ = some (.slice none 0 0) := FR.out.cell 2 0 rfl rfl rfl
      have of20 : w6.frozen? ⟨q + 2, 0, none⟩ = false := FR.out.frozen 2 0 rfl rfl
      have oc21 : w6.cell? ⟨q + 2, 1, none⟩ = some (.int .i64 0) := FR.out.cell 2 1 rfl rfl rfl
      have of21 : w6.frozen? ⟨q + 2, 1, none⟩ = false := FR.out.frozen 2 1 rfl rfl
      have oc22 : w6.cell? ⟨q + 2, 2, none⟩ = some (.int .i64 0) := FR.out.cell 2 2 rfl rfl rfl
      have of22 : w6.frozen? ⟨q + 2, 2, none⟩ = false := FR.out.frozen 2 2 rfl rfl
      have ocx0 : w6.cell? ⟨sx, 0, none⟩ = some (.slice (some ⟨gg, 0, none⟩) n d) := (blk_cell Vx.out 0).trans rfl
      have ofx0 : w6.frozen? ⟨sx, 0, none⟩ = false := blk_frozen Vx.out 0
      have ocx1 : w6.cell? ⟨sx, 1, none⟩ = some (.int .i64 rt) := (blk_cell Vx.out 1).trans rfl
      have ofx1 : w6.frozen? ⟨sx, 1, none⟩ = false := blk_frozen Vx.out 1
      have ocx2 : w6.cell? ⟨sx, 2, none⟩ = some (.int .i64 fr) := (blk_cell Vx.out 2).trans rfl
      have ofx2 : w6.frozen? ⟨sx, 2, none⟩ = false := blk_frozen Vx.out 2
      obtain ⟨w9, hw9⟩ : ∃ W, (w6.setCell ⟨gg, i * 6 + 4, none⟩ (.int .i64 qh)).setCell ⟨gg, i * 6 + 5, none⟩ (.int .i64 qt) = W := ⟨_, rfl⟩
      have hxg := own_ne OW.out Vx.out (by decide)
      have hxs : sx ≠ gg := fun e => hxg (by rw [e]; rfl)
      have OWn := Lib.hid (show w9.ownsRow _ _ _ _ _ (ndC (ns.set i { ndAt ns (i : Int) with h := qh, t := qt })) from by rw [ndC_q ns i qh qt (by have := HL.out; omega), ← hw9]; exact ((OW.out.stored (i * 6 + 4) (.int .i64 qh)).1.stored (i * 6 + 5) (.int .i64 qt)).1)
      replace FR := Lib.hid (show Fr w w9 q [.cells #[.slice A n c, .int .i64 rt, .int .i64 fr] 24, .cells #[.int .i64 qh, .int .i64 qt] 43, .cells #[.slice none 0 0, .int .i64 0, .int .i64 0] 24] from hw9 ▸ (FR.out.other (b := gg) (j := i * 6 + 4) (by simp only [List.length_cons, List.length_nil]; omega) (.int .i64 qh)).other (b := gg) (j := i * 6 + 5) (by simp only [List.length_cons, List.length_nil]; omega) (.int .i64 qt))
      replace Vx := Lib.hid (show w9.heap[sx]? = some (.cells #[.slice (some ⟨gg, 0, none⟩) n d, .int .i64 rt, .int .i64 fr] 54) from hw9 ▸ (Below.heap_setCell _ ⟨gg, i * 6 + 5, none⟩ (.int .i64 qt) sx hxs).trans ((Below.heap_setCell _ ⟨gg, i * 6 + 4, none⟩ (.int .i64 qh) sx hxs).trans Vx.out))
      replace OW := OWn
      clear OWn
      have c00 : w9.cell? ⟨q, 0, none⟩ = some (.slice A n c) := FR.out.cell 0 0 rfl rfl rfl
      have f00 : w9.frozen? ⟨q, 0, none⟩ = false := FR.out.frozen 0 0 rfl rfl
      have c01 : w9.cell? ⟨q, 1, none⟩ = some (.int .i64 rt) := FR.out.cell 0 1 rfl rfl rfl
      have f01 : w9.frozen? ⟨q, 1, none⟩ = false := FR.out.frozen 0 1 rfl rfl
      have c02 : w9.cell? ⟨q, 2, none⟩ = some (.int .i64 fr) := FR.out.cell 0 2 rfl rfl rfl
      have f02 : w9.frozen? ⟨q, 2, none⟩ = false := FR.out.frozen 0 2 rfl rfl
      have c10 : w9.cell? ⟨q + 1, 0, none⟩ = some (.int .i64 qh) := FR.out.cell 1 0 rfl rfl rfl
      have f10 : w9.frozen? ⟨q + 1, 0, none⟩ = false := FR.out.frozen 1 0 rfl rfl
      have c11 : w9.cell? ⟨q + 1, 1, none⟩ = some (.int .i64 qt) := FR.out.cell 1 1 rfl rfl rfl
      have f11 : w9.frozen? ⟨q + 1, 1, none⟩ = false := FR.out.frozen 1 1 rfl rfl
      have c20 : w9.cell? ⟨q + 2, 0, none⟩ = some (.slice none 0 0) := FR.out.cell 2 0 rfl rfl rfl
      have f20 : w9.frozen? ⟨q + 2, 0, none⟩ = false := FR.out.frozen 2 0 rfl rfl
      have c21 : w9.cell? ⟨q + 2, 1, none⟩ = some (.int .i64 0) := FR.out.cell 2 1 rfl rfl rfl
      have f21 : w9.frozen? ⟨q + 2, 1, none⟩ = false := FR.out.frozen 2 1 rfl rfl
      have c22 : w9.cell? ⟨q + 2, 2, none⟩ = some (.int .i64 0) := FR.out.cell 2 2 rfl rfl rfl
      have f22 : w9.frozen? ⟨q + 2, 2, none⟩ = false := FR.out.frozen 2 2 rfl rfl
      have cx0 : w9.cell? ⟨sx, 0, none⟩ = some (.slice (some ⟨gg, 0, none⟩) n d) := (blk_cell Vx.out 0).trans rfl
      have fx0 : w9.frozen? ⟨sx, 0, none⟩ = false := blk_frozen Vx.out 0
      have cx1 : w9.cell? ⟨sx, 1, none⟩ = some (.int .i64 rt) := (blk_cell Vx.out 1).trans rfl
      have fx1 : w9.frozen? ⟨sx, 1, none⟩ = false := blk_frozen Vx.out 1
      have cx2 : w9.cell? ⟨sx, 2, none⟩ = some (.int .i64 fr) := (blk_cell Vx.out 2).trans rfl
      have fx2 : w9.frozen? ⟨sx, 2, none⟩ = false := blk_frozen Vx.out 2
      go_wp2
      have FZ : Fr w (((w9.setCell ⟨q + 2, 0, none⟩ (.slice (some ⟨gg, 0, none⟩) n d)).setCell ⟨q + 2, 1, none⟩ (.int .i64 rt)).setCell ⟨q + 2, 2, none⟩ (.int .i64 fr)) q [.cells #[.slice A n c, .int .i64 rt, .int .i64 fr] 24, .cells #[.int .i64 qh, .int .i64 qt] 43, .cells #[.slice (some ⟨gg, 0, none⟩) n d, .int .i64 rt, .int .i64 fr] 24] := (((FR.out.set 2 0 rfl rfl (.slice (some ⟨gg, 0, none⟩) n d)).set 2 1 rfl rfl (.int .i64 rt)).set 2 2 rfl rfl (.int .i64 fr))
      refine bodyPost_ret (res_cs Try.results21 (by rfl) (FZ.load 2 rfl rfl Try.underlying24 (by kernel_rfl))) rfl ?_
      rw [HE.out]
      have hrs := own_base (own_apart (own_apart (own_apart (OW.out) (k := q + 2) (o := 0) (u := .slice (some ⟨gg, 0, none⟩) n d) (by omega)) (k := q + 2) (o := 1) (u := .int .i64 rt) (by omega)) (k := q + 2) (o := 2) (u := .int .i64 fr) (by omega)) (show w.heap.size ≤ _ from by omega)
      exact ⟨_, _, _, rfl, ns_own hrs, FZ.out, Or.inl hrs⟩
    · rw [show placeE (ns, rt, fr) key = (0, 7) from by unfold placeE; rw [if_neg (by rw [hr]; simp), show placeT (ns, rt, fr).1 key = -1 from hok.place_none hnew]; rfl] at PE
      replace PE := Lib.hid PE
      have HE := Lib.hid (show R = ((ns, rt, fr), 7) by rw [← hR]; unfold hangT; rw [if_neg (by rw [hr]; simp), show placeT (ns, rt, fr).1 key = -1 from hok.place_none hnew]; rfl)
      clear hr hR hlen hok hnew he
      go_enter Try.func21, Try.ntmps21
      have FR0 := FR.out.sz
      simp only [List.length_cons, List.length_nil] at FR0
      have c00 : v3.cell? ⟨q, 0, none⟩ = some (.slice A n c) := FR.out.cell 0 0 rfl rfl rfl
      have c01 : v3.cell? ⟨q, 1, none⟩ = some (.int .i64 rt) := FR.out.cell 0 1 rfl rfl rfl
      have c02 : v3.cell? ⟨q, 2, none⟩ = some (.int .i64 fr) := FR.out.cell 0 2 rfl rfl rfl
      have c10 : v3.cell? ⟨q + 1, 0, none⟩ = some (.int .i64 qh) := FR.out.cell 1 0 rfl rfl rfl
      have c11 : v3.cell? ⟨q + 1, 1, none⟩ = some (.int .i64 qt) := FR.out.cell 1 1 rfl rfl rfl
      have c20 : v3.cell? ⟨q + 2, 0, none⟩ = some (.slice none 0 0) := FR.out.cell 2 0 rfl rfl rfl
      have c21 : v3.cell? ⟨q + 2, 1, none⟩ = some (.int .i64 0) := FR.out.cell 2 1 rfl rfl rfl
      have c22 : v3.cell? ⟨q + 2, 2, none⟩ = some (.int .i64 0) := FR.out.cell 2 2 rfl rfl rfl
      go_wp2_with fail
      refine ((CP.out _ (FR.out.es RX.out))).mono ?_
      rintro e w4 ⟨B, d, rfl, hown, hb⟩
      clear c00 c01 c02 c10 c11 c20 c21 c22
      replace FR := Lib.hid (FR.out.step hb)
      clear hb
      have OW := Lib.hid (own_base hown FR0)
      clear hown FR0 hv1 z1 hv2 z2 hv3 z3
      have gex := FR.out.sz
      simp only [List.length_cons, List.length_nil] at gex
      obtain ⟨w5, hw5⟩ : ∃ W, w4.alloc (.cells #[.slice B n d, .int .i64 rt, .int .i64 fr] 54) = W := ⟨_, rfl⟩
      have hb : Below w4.heap.size w4 w5 := hw5 ▸ (Below.refl _ _).alloc (Nat.le_refl _) _
      have hv : w5.heap[w4.heap.size]? = some (.cells #[.slice B n d, .int .i64 rt, .int .i64 fr] 54) := hw5 ▸ heap_alloc_new _ _
      replace FR := Lib.hid (FR.out.step hb)
      replace OW := Lib.hid (own_below OW.out hb)
      have Vx := Lib.hid hv
      generalize hsx : w4.heap.size = sx at *
      clear hb hv
      have c00 : w5.cell? ⟨q, 0, none⟩ = some (.slice A n c) := FR.out.cell 0 0 rfl rfl rfl
      have c01 : w5.cell? ⟨q, 1, none⟩ = some (.int .i64 rt) := FR.out.cell 0 1 rfl rfl rfl
      have c02 : w5.cell? ⟨q, 2, none⟩ = some (.int .i64 fr) := FR.out.cell 0 2 rfl rfl rfl
      have c10 : w5.cell? ⟨q + 1, 0, none⟩ = some (.int .i64 qh) := FR.out.cell 1 0 rfl rfl rfl
      have c11 : w5.cell? ⟨q + 1, 1, none⟩ = some (.int .i64 qt) := FR.out.cell 1 1 rfl rfl rfl
      have c20 : w5.cell? ⟨q + 2, 0, none⟩ = some (.slice none 0 0) := FR.out.cell 2 0 rfl rfl rfl
      have c21 : w5.cell? ⟨q + 2, 1, none⟩ = some (.int .i64 0) := FR.out.cell 2 1 rfl rfl rfl
      have c22 : w5.cell? ⟨q + 2, 2, none⟩ = some (.int .i64 0) := FR.out.cell 2 2 rfl rfl rfl
      have cx0 : w5.cell? ⟨sx, 0, none⟩ = some (.slice B n d) := (blk_cell Vx.out 0).trans rfl
      have cx1 : w5.cell? ⟨sx, 1, none⟩ = some (.int .i64 rt) := (blk_cell Vx.out 1).trans rfl
      have cx2 : w5.cell? ⟨sx, 2, none⟩ = some (.int .i64 fr) := (blk_cell Vx.out 2).trans rfl
      go_wp2_with fail
      refine ((PE.out B d _ (ns_own OW.out))).mono ?_
      rintro e w6 ⟨rfl, hb⟩
      clear c00 c01 c02 c10 c11 c20 c21 c22 cx0 cx1 cx2
      replace FR := Lib.hid (FR.out.step hb)
      replace OW := Lib.hid (own_below OW.out hb)
      replace Vx := Lib.hid (blk_below Vx.out hb (blk_lt Vx.out))
      clear hb
      have c00 : w6.cell? ⟨q, 0, none⟩ = some (.slice A n c) := FR.out.cell 0 0 rfl rfl rfl
      have f00 : w6.frozen? ⟨q, 0, none⟩ = false := FR.out.frozen 0 0 rfl rfl
      have c01 : w6.cell? ⟨q, 1, none⟩ = some (.int .i64 rt) := FR.out.cell 0 1 rfl rfl rfl
      have f01 : w6.frozen? ⟨q, 1, none⟩ = false := FR.out.frozen 0 1 rfl rfl
      have c02 : w6.cell? ⟨q, 2, none⟩ = some (.int .i64 fr) := FR.out.cell 0 2 rfl rfl rfl
      have f02 : w6.frozen? ⟨q, 2, none⟩ = false := FR.out.frozen 0 2 rfl rfl
      have c10 : w6.cell? ⟨q + 1, 0, none⟩ = some (.int .i64 qh) := FR.out.cell 1 0 rfl rfl rfl
      have f10 : w6.frozen? ⟨q + 1, 0, none⟩ = false := FR.out.frozen 1 0 rfl rfl
      have c11 : w6.cell? ⟨q + 1, 1, none⟩ = some (.int .i64 qt) := FR.out.cell 1 1 rfl rfl rfl
      have f11 : w6.frozen? ⟨q + 1, 1, none⟩ = false := FR.out.frozen 1 1 rfl rfl
      have c20 : w6.cell? ⟨q + 2, 0, none⟩ = some (.slice none 0 0) := FR.out.cell 2 0 rfl rfl rfl
      have f20 : w6.frozen? ⟨q + 2, 0, none⟩ = false := FR.out.frozen 2 0 rfl rfl
      have c21 : w6.cell? ⟨q + 2, 1, none⟩ = some (.int .i64 0) := FR.out.cell 2 1 rfl rfl rfl
      have f21 : w6.frozen? ⟨q + 2, 1, none⟩ = false := FR.out.frozen 2 1 rfl rfl
      have c22 : w6.cell? ⟨q + 2, 2, none⟩ = some (.int .i64 0) := FR.out.cell 2 2 rfl rfl rfl
      have f22 : w6.frozen? ⟨q + 2, 2, none⟩ = false := FR.out.frozen 2 2 rfl rfl
      have cx0 : w6.cell? ⟨sx, 0, none⟩ = some (.slice B n d) := (blk_cell Vx.out 0).trans rfl
      have fx0 : w6.frozen? ⟨sx, 0, none⟩ = false := blk_frozen Vx.out 0
      have cx1 : w6.cell? ⟨sx, 1, none⟩ = some (.int .i64 rt) := (blk_cell Vx.out 1).trans rfl
      have fx1 : w6.frozen? ⟨sx, 1, none⟩ = false := blk_frozen Vx.out 1
      have cx2 : w6.cell? ⟨sx, 2, none⟩ = some (.int .i64 fr) := (blk_cell Vx.out 2).trans rfl
      have fx2 : w6.frozen? ⟨sx, 2, none⟩ = false := blk_frozen Vx.out 2
      go_wp2
      have FZ : Fr w (((w6.setCell ⟨q + 2, 0, none⟩ (.slice B n d)).setCell ⟨q + 2, 1, none⟩ (.int .i64 rt)).setCell ⟨q + 2, 2, none⟩ (.int .i64 fr)) q [.cells #[.slice A n c, .int .i64 rt, .int .i64 fr] 24, .cells #[.int .i64 qh, .int .i64 qt] 43, .cells #[.slice B n d, .int .i64 rt, .int .i64 fr] 24] := (((FR.out.set 2 0 rfl rfl (.slice B n d)).set 2 1 rfl rfl (.int .i64 rt)).set 2 2 rfl rfl (.int .i64 fr))
      refine bodyPost_ret (res_cs Try.results21 (by rfl) (FZ.load 2 rfl rfl Try.underlying24 (by kernel_rfl))) rfl ?_
      rw [HE.out]
      have hrs := own_base (own_apart (own_apart (own_apart (OW.out) (k := q + 2) (o := 0) (u := .slice B n d) (by omega)) (k := q + 2) (o := 1) (u := .int .i64 rt) (by omega)) (k := q + 2) (o := 2) (u := .int .i64 fr) (by omega)) (show w.heap.size ≤ _ from by omega)
      exact ⟨_, _, _, rfl, ns_own hrs, FZ.out, Or.inl hrs⟩
end Go.Proofs.Ytfgfohomgomidaa
