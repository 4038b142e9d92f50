/- What the document's own Make of layer 9 answers; no condition. -/
import Derived.Test.YtfgfohomgomidaaTreI
namespace Go.Proofs.Ytfgfohomgomidaa
set_option linter.unusedVariables false
set_option linter.unusedSimpArgs false
open Go.RowKit

/-- the first so many of n empty nodes. -/
def partT (n i : Nat) : List Nd := (List.range i).map fun j : Nat => empN (if j + 1 = n then -1 else (j : Int) + 1)
theorem freshT_map : ∀ (m a : Nat), freshT a m = (List.range m).map fun j : Nat => empN (if j + 1 = m then -1 else (a : Int) + (j : Int) + 1)
  | 0, _ => rfl
  | 1, _ => rfl
  | m + 2, a => by
    show empN ((a : Int) + 1) :: freshT (a + 1) (m + 1) = _
    rw [freshT_map (m + 1) (a + 1), List.range_succ_eq_map (n := m + 1), List.map_cons, List.map_map]
    congr 1
    refine List.map_congr_left fun j hj => ?_
    simp only [Function.comp]
    by_cases h : j + 1 = m + 1
    · rw [if_pos h, if_pos (by omega)]
    · rw [if_neg h, if_neg (by omega)]; congr 1; omega
theorem partT_end (n : Nat) : partT n n = freshT 0 n := by
  rw [freshT_map]; unfold partT
  exact List.map_congr_left fun j hj => by simp
theorem partT_step (n i : Nat) : partT n (i + 1) = partT n i ++ [empN (if i + 1 = n then -1 else (i : Int) + 1)] := by
  unfold partT; rw [List.range_succ, List.map_append]; rfl
theorem partT_len (n i : Nat) : (partT n i).length = i := by unfold partT; simp
def MakeAll9 (w : World) (r : Trp × Int) (e : Ending) (w' : World) : Prop :=
  ∃ B m d, e = .returned (.tuple #[.agg #[.slice B m d, .int .i64 r.1.2.1, .int .i64 r.1.2.2], .int .i64 r.2]) ∧ w'.ownsRow w.heap.size 52 6 (.slice B m d) m (ndC r.1.1) ∧ Below w.heap.size w w'
theorem lit_node {w : World} {b : Nat} {x : Nd} (h : w.heap[b]? = some (.cells #[.int .i64 x.k, .int .u32 x.p, .int .i64 x.l, .int .i64 x.r, .int .i64 x.h, .int .i64 x.t] 52)) : Es w (some ⟨b, 0, none⟩) 1 1 6 (ndC [x]) := by
  refine ⟨rfl, Nat.le_refl _, ndC_one _, fun _ => ⟨b, 0, rfl, blk_lt h, fun j v hj => ?_⟩⟩
  rw [Nat.zero_add, blk_cell h]; simpa [ndC] using hj
set_option maxRecDepth 100000 in
set_option maxHeartbeats 8000000 in
theorem refMake9_all (n : Int) (w : World) (n0 : -9223372036854775808 ≤ n) (n1 : n ≤ 9223372036854775807) :
    Calls Try.prog 24 #[.int .i64 n] w (MakeAll9 w (makeT n)) := by
  obtain ⟨i5, hi5, hz0, hz1, hz2⟩ := info_of infoNode
  have HI := Lib.hid hi5; have HZ0 := Lib.hid hz0; have HZ1 := Lib.hid hz1; have HZ2 := Lib.hid hz2
  clear hi5 hz0 hz1 hz2
  obtain ⟨v1, hv1⟩ : ∃ W, w.alloc (.cells #[.slice none 0 0, .int .i64 0, .int .i64 0] 24) = W := ⟨_, rfl⟩
  have fr1 : Fr w v1 w.heap.size [.cells #[.slice none 0 0, .int .i64 0, .int .i64 0] 24] := hv1 ▸ Fr.first w _
  have z1 : v1.heap.size = w.heap.size + 1 := by rw [← hv1, Fr.size1]
  generalize hq : w.heap.size = q at *
  have FR := Lib.hid fr1
  clear fr1
  by_cases h : n < 0 ∨ 64 < n
  · have R : makeT n = (([], 0, 0), 1) := by unfold makeT; rw [if_pos h]
    rw [R]
    clear R n0 n1
    by_cases h0 : n < 0
    · have b0 : decide (n < 0) = true := by simpa using h0
      clear h h0
      have c00 : v1.cell? ⟨q, 0, none⟩ = some (.slice none 0 0) := FR.out.cell 0 0 rfl rfl rfl
      have f00 : v1.frozen? ⟨q, 0, none⟩ = false := FR.out.frozen 0 0 rfl rfl
      have c01 : v1.cell? ⟨q, 1, none⟩ = some (.int .i64 0) := FR.out.cell 0 1 rfl rfl rfl
      have f01 : v1.frozen? ⟨q, 1, none⟩ = false := FR.out.frozen 0 1 rfl rfl
      have c02 : v1.cell? ⟨q, 2, none⟩ = some (.int .i64 0) := FR.out.cell 0 2 rfl rfl rfl
      have f02 : v1.frozen? ⟨q, 2, none⟩ = false := FR.out.frozen 0 2 rfl rfl
      go_enter Try.func24, Try.ntmps24
      go_wp2
      have FZ : Fr w (((v1.setCell ⟨q, 0, none⟩ (.slice none 0 0)).setCell ⟨q, 1, none⟩ (.int .i64 0)).setCell ⟨q, 2, none⟩ (.int .i64 0)) q [.cells #[.slice none 0 0, .int .i64 0, .int .i64 0] 24] := (((FR.out.set 0 0 rfl rfl (.slice none 0 0)).set 0 1 rfl rfl (.int .i64 0)).set 0 2 rfl rfl (.int .i64 0))
      refine bodyPost_ret (res_cs Try.results24 (by rfl) (FZ.load 0 rfl rfl Try.underlying24 (by kernel_rfl))) rfl ?_
      exact ⟨none, 0, 0, rfl, World.ownsRow_nil _ _ _ _, FZ.out⟩
    · have b0 : decide (n < 0) = false := by simpa using h0
      have b1 : decide (64 < n) = true := by simp; omega
      clear h h0
      have c00 : v1.cell? ⟨q, 0, none⟩ = some (.slice none 0 0) := FR.out.cell 0 0 rfl rfl rfl
      have f00 : v1.frozen? ⟨q, 0, none⟩ = false := FR.out.frozen 0 0 rfl rfl
      have c01 : v1.cell? ⟨q, 1, none⟩ = some (.int .i64 0) := FR.out.cell 0 1 rfl rfl rfl
      have f01 : v1.frozen? ⟨q, 1, none⟩ = false := FR.out.frozen 0 1 rfl rfl
      have c02 : v1.cell? ⟨q, 2, none⟩ = some (.int .i64 0) := FR.out.cell 0 2 rfl rfl rfl
      have f02 : v1.frozen? ⟨q, 2, none⟩ = false := FR.out.frozen 0 2 rfl rfl
      go_enter Try.func24, Try.ntmps24
      go_wp2
      have FZ : Fr w (((v1.setCell ⟨q, 0, none⟩ (.slice none 0 0)).setCell ⟨q, 1, none⟩ (.int .i64 0)).setCell ⟨q, 2, none⟩ (.int .i64 0)) q [.cells #[.slice none 0 0, .int .i64 0, .int .i64 0] 24] := (((FR.out.set 0 0 rfl rfl (.slice none 0 0)).set 0 1 rfl rfl (.int .i64 0)).set 0 2 rfl rfl (.int .i64 0))
      refine bodyPost_ret (res_cs Try.results24 (by rfl) (FZ.load 0 rfl rfl Try.underlying24 (by kernel_rfl))) rfl ?_
      exact ⟨none, 0, 0, rfl, World.ownsRow_nil _ _ _ _, FZ.out⟩
  · obtain ⟨n, rfl⟩ : ∃ k : Nat, n = k := ⟨n.toNat, by omega⟩
    have hn : n ≤ 64 := by omega
    have b0 : decide ((n : Int) < 0) = false := by simp
    have b1 : decide ((64 : Int) < (n : Int)) = false := by simp; omega
    have b1n : decide (64 < n) = false := by simp; omega
    have HR := Lib.hid (show makeT (n : Int) = ((partT n n, -1, if n = 0 then -1 else 0), 0) by unfold makeT; rw [if_neg h, partT_end, Int.toNat_natCast]; congr 4; exact propext (by omega))
    clear h n0 n1
    obtain ⟨v2, hv2⟩ : ∃ W, v1.alloc (.cells #[.slice none 0 0, .int .i64 (-1), .int .i64 (-1)] 24) = W := ⟨_, rfl⟩
    have hb : Below v1.heap.size v1 v2 := hv2 ▸ (Below.refl _ _).alloc (Nat.le_refl _) _
    have Vx := Lib.hid (show v2.heap[q + 1]? = some (.cells #[.slice none 0 0, .int .i64 (-1), .int .i64 (-1)] 24) from by rw [← hv2, ← z1]; exact heap_alloc_new _ _)
    replace FR := Lib.hid (FR.out.step hb)
    clear hb
    have c00 : v2.cell? ⟨q, 0, none⟩ = some (.slice none 0 0) := FR.out.cell 0 0 rfl rfl rfl
    have f00 : v2.frozen? ⟨q, 0, none⟩ = false := FR.out.frozen 0 0 rfl rfl
    have c01 : v2.cell? ⟨q, 1, none⟩ = some (.int .i64 0) := FR.out.cell 0 1 rfl rfl rfl
    have f01 : v2.frozen? ⟨q, 1, none⟩ = false := FR.out.frozen 0 1 rfl rfl
    have c02 : v2.cell? ⟨q, 2, none⟩ = some (.int .i64 0) := FR.out.cell 0 2 rfl rfl rfl
    have f02 : v2.frozen? ⟨q, 2, none⟩ = false := FR.out.frozen 0 2 rfl rfl
    have cx0 : v2.cell? ⟨q + 1, 0, none⟩ = some (.slice none 0 0) := (blk_cell Vx.out 0).trans rfl
    have fx0 : v2.frozen? ⟨q + 1, 0, none⟩ = false := blk_frozen Vx.out 0
    have cx1 : v2.cell? ⟨q + 1, 1, none⟩ = some (.int .i64 (-1)) := (blk_cell Vx.out 1).trans rfl
    have fx1 : v2.frozen? ⟨q + 1, 1, none⟩ = false := blk_frozen Vx.out 1
    have cx2 : v2.cell? ⟨q + 1, 2, none⟩ = some (.int .i64 (-1)) := (blk_cell Vx.out 2).trans rfl
    have fx2 : v2.frozen? ⟨q + 1, 2, none⟩ = false := blk_frozen Vx.out 2
    go_enter Try.func24, Try.ntmps24
    go_wp2
    clear c00 f00 c01 f01 c02 f02 cx0 fx0 cx1 fx1 cx2 fx2
    clear hv1 hv2 z1
    go_loopw [5] (fun iv wr => ∃ (i m d : Nat) (B : Option Addr), iv = .int .i64 (i : Int) ∧ i ≤ n ∧ m = i ∧ Hid (Fr w wr q [.cells #[.slice none 0 0, .int .i64 0, .int .i64 0] 24]) ∧ Hid (wr.heap[(q + 1)]? = some (.cells #[.slice B m d, .int .i64 (-1), .int .i64 (if i = 0 then -1 else 0)] 24)) ∧ Hid (wr.ownsRow (q + 1) 52 6 (.slice B m d) m (ndC (partT n i)))) (fun iv _ => n - (intOf iv).toNat)
    case atStart => exact ⟨0, 0, 0, none, rfl, by omega, rfl, FR.out, Vx.out, World.ownsRow_nil _ _ _ _⟩
    case round =>
      clear FR Vx
      obtain ⟨i, m, d, B, rfl, hi, hmi, FR, Vx, OW⟩ := hrel
      have HMI := Lib.hid hmi
      have hm64 : m ≤ 64 := by omega
      clear hmi
      obtain ⟨fi, hfi⟩ : ∃ x : Int, (if i = 0 then -1 else 0) = x := ⟨_, rfl⟩
      rw [hfi] at Vx
      by_cases hlt : i < n
      · have b2 : decide ((i : Int) < (n : Int)) = true := by simpa using hlt
        have hw1 : IntKind.i64.wrap ((i : Int) + 1) = (i : Int) + 1 := by rw [IntKind.wrap_i64]; omega
        obtain ⟨nx, hnx⟩ : ∃ x : Int, (if i + 1 = n then -1 else (i : Int) + 1) = x := ⟨_, rfl⟩
        have HPS := Lib.hid (show partT n (i + 1) = partT n i ++ [empN nx] by rw [partT_step, hnx])
        clear hfi
        by_cases hl : i + 1 = n
        · have b3 : ((i : Int) + 1 == (n : Int)) = true := by simp; omega
          rw [if_pos hl] at hnx
          subst hnx
          clear hl
          have cx0 : wr.cell? ⟨q + 1, 0, none⟩ = some (.slice B m d) := (blk_cell Vx.out 0).trans rfl
          have fx0 : wr.frozen? ⟨q + 1, 0, none⟩ = false := blk_frozen Vx.out 0
          have cx1 : wr.cell? ⟨q + 1, 1, none⟩ = some (.int .i64 (-1)) := (blk_cell Vx.out 1).trans rfl
          have fx1 : wr.frozen? ⟨q + 1, 1, none⟩ = false := blk_frozen Vx.out 1
          have cx2 : wr.cell? ⟨q + 1, 2, none⟩ = some (.int .i64 fi) := (blk_cell Vx.out 2).trans rfl
          have fx2 : wr.frozen? ⟨q + 1, 2, none⟩ = false := blk_frozen Vx.out 2
          have hox := own_ne OW.out Vx.out (by decide)
          go_wp2
          refine wp_region_noPanic ?_
          refine wp_region_held_drew (S := fun _ => True) (by kernel_rfl) trivial (fun hS => ?_)
          refine wpAnyH_take (i := 0) (oi := ⟨some 25, .fieldAddr 24 (.tmp 4) 0, 0, "ref.go:25", #[], none⟩) (v := ?_) rfl (by kernel_rfl) (by kernel_rfl) (by kernel_rfl) (fun _ _ _ h => h) (Or.inl ⟨by rfl, ?_⟩) hS ?_
          rotate_left
          · intro wv _; go_simp; try with_reducible rfl
          try simp only [Act.put, List.setIfInBounds_toArray, List.set_cons_zero, List.set_cons_succ]
          refine wpAnyH_take (i := 2) (oi := ⟨some 27, .move (.tmp 6), 3, "ref.go:25", #[], none⟩) (v := ?_) rfl (by kernel_rfl) (by kernel_rfl) (by kernel_rfl) (fun _ _ _ h => h) (Or.inl ⟨by rfl, ?_⟩) hS ?_
          rotate_left
          · intro wv _; go_simp; try with_reducible rfl
          try simp only [Act.put, List.setIfInBounds_toArray, List.set_cons_zero, List.set_cons_succ]
          refine wpAnyH_ready (rs := [1, 3]) (by kernel_rfl) (by simp) (AllReadyH.cons (o := ⟨some 26, .load 22 (.tmp 25), 22, "ref.go:25", #[⟨0, .data⟩], none⟩) rfl (fun K hK => ?_) (AllReadyH.cons (o := ⟨some 28, .call { callee := .value (.func 36), args := #[.tmp 27], argTypes := #[3] }, 52, "ref.go:25", #[⟨2, .data⟩], none⟩) rfl (fun K hK => ?_) AllReadyH.nil))
          ·
           go_simp
           skip
           go_wp2_with fail
           refine Shut.out hK _ _ (by first | exact hS | trivial) (fun _ => ?_)
           clear hK K
           try simp only [Act.put, List.setIfInBounds_toArray, List.set_cons_zero, List.set_cons_succ]
           refine wpAnyH_ready (rs := [3]) (by kernel_rfl) (by simp) (AllReadyH.cons (o := ⟨some 28, .call { callee := .value (.func 36), args := #[.tmp 27], argTypes := #[3] }, 52, "ref.go:25", #[⟨2, .data⟩], none⟩) rfl (fun K hK => ?_) AllReadyH.nil)
           go_simp
           refine (refEmpty_any (-1) _).mono ?_
           rintro e wa ⟨rfl, hb⟩
           replace FR := Lib.hid (show Fr w wa q _ from (show Fr w wr.drew q _ from FR.out.drew).step hb)
           replace Vx := Lib.hid (blk_below (show wr.drew.heap[(q + 1)]? = _ from Vx.out) hb (blk_lt Vx.out))
           replace OW := Lib.hid (own_below (own_below OW.out (Below.refl _ wr).drew) hb)
           clear hb
           have cw0 : wa.cell? ⟨(q + 1), 0, none⟩ = some (.slice B m d) := (blk_cell Vx.out 0).trans rfl
           have cv0 : wa.frozen? ⟨(q + 1), 0, none⟩ = false := blk_frozen Vx.out 0
           have hS := trivial
           go_wp2_with fail
           refine Shut.out hK _ _ (by first | exact hS | trivial) (fun _ => ?_)
           clear hK K
           try simp only [Act.put, List.setIfInBounds_toArray, List.set_cons_zero, List.set_cons_succ]
           refine wpAnyH_ready (rs := [4]) (by kernel_rfl) (by simp) (AllReadyH.cons (o := ⟨some 29, .buildSlice 22 1 #[(0, .tmp 28)], 22, "ref.go:25", #[⟨3, .data⟩], none⟩) rfl (fun K hK => ?_) AllReadyH.nil)
           go_simp
           have bd : Below wa.heap.size wa (wa.alloc (.cells #[.int .i64 (-1), .int .u32 0, .int .i64 (-1), .int .i64 (-1), .int .i64 (-1), .int .i64 (-1)] 52)) := (Below.refl _ _).alloc (Nat.le_refl _) _
           have VL : (wa.alloc (.cells #[.int .i64 (-1), .int .u32 0, .int .i64 (-1), .int .i64 (-1), .int .i64 (-1), .int .i64 (-1)] 52)).heap[wa.heap.size]? = some (.cells #[.int .i64 (-1), .int .u32 0, .int .i64 (-1), .int .i64 (-1), .int .i64 (-1), .int .i64 (-1)] 52) := heap_alloc_new _ _
           replace FR := Lib.hid (FR.out.step bd)
           replace Vx := Lib.hid (blk_below Vx.out bd (blk_lt Vx.out))
           replace OW := Lib.hid (own_below OW.out bd)
           clear bd
           generalize wa.alloc (.cells #[.int .i64 (-1), .int .u32 0, .int .i64 (-1), .int .i64 (-1), .int .i64 (-1), .int .i64 (-1)] 52) = wl at *
           generalize hsl : wa.heap.size = sl at *
           have cu0 : wl.cell? ⟨(q + 1), 0, none⟩ = some (.slice B m d) := (blk_cell Vx.out 0).trans rfl
           have cp0 : wl.frozen? ⟨(q + 1), 0, none⟩ = false := blk_frozen Vx.out 0
           refine Shut.out hK _ _ (by first | exact hS | trivial) (fun _ => ?_)
           clear hK K
           try simp only [Act.put, List.setIfInBounds_toArray, List.set_cons_zero, List.set_cons_succ]
           refine wpAnyH_ready (rs := [5]) (by kernel_rfl) (by simp) (AllReadyH.cons (o := ⟨some 30, .call { callee := .builtin .append, args := #[.tmp 26, .tmp 29], argTypes := #[22, 22] }, 22, "ref.go:25", #[⟨1, .data⟩, ⟨4, .data⟩, ⟨3, .chain⟩], none⟩) rfl (fun K hK => ?_) AllReadyH.nil)
           obtain ⟨v9, w9, hap, hown, hgr, hvk⟩ := eapp_own (P := Try.prog) wl (q + 1) 22 22 52 i5 _ 6 48 Try.underlying22 HI.out HZ0.out HZ1.out HZ2.out rfl (by decide) (.slice B m d) m _ OW.out (some ⟨sl, 0, none⟩) 1 1 (ndC [empN (-1)]) (lit_node VL) (by unfold maxLen; omega) (by omega) (by have := FR.out.sz; simp only [List.length_cons, List.length_nil] at this; omega)
           refine op_app_run7 (by rfl) rfl rfl rfl hap ?_
           have hnk : ∀ k, (Value.slice B m d).ownBlock = some k → q + 1 ≤ k := fun k hk => (OW.out.lt k hk).1
           replace FR := Lib.hid (FR.out.grown hgr (fun k hk => by have := hnk k hk; simp only [List.length_cons, List.length_nil]; omega))
           replace Vx := Lib.hid (blk_grown Vx.out hgr (fun k hk e => hox (by rw [hk, e])))
           obtain ⟨B9, d9, hv9, _⟩ := Es.of_own hown (by intro u hu; rcases List.mem_append.1 hu with hu | hu; exact ndC_one _ u hu; exact ndC_one _ u hu)
           subst hv9
           rw [← ndC_app] at hown
           replace OW := Lib.hid hown
           clear hap hown hgr hnk hvk VL hox
           have ct0 : w9.cell? ⟨(q + 1), 0, none⟩ = some (.slice B m d) := (blk_cell Vx.out 0).trans rfl
           have cf0 : w9.frozen? ⟨(q + 1), 0, none⟩ = false := blk_frozen Vx.out 0
           refine Shut.out hK _ _ (by first | exact hS | trivial) (fun _ => ?_)
           clear hK K
           try simp only [Act.put, List.setIfInBounds_toArray, List.set_cons_zero, List.set_cons_succ]
           refine wpAnyH_take (i := 6) (oi := ⟨some 31, .fieldAddr 24 (.tmp 4) 0, 0, "ref.go:25", #[⟨0, .phase⟩, ⟨1, .phase⟩, ⟨2, .phase⟩, ⟨3, .phase⟩, ⟨4, .phase⟩, ⟨5, .phase⟩], none⟩) (v := ?_) rfl (by kernel_rfl) (by kernel_rfl) (by kernel_rfl) (fun _ _ _ h => h) (Or.inl ⟨by rfl, ?_⟩) hS ?_
           rotate_left
           · intro wv _; go_simp; try with_reducible rfl
           try simp only [Act.put, List.setIfInBounds_toArray, List.set_cons_zero, List.set_cons_succ]
           refine wpAnyH_ready (rs := [7]) (by kernel_rfl) (by simp) (AllReadyH.cons (o := ⟨none, .store 22 (.tmp 31) (.tmp 30), 0, "ref.go:25", #[⟨6, .data⟩, ⟨5, .data⟩, ⟨5, .chain⟩, ⟨0, .phase⟩, ⟨1, .phase⟩, ⟨2, .phase⟩, ⟨3, .phase⟩, ⟨4, .phase⟩, ⟨5, .phase⟩], none⟩) rfl (fun K hK => ?_) AllReadyH.nil)
           go_simp
           have hoz := own_ne OW.out Vx.out (by decide)
           have hgx := FR.out.sz
           simp only [List.length_cons, List.length_nil] at hgx
           have Vx2 := blk_set (j := 0) Vx.out (.slice B9 (m + 1) d9)
           have FR2 := FR.out.other (b := (q + 1)) (j := 0) (by simp only [List.length_cons, List.length_nil]; omega) (.slice B9 (m + 1) d9)
           have OW2 := own_other OW.out (k := (q + 1)) (o := 0) (u := .slice B9 (m + 1) d9) hoz
           clear FR Vx OW hoz ct0 cf0
           generalize w9.setCell ⟨(q + 1), 0, none⟩ (.slice B9 (m + 1) d9) = wz at *
           have FR := Lib.hid FR2; have Vx := Lib.hid Vx2; have OW := Lib.hid OW2
           clear FR2 Vx2 OW2
           refine Shut.out hK _ _ (by first | exact hS | trivial) (fun _ => ?_)
           clear hK K
           try simp only [Act.put, List.setIfInBounds_toArray, List.set_cons_zero, List.set_cons_succ]
           refine wpAnyH_done (by kernel_rfl) ?_ _
           refine NoPanic.normal ?_
           have cz2 : wz.cell? ⟨(q + 1), 2, none⟩ = some (.int .i64 fi) := (blk_cell Vx.out 2).trans rfl
           have fz2 : wz.frozen? ⟨(q + 1), 2, none⟩ = false := blk_frozen Vx.out 2
           have hoz := own_ne OW.out Vx.out (by decide)
           have Vx3 := Lib.hid (blk_set (j := 2) Vx.out (.int .i64 0))
           have FR3 := Lib.hid (FR.out.other (b := (q + 1)) (j := 2) (by simp only [List.length_cons, List.length_nil]; omega) (.int .i64 0))
           have OW3 := Lib.hid (own_other OW.out (k := (q + 1)) (o := 2) (u := .int .i64 0) hoz)
           go_wp2
           go_roundw
           case rel => exact ⟨i + 1, m + 1, d9, B9, by go_num, by omega, by have := HMI.out; omega, Lib.hid FR3.out, Lib.hid (by rw [if_neg (by omega)]; exact Vx3.out), Lib.hid (by rw [HPS.out]; exact OW3.out)⟩
           case measure => simp [intOf]; omega
          ·
           go_simp
           refine (refEmpty_any (-1) _).mono ?_
           rintro e wa ⟨rfl, hb⟩
           replace FR := Lib.hid (show Fr w wa q _ from (show Fr w wr.drew q _ from FR.out.drew).step hb)
           replace Vx := Lib.hid (blk_below (show wr.drew.heap[(q + 1)]? = _ from Vx.out) hb (blk_lt Vx.out))
           replace OW := Lib.hid (own_below (own_below OW.out (Below.refl _ wr).drew) hb)
           clear hb
           have cw0 : wa.cell? ⟨(q + 1), 0, none⟩ = some (.slice B m d) := (blk_cell Vx.out 0).trans rfl
           have cv0 : wa.frozen? ⟨(q + 1), 0, none⟩ = false := blk_frozen Vx.out 0
           have hS := trivial
           go_wp2_with fail
           refine Shut.out hK _ _ (by first | exact hS | trivial) (fun _ => ?_)
           clear hK K
           try simp only [Act.put, List.setIfInBounds_toArray, List.set_cons_zero, List.set_cons_succ]
           refine wpAnyH_ready (rs := [1, 4]) (by kernel_rfl) (by simp) (AllReadyH.cons (o := ⟨some 26, .load 22 (.tmp 25), 22, "ref.go:25", #[⟨0, .data⟩], none⟩) rfl (fun K hK => ?_) (AllReadyH.cons (o := ⟨some 29, .buildSlice 22 1 #[(0, .tmp 28)], 22, "ref.go:25", #[⟨3, .data⟩], none⟩) rfl (fun K hK => ?_) AllReadyH.nil))
           ·
            go_simp
            skip
            go_wp2_with fail
            refine Shut.out hK _ _ (by first | exact hS | trivial) (fun _ => ?_)
            clear hK K
            try simp only [Act.put, List.setIfInBounds_toArray, List.set_cons_zero, List.set_cons_succ]
            refine wpAnyH_ready (rs := [4]) (by kernel_rfl) (by simp) (AllReadyH.cons (o := ⟨some 29, .buildSlice 22 1 #[(0, .tmp 28)], 22, "ref.go:25", #[⟨3, .data⟩], none⟩) rfl (fun K hK => ?_) AllReadyH.nil)
            go_simp
            have bd : Below wa.heap.size wa (wa.alloc (.cells #[.int .i64 (-1), .int .u32 0, .int .i64 (-1), .int .i64 (-1), .int .i64 (-1), .int .i64 (-1)] 52)) := (Below.refl _ _).alloc (Nat.le_refl _) _
            have VL : (wa.alloc (.cells #[.int .i64 (-1), .int .u32 0, .int .i64 (-1), .int .i64 (-1), .int .i64 (-1), .int .i64 (-1)] 52)).heap[wa.heap.size]? = some (.cells #[.int .i64 (-1), .int .u32 0, .int .i64 (-1), .int .i64 (-1), .int .i64 (-1), .int .i64 (-1)] 52) := heap_alloc_new _ _
            replace FR := Lib.hid (FR.out.step bd)
            replace Vx := Lib.hid (blk_below Vx.out bd (blk_lt Vx.out))
            replace OW := Lib.hid (own_below OW.out bd)
            clear bd
            generalize wa.alloc (.cells #[.int .i64 (-1), .int .u32 0, .int .i64 (-1), .int .i64 (-1), .int .i64 (-1), .int .i64 (-1)] 52) = wl at *
            generalize hsl : wa.heap.size = sl at *
            have cu0 : wl.cell? ⟨(q + 1), 0, none⟩ = some (.slice B m d) := (blk_cell Vx.out 0).trans rfl
            have cp0 : wl.frozen? ⟨(q + 1), 0, none⟩ = false := blk_frozen Vx.out 0
            refine Shut.out hK _ _ (by first | exact hS | trivial) (fun _ => ?_)
            clear hK K
            try simp only [Act.put, List.setIfInBounds_toArray, List.set_cons_zero, List.set_cons_succ]
            refine wpAnyH_ready (rs := [5]) (by kernel_rfl) (by simp) (AllReadyH.cons (o := ⟨some 30, .call { callee := .builtin .append, args := #[.tmp 26, .tmp 29], argTypes := #[22, 22] }, 22, "ref.go:25", #[⟨1, .data⟩, ⟨4, .data⟩, ⟨3, .chain⟩], none⟩) rfl (fun K hK => ?_) AllReadyH.nil)
            obtain ⟨v9, w9, hap, hown, hgr, hvk⟩ := eapp_own (P := Try.prog) wl (q + 1) 22 22 52 i5 _ 6 48 Try.underlying22 HI.out HZ0.out HZ1.out HZ2.out rfl (by decide) (.slice B m d) m _ OW.out (some ⟨sl, 0, none⟩) 1 1 (ndC [empN (-1)]) (lit_node VL) (by unfold maxLen; omega) (by omega) (by have := FR.out.sz; simp only [List.length_cons, List.length_nil] at this; omega)
            refine op_app_run7 (by rfl) rfl rfl rfl hap ?_
            have hnk : ∀ k, (Value.slice B m d).ownBlock = some k → q + 1 ≤ k := fun k hk => (OW.out.lt k hk).1
            replace FR := Lib.hid (FR.out.grown hgr (fun k hk => by have := hnk k hk; simp only [List.length_cons, List.length_nil]; omega))
            replace Vx := Lib.hid (blk_grown Vx.out hgr (fun k hk e => hox (by rw [hk, e])))
            obtain ⟨B9, d9, hv9, _⟩ := Es.of_own hown (by intro u hu; rcases List.mem_append.1 hu with hu | hu; exact ndC_one _ u hu; exact ndC_one _ u hu)
            subst hv9
            rw [← ndC_app] at hown
            replace OW := Lib.hid hown
            clear hap hown hgr hnk hvk VL hox
            have ct0 : w9.cell? ⟨(q + 1), 0, none⟩ = some (.slice B m d) := (blk_cell Vx.out 0).trans rfl
            have cf0 : w9.frozen? ⟨(q + 1), 0, none⟩ = false := blk_frozen Vx.out 0
            refine Shut.out hK _ _ (by first | exact hS | trivial) (fun _ => ?_)
            clear hK K
            try simp only [Act.put, List.setIfInBounds_toArray, List.set_cons_zero, List.set_cons_succ]
            refine wpAnyH_take (i := 6) (oi := ⟨some 31, .fieldAddr 24 (.tmp 4) 0, 0, "ref.go:25", #[⟨0, .phase⟩, ⟨1, .phase⟩, ⟨2, .phase⟩, ⟨3, .phase⟩, ⟨4, .phase⟩, ⟨5, .phase⟩], none⟩) (v := ?_) rfl (by kernel_rfl) (by kernel_rfl) (by kernel_rfl) (fun _ _ _ h => h) (Or.inl ⟨by rfl, ?_⟩) hS ?_
            rotate_left
            · intro wv _; go_simp; try with_reducible rfl
            try simp only [Act.put, List.setIfInBounds_toArray, List.set_cons_zero, List.set_cons_succ]
            refine wpAnyH_ready (rs := [7]) (by kernel_rfl) (by simp) (AllReadyH.cons (o := ⟨none, .store 22 (.tmp 31) (.tmp 30), 0, "ref.go:25", #[⟨6, .data⟩, ⟨5, .data⟩, ⟨5, .chain⟩, ⟨0, .phase⟩, ⟨1, .phase⟩, ⟨2, .phase⟩, ⟨3, .phase⟩, ⟨4, .phase⟩, ⟨5, .phase⟩], none⟩) rfl (fun K hK => ?_) AllReadyH.nil)
            go_simp
            have hoz := own_ne OW.out Vx.out (by decide)
            have hgx := FR.out.sz
            simp only [List.length_cons, List.length_nil] at hgx
            have Vx2 := blk_set (j := 0) Vx.out (.slice B9 (m + 1) d9)
            have FR2 := FR.out.other (b := (q + 1)) (j := 0) (by simp only [List.length_cons, List.length_nil]; omega) (.slice B9 (m + 1) d9)
            have OW2 := own_other OW.out (k := (q + 1)) (o := 0) (u := .slice B9 (m + 1) d9) hoz
            clear FR Vx OW hoz ct0 cf0
            generalize w9.setCell ⟨(q + 1), 0, none⟩ (.slice B9 (m + 1) d9) = wz at *
            have FR := Lib.hid FR2; have Vx := Lib.hid Vx2; have OW := Lib.hid OW2
            clear FR2 Vx2 OW2
            refine Shut.out hK _ _ (by first | exact hS | trivial) (fun _ => ?_)
            clear hK K
            try simp only [Act.put, List.setIfInBounds_toArray, List.set_cons_zero, List.set_cons_succ]
            refine wpAnyH_done (by kernel_rfl) ?_ _
            refine NoPanic.normal ?_
            have cz2 : wz.cell? ⟨(q + 1), 2, none⟩ = some (.int .i64 fi) := (blk_cell Vx.out 2).trans rfl
            have fz2 : wz.frozen? ⟨(q + 1), 2, none⟩ = false := blk_frozen Vx.out 2
            have hoz := own_ne OW.out Vx.out (by decide)
            have Vx3 := Lib.hid (blk_set (j := 2) Vx.out (.int .i64 0))
            have FR3 := Lib.hid (FR.out.other (b := (q + 1)) (j := 2) (by simp only [List.length_cons, List.length_nil]; omega) (.int .i64 0))
            have OW3 := Lib.hid (own_other OW.out (k := (q + 1)) (o := 2) (u := .int .i64 0) hoz)
            go_wp2
            go_roundw
            case rel => exact ⟨i + 1, m + 1, d9, B9, by go_num, by omega, by have := HMI.out; omega, Lib.hid FR3.out, Lib.hid (by rw [if_neg (by omega)]; exact Vx3.out), Lib.hid (by rw [HPS.out]; exact OW3.out)⟩
            case measure => simp [intOf]; omega
           ·
            go_simp
            have bd : Below wa.heap.size wa (wa.alloc (.cells #[.int .i64 (-1), .int .u32 0, .int .i64 (-1), .int .i64 (-1), .int .i64 (-1), .int .i64 (-1)] 52)) := (Below.refl _ _).alloc (Nat.le_refl _) _
            have VL : (wa.alloc (.cells #[.int .i64 (-1), .int .u32 0, .int .i64 (-1), .int .i64 (-1), .int .i64 (-1), .int .i64 (-1)] 52)).heap[wa.heap.size]? = some (.cells #[.int .i64 (-1), .int .u32 0, .int .i64 (-1), .int .i64 (-1), .int .i64 (-1), .int .i64 (-1)] 52) := heap_alloc_new _ _
            replace FR := Lib.hid (FR.out.step bd)
            replace Vx := Lib.hid (blk_below Vx.out bd (blk_lt Vx.out))
            replace OW := Lib.hid (own_below OW.out bd)
            clear bd
            generalize wa.alloc (.cells #[.int .i64 (-1), .int .u32 0, .int .i64 (-1), .int .i64 (-1), .int .i64 (-1), .int .i64 (-1)] 52) = wl at *
            generalize hsl : wa.heap.size = sl at *
            have cu0 : wl.cell? ⟨(q + 1), 0, none⟩ = some (.slice B m d) := (blk_cell Vx.out 0).trans rfl
            have cp0 : wl.frozen? ⟨(q + 1), 0, none⟩ = false := blk_frozen Vx.out 0
            refine Shut.out hK _ _ (by first | exact hS | trivial) (fun _ => ?_)
            clear hK K
            try simp only [Act.put, List.setIfInBounds_toArray, List.set_cons_zero, List.set_cons_succ]
            refine wpAnyH_ready (rs := [1]) (by kernel_rfl) (by simp) (AllReadyH.cons (o := ⟨some 26, .load 22 (.tmp 25), 22, "ref.go:25", #[⟨0, .data⟩], none⟩) rfl (fun K hK => ?_) AllReadyH.nil)
            go_simp
            skip
            go_wp2_with fail
            refine Shut.out hK _ _ (by first | exact hS | trivial) (fun _ => ?_)
            clear hK K
            try simp only [Act.put, List.setIfInBounds_toArray, List.set_cons_zero, List.set_cons_succ]
            refine wpAnyH_ready (rs := [5]) (by kernel_rfl) (by simp) (AllReadyH.cons (o := ⟨some 30, .call { callee := .builtin .append, args := #[.tmp 26, .tmp 29], argTypes := #[22, 22] }, 22, "ref.go:25", #[⟨1, .data⟩, ⟨4, .data⟩, ⟨3, .chain⟩], none⟩) rfl (fun K hK => ?_) AllReadyH.nil)
            obtain ⟨v9, w9, hap, hown, hgr, hvk⟩ := eapp_own (P := Try.prog) wl (q + 1) 22 22 52 i5 _ 6 48 Try.underlying22 HI.out HZ0.out HZ1.out HZ2.out rfl (by decide) (.slice B m d) m _ OW.out (some ⟨sl, 0, none⟩) 1 1 (ndC [empN (-1)]) (lit_node VL) (by unfold maxLen; omega) (by omega) (by have := FR.out.sz; simp only [List.length_cons, List.length_nil] at this; omega)
            refine op_app_run7 (by rfl) rfl rfl rfl hap ?_
            have hnk : ∀ k, (Value.slice B m d).ownBlock = some k → q + 1 ≤ k := fun k hk => (OW.out.lt k hk).1
            replace FR := Lib.hid (FR.out.grown hgr (fun k hk => by have := hnk k hk; simp only [List.length_cons, List.length_nil]; omega))
            replace Vx := Lib.hid (blk_grown Vx.out hgr (fun k hk e => hox (by rw [hk, e])))
            obtain ⟨B9, d9, hv9, _⟩ := Es.of_own hown (by intro u hu; rcases List.mem_append.1 hu with hu | hu; exact ndC_one _ u hu; exact ndC_one _ u hu)
            subst hv9
            rw [← ndC_app] at hown
            replace OW := Lib.hid hown
            clear hap hown hgr hnk hvk VL hox
            have ct0 : w9.cell? ⟨(q + 1), 0, none⟩ = some (.slice B m d) := (blk_cell Vx.out 0).trans rfl
            have cf0 : w9.frozen? ⟨(q + 1), 0, none⟩ = false := blk_frozen Vx.out 0
            refine Shut.out hK _ _ (by first | exact hS | trivial) (fun _ => ?_)
            clear hK K
            try simp only [Act.put, List.setIfInBounds_toArray, List.set_cons_zero, List.set_cons_succ]
            refine wpAnyH_take (i := 6) (oi := ⟨some 31, .fieldAddr 24 (.tmp 4) 0, 0, "ref.go:25", #[⟨0, .phase⟩, ⟨1, .phase⟩, ⟨2, .phase⟩, ⟨3, .phase⟩, ⟨4, .phase⟩, ⟨5, .phase⟩], none⟩) (v := ?_) rfl (by kernel_rfl) (by kernel_rfl) (by kernel_rfl) (fun _ _ _ h => h) (Or.inl ⟨by rfl, ?_⟩) hS ?_
            rotate_left
            · intro wv _; go_simp; try with_reducible rfl
            try simp only [Act.put, List.setIfInBounds_toArray, List.set_cons_zero, List.set_cons_succ]
            refine wpAnyH_ready (rs := [7]) (by kernel_rfl) (by simp) (AllReadyH.cons (o := ⟨none, .store 22 (.tmp 31) (.tmp 30), 0, "ref.go:25", #[⟨6, .data⟩, ⟨5, .data⟩, ⟨5, .chain⟩, ⟨0, .phase⟩, ⟨1, .phase⟩, ⟨2, .phase⟩, ⟨3, .phase⟩, ⟨4, .phase⟩, ⟨5, .phase⟩], none⟩) rfl (fun K hK => ?_) AllReadyH.nil)
            go_simp
            have hoz := own_ne OW.out Vx.out (by decide)
            have hgx := FR.out.sz
            simp only [List.length_cons, List.length_nil] at hgx
            have Vx2 := blk_set (j := 0) Vx.out (.slice B9 (m + 1) d9)
            have FR2 := FR.out.other (b := (q + 1)) (j := 0) (by simp only [List.length_cons, List.length_nil]; omega) (.slice B9 (m + 1) d9)
            have OW2 := own_other OW.out (k := (q + 1)) (o := 0) (u := .slice B9 (m + 1) d9) hoz
            clear FR Vx OW hoz ct0 cf0
            generalize w9.setCell ⟨(q + 1), 0, none⟩ (.slice B9 (m + 1) d9) = wz at *
            have FR := Lib.hid FR2; have Vx := Lib.hid Vx2; have OW := Lib.hid OW2
            clear FR2 Vx2 OW2
            refine Shut.out hK _ _ (by first | exact hS | trivial) (fun _ => ?_)
            clear hK K
            try simp only [Act.put, List.setIfInBounds_toArray, List.set_cons_zero, List.set_cons_succ]
            refine wpAnyH_done (by kernel_rfl) ?_ _
            refine NoPanic.normal ?_
            have cz2 : wz.cell? ⟨(q + 1), 2, none⟩ = some (.int .i64 fi) := (blk_cell Vx.out 2).trans rfl
            have fz2 : wz.frozen? ⟨(q + 1), 2, none⟩ = false := blk_frozen Vx.out 2
            have hoz := own_ne OW.out Vx.out (by decide)
            have Vx3 := Lib.hid (blk_set (j := 2) Vx.out (.int .i64 0))
            have FR3 := Lib.hid (FR.out.other (b := (q + 1)) (j := 2) (by simp only [List.length_cons, List.length_nil]; omega) (.int .i64 0))
            have OW3 := Lib.hid (own_other OW.out (k := (q + 1)) (o := 2) (u := .int .i64 0) hoz)
            go_wp2
            go_roundw
            case rel => exact ⟨i + 1, m + 1, d9, B9, by go_num, by omega, by have := HMI.out; omega, Lib.hid FR3.out, Lib.hid (by rw [if_neg (by omega)]; exact Vx3.out), Lib.hid (by rw [HPS.out]; exact OW3.out)⟩
            case measure => simp [intOf]; omega
        · have b3 : ((i : Int) + 1 == (n : Int)) = false := by simp; omega
          rw [if_neg hl] at hnx
          subst hnx
          clear hl
          have cx0 : wr.cell? ⟨q + 1, 0, none⟩ = some (.slice B m d) := (blk_cell Vx.out 0).trans rfl
          have fx0 : wr.frozen? ⟨q + 1, 0, none⟩ = false := blk_frozen Vx.out 0
          have cx1 : wr.cell? ⟨q + 1, 1, none⟩ = some (.int .i64 (-1)) := (blk_cell Vx.out 1).trans rfl
          have fx1 : wr.frozen? ⟨q + 1, 1, none⟩ = false := blk_frozen Vx.out 1
          have cx2 : wr.cell? ⟨q + 1, 2, none⟩ = some (.int .i64 fi) := (blk_cell Vx.out 2).trans rfl
          have fx2 : wr.frozen? ⟨q + 1, 2, none⟩ = false := blk_frozen Vx.out 2
          have hox := own_ne OW.out Vx.out (by decide)
          go_wp2
          refine wp_region_noPanic ?_
          refine wp_region_held_drew (S := fun _ => True) (by kernel_rfl) trivial (fun hS => ?_)
          refine wpAnyH_take (i := 0) (oi := ⟨some 25, .fieldAddr 24 (.tmp 4) 0, 0, "ref.go:25", #[], none⟩) (v := ?_) rfl (by kernel_rfl) (by kernel_rfl) (by kernel_rfl) (fun _ _ _ h => h) (Or.inl ⟨by rfl, ?_⟩) hS ?_
          rotate_left
          · intro wv _; go_simp; try with_reducible rfl
          try simp only [Act.put, List.setIfInBounds_toArray, List.set_cons_zero, List.set_cons_succ]
          refine wpAnyH_take (i := 2) (oi := ⟨some 27, .move (.tmp 6), 3, "ref.go:25", #[], none⟩) (v := ?_) rfl (by kernel_rfl) (by kernel_rfl) (by kernel_rfl) (fun _ _ _ h => h) (Or.inl ⟨by rfl, ?_⟩) hS ?_
          rotate_left
          · intro wv _; go_simp; try with_reducible rfl
          try simp only [Act.put, List.setIfInBounds_toArray, List.set_cons_zero, List.set_cons_succ]
          refine wpAnyH_ready (rs := [1, 3]) (by kernel_rfl) (by simp) (AllReadyH.cons (o := ⟨some 26, .load 22 (.tmp 25), 22, "ref.go:25", #[⟨0, .data⟩], none⟩) rfl (fun K hK => ?_) (AllReadyH.cons (o := ⟨some 28, .call { callee := .value (.func 36), args := #[.tmp 27], argTypes := #[3] }, 52, "ref.go:25", #[⟨2, .data⟩], none⟩) rfl (fun K hK => ?_) AllReadyH.nil))
          ·
           go_simp
           skip
           go_wp2_with fail
           refine Shut.out hK _ _ (by first | exact hS | trivial) (fun _ => ?_)
           clear hK K
           try simp only [Act.put, List.setIfInBounds_toArray, List.set_cons_zero, List.set_cons_succ]
           refine wpAnyH_ready (rs := [3]) (by kernel_rfl) (by simp) (AllReadyH.cons (o := ⟨some 28, .call { callee := .value (.func 36), args := #[.tmp 27], argTypes := #[3] }, 52, "ref.go:25", #[⟨2, .data⟩], none⟩) rfl (fun K hK => ?_) AllReadyH.nil)
           go_simp
           refine (refEmpty_any ((i : Int) + 1) _).mono ?_
           rintro e wa ⟨rfl, hb⟩
           replace FR := Lib.hid (show Fr w wa q _ from (show Fr w wr.drew q _ from FR.out.drew).step hb)
           replace Vx := Lib.hid (blk_below (show wr.drew.heap[(q + 1)]? = _ from Vx.out) hb (blk_lt Vx.out))
           replace OW := Lib.hid (own_below (own_below OW.out (Below.refl _ wr).drew) hb)
           clear hb
           have cw0 : wa.cell? ⟨(q + 1), 0, none⟩ = some (.slice B m d) := (blk_cell Vx.out 0).trans rfl
           have cv0 : wa.frozen? ⟨(q + 1), 0, none⟩ = false := blk_frozen Vx.out 0
           have hS := trivial
           go_wp2_with fail
           refine Shut.out hK _ _ (by first | exact hS | trivial) (fun _ => ?_)
           clear hK K
           try simp only [Act.put, List.setIfInBounds_toArray, List.set_cons_zero, List.set_cons_succ]
           refine wpAnyH_ready (rs := [4]) (by kernel_rfl) (by simp) (AllReadyH.cons (o := ⟨some 29, .buildSlice 22 1 #[(0, .tmp 28)], 22, "ref.go:25", #[⟨3, .data⟩], none⟩) rfl (fun K hK => ?_) AllReadyH.nil)
           go_simp
           have bd : Below wa.heap.size wa (wa.alloc (.cells #[.int .i64 (-1), .int .u32 0, .int .i64 ((i : Int) + 1), .int .i64 (-1), .int .i64 (-1), .int .i64 (-1)] 52)) := (Below.refl _ _).alloc (Nat.le_refl _) _
           have VL : (wa.alloc (.cells #[.int .i64 (-1), .int .u32 0, .int .i64 ((i : Int) + 1), .int .i64 (-1), .int .i64 (-1), .int .i64 (-1)] 52)).heap[wa.heap.size]? = some (.cells #[.int .i64 (-1), .int .u32 0, .int .i64 ((i : Int) + 1), .int .i64 (-1), .int .i64 (-1), .int .i64 (-1)] 52) := heap_alloc_new _ _
           replace FR := Lib.hid (FR.out.step bd)
           replace Vx := Lib.hid (blk_below Vx.out bd (blk_lt Vx.out))
           replace OW := Lib.hid (own_below OW.out bd)
           clear bd
           generalize wa.alloc (.cells #[.int .i64 (-1), .int .u32 0, .int .i64 ((i : Int) + 1), .int .i64 (-1), .int .i64 (-1), .int .i64 (-1)] 52) = wl at *
           generalize hsl : wa.heap.size = sl at *
           have cu0 : wl.cell? ⟨(q + 1), 0, none⟩ = some (.slice B m d) := (blk_cell Vx.out 0).trans rfl
           have cp0 : wl.frozen? ⟨(q + 1), 0, none⟩ = false := blk_frozen Vx.out 0
           refine Shut.out hK _ _ (by first | exact hS | trivial) (fun _ => ?_)
           clear hK K
           try simp only [Act.put, List.setIfInBounds_toArray, List.set_cons_zero, List.set_cons_succ]
           refine wpAnyH_ready (rs := [5]) (by kernel_rfl) (by simp) (AllReadyH.cons (o := ⟨some 30, .call { callee := .builtin .append, args := #[.tmp 26, .tmp 29], argTypes := #[22, 22] }, 22, "ref.go:25", #[⟨1, .data⟩, ⟨4, .data⟩, ⟨3, .chain⟩], none⟩) rfl (fun K hK => ?_) AllReadyH.nil)
           obtain ⟨v9, w9, hap, hown, hgr, hvk⟩ := eapp_own (P := Try.prog) wl (q + 1) 22 22 52 i5 _ 6 48 Try.underlying22 HI.out HZ0.out HZ1.out HZ2.out rfl (by decide) (.slice B m d) m _ OW.out (some ⟨sl, 0, none⟩) 1 1 (ndC [empN ((i : Int) + 1)]) (lit_node VL) (by unfold maxLen; omega) (by omega) (by have := FR.out.sz; simp only [List.length_cons, List.length_nil] at this; omega)
           refine op_app_run7 (by rfl) rfl rfl rfl hap ?_
           have hnk : ∀ k, (Value.slice B m d).ownBlock = some k → q + 1 ≤ k := fun k hk => (OW.out.lt k hk).1
           replace FR := Lib.hid (FR.out.grown hgr (fun k hk => by have := hnk k hk; simp only [List.length_cons, List.length_nil]; omega))
           replace Vx := Lib.hid (blk_grown Vx.out hgr (fun k hk e => hox (by rw [hk, e])))
           obtain ⟨B9, d9, hv9, _⟩ := Es.of_own hown (by intro u hu; rcases List.mem_append.1 hu with hu | hu; exact ndC_one _ u hu; exact ndC_one _ u hu)
           subst hv9
           rw [← ndC_app] at hown
           replace OW := Lib.hid hown
           clear hap hown hgr hnk hvk VL hox
           have ct0 : w9.cell? ⟨(q + 1), 0, none⟩ = some (.slice B m d) := (blk_cell Vx.out 0).trans rfl
           have cf0 : w9.frozen? ⟨(q + 1), 0, none⟩ = false := blk_frozen Vx.out 0
           refine Shut.out hK _ _ (by first | exact hS | trivial) (fun _ => ?_)
           clear hK K
           try simp only [Act.put, List.setIfInBounds_toArray, List.set_cons_zero, List.set_cons_succ]
           refine wpAnyH_take (i := 6) (oi := ⟨some 31, .fieldAddr 24 (.tmp 4) 0, 0, "ref.go:25", #[⟨0, .phase⟩, ⟨1, .phase⟩, ⟨2, .phase⟩, ⟨3, .phase⟩, ⟨4, .phase⟩, ⟨5, .phase⟩], none⟩) (v := ?_) rfl (by kernel_rfl) (by kernel_rfl) (by kernel_rfl) (fun _ _ _ h => h) (Or.inl ⟨by rfl, ?_⟩) hS ?_
           rotate_left
           · intro wv _; go_simp; try with_reducible rfl
           try simp only [Act.put, List.setIfInBounds_toArray, List.set_cons_zero, List.set_cons_succ]
           refine wpAnyH_ready (rs := [7]) (by kernel_rfl) (by simp) (AllReadyH.cons (o := ⟨none, .store 22 (.tmp 31) (.tmp 30), 0, "ref.go:25", #[⟨6, .data⟩, ⟨5, .data⟩, ⟨5, .chain⟩, ⟨0, .phase⟩, ⟨1, .phase⟩, ⟨2, .phase⟩, ⟨3, .phase⟩, ⟨4, .phase⟩, ⟨5, .phase⟩], none⟩) rfl (fun K hK => ?_) AllReadyH.nil)
           go_simp
           have hoz := own_ne OW.out Vx.out (by decide)
           have hgx := FR.out.sz
           simp only [List.length_cons, List.length_nil] at hgx
           have Vx2 := blk_set (j := 0) Vx.out (.slice B9 (m + 1) d9)
           have FR2 := FR.out.other (b := (q + 1)) (j := 0) (by simp only [List.length_cons, List.length_nil]; omega) (.slice B9 (m + 1) d9)
           have OW2 := own_other OW.out (k := (q + 1)) (o := 0) (u := .slice B9 (m + 1) d9) hoz
           clear FR Vx OW hoz ct0 cf0
           generalize w9.setCell ⟨(q + 1), 0, none⟩ (.slice B9 (m + 1) d9) = wz at *
           have FR := Lib.hid FR2; have Vx := Lib.hid Vx2; have OW := Lib.hid OW2
           clear FR2 Vx2 OW2
           refine Shut.out hK _ _ (by first | exact hS | trivial) (fun _ => ?_)
           clear hK K
           try simp only [Act.put, List.setIfInBounds_toArray, List.set_cons_zero, List.set_cons_succ]
           refine wpAnyH_done (by kernel_rfl) ?_ _
           refine NoPanic.normal ?_
           have cz2 : wz.cell? ⟨(q + 1), 2, none⟩ = some (.int .i64 fi) := (blk_cell Vx.out 2).trans rfl
           have fz2 : wz.frozen? ⟨(q + 1), 2, none⟩ = false := blk_frozen Vx.out 2
           have hoz := own_ne OW.out Vx.out (by decide)
           have Vx3 := Lib.hid (blk_set (j := 2) Vx.out (.int .i64 0))
           have FR3 := Lib.hid (FR.out.other (b := (q + 1)) (j := 2) (by simp only [List.length_cons, List.length_nil]; omega) (.int .i64 0))
           have OW3 := Lib.hid (own_other OW.out (k := (q + 1)) (o := 2) (u := .int .i64 0) hoz)
           go_wp2
           go_roundw
           case rel => exact ⟨i + 1, m + 1, d9, B9, by go_num, by omega, by have := HMI.out; omega, Lib.hid FR3.out, Lib.hid (by rw [if_neg (by omega)]; exact Vx3.out), Lib.hid (by rw [HPS.out]; exact OW3.out)⟩
           case measure => simp [intOf]; omega
          ·
           go_simp
           refine (refEmpty_any ((i : Int) + 1) _).mono ?_
           rintro e wa ⟨rfl, hb⟩
           replace FR := Lib.hid (show Fr w wa q _ from (show Fr w wr.drew q _ from FR.out.drew).step hb)
           replace Vx := Lib.hid (blk_below (show wr.drew.heap[(q + 1)]? = _ from Vx.out) hb (blk_lt Vx.out))
           replace OW := Lib.hid (own_below (own_below OW.out (Below.refl _ wr).drew) hb)
           clear hb
           have cw0 : wa.cell? ⟨(q + 1), 0, none⟩ = some (.slice B m d) := (blk_cell Vx.out 0).trans rfl
           have cv0 : wa.frozen? ⟨(q + 1), 0, none⟩ = false := blk_frozen Vx.out 0
           have hS := trivial
           go_wp2_with fail
           refine Shut.out hK _ _ (by first | exact hS | trivial) (fun _ => ?_)
           clear hK K
           try simp only [Act.put, List.setIfInBounds_toArray, List.set_cons_zero, List.set_cons_succ]
           refine wpAnyH_ready (rs := [1, 4]) (by kernel_rfl) (by simp) (AllReadyH.cons (o := ⟨some 26, .load 22 (.tmp 25), 22, "ref.go:25", #[⟨0, .data⟩], none⟩) rfl (fun K hK => ?_) (AllReadyH.cons (o := ⟨some 29, .buildSlice 22 1 #[(0, .tmp 28)], 22, "ref.go:25", #[⟨3, .data⟩], none⟩) rfl (fun K hK => ?_) AllReadyH.nil))
           ·
            go_simp
            skip
            go_wp2_with fail
            refine Shut.out hK _ _ (by first | exact hS | trivial) (fun _ => ?_)
            clear hK K
            try simp only [Act.put, List.setIfInBounds_toArray, List.set_cons_zero, List.set_cons_succ]
            refine wpAnyH_ready (rs := [4]) (by kernel_rfl) (by simp) (AllReadyH.cons (o := ⟨some 29, .buildSlice 22 1 #[(0, .tmp 28)], 22, "ref.go:25", #[⟨3, .data⟩], none⟩) rfl (fun K hK => ?_) AllReadyH.nil)
            go_simp
            have bd : Below wa.heap.size wa (wa.alloc (.cells #[.int .i64 (-1), .int .u32 0, .int .i64 ((i : Int) + 1), .int .i64 (-1), .int .i64 (-1), .int .i64 (-1)] 52)) := (Below.refl _ _).alloc (Nat.le_refl _) _
            have VL : (wa.alloc (.cells #[.int .i64 (-1), .int .u32 0, .int .i64 ((i : Int) + 1), .int .i64 (-1), .int .i64 (-1), .int .i64 (-1)] 52)).heap[wa.heap.size]? = some (.cells #[.int .i64 (-1), .int .u32 0, .int .i64 ((i : Int) + 1), .int .i64 (-1), .int .i64 (-1), .int .i64 (-1)] 52) := heap_alloc_new _ _
            replace FR := Lib.hid (FR.out.step bd)
            replace Vx := Lib.hid (blk_below Vx.out bd (blk_lt Vx.out))
            replace OW := Lib.hid (own_below OW.out bd)
            clear bd
            generalize wa.alloc (.cells #[.int .i64 (-1), .int .u32 0, .int .i64 ((i : Int) + 1), .int .i64 (-1), .int .i64 (-1), .int .i64 (-1)] 52) = wl at *
            generalize hsl : wa.heap.size = sl at *
            have cu0 : wl.cell? ⟨(q + 1), 0, none⟩ = some (.slice B m d) := (blk_cell Vx.out 0).trans rfl
            have cp0 : wl.frozen? ⟨(q + 1), 0, none⟩ = false := blk_frozen Vx.out 0
            refine Shut.out hK _ _ (by first | exact hS | trivial) (fun _ => ?_)
            clear hK K
            try simp only [Act.put, List.setIfInBounds_toArray, List.set_cons_zero, List.set_cons_succ]
            refine wpAnyH_ready (rs := [5]) (by kernel_rfl) (by simp) (AllReadyH.cons (o := ⟨some 30, .call { callee := .builtin .append, args := #[.tmp 26, .tmp 29], argTypes := #[22, 22] }, 22, "ref.go:25", #[⟨1, .data⟩, ⟨4, .data⟩, ⟨3, .chain⟩], none⟩) rfl (fun K hK => ?_) AllReadyH.nil)
            obtain ⟨v9, w9, hap, hown, hgr, hvk⟩ := eapp_own (P := Try.prog) wl (q + 1) 22 22 52 i5 _ 6 48 Try.underlying22 HI.out HZ0.out HZ1.out HZ2.out rfl (by decide) (.slice B m d) m _ OW.out (some ⟨sl, 0, none⟩) 1 1 (ndC [empN ((i : Int) + 1)]) (lit_node VL) (by unfold maxLen; omega) (by omega) (by have := FR.out.sz; simp only [List.length_cons, List.length_nil] at this; omega)
            refine op_app_run7 (by rfl) rfl rfl rfl hap ?_
            have hnk : ∀ k, (Value.slice B m d).ownBlock = some k → q + 1 ≤ k := fun k hk => (OW.out.lt k hk).1
            replace FR := Lib.hid (FR.out.grown hgr (fun k hk => by have := hnk k hk; simp only [List.length_cons, List.length_nil]; omega))
            replace Vx := Lib.hid (blk_grown Vx.out hgr (fun k hk e => hox (by rw [hk, e])))
            obtain ⟨B9, d9, hv9, _⟩ := Es.of_own hown (by intro u hu; rcases List.mem_append.1 hu with hu | hu; exact ndC_one _ u hu; exact ndC_one _ u hu)
            subst hv9
            rw [← ndC_app] at hown
            replace OW := Lib.hid hown
            clear hap hown hgr hnk hvk VL hox
            have ct0 : w9.cell? ⟨(q + 1), 0, none⟩ = some (.slice B m d) := (blk_cell Vx.out 0).trans rfl
            have cf0 : w9.frozen? ⟨(q + 1), 0, none⟩ = false := blk_frozen Vx.out 0
            refine Shut.out hK _ _ (by first | exact hS | trivial) (fun _ => ?_)
            clear hK K
            try simp only [Act.put, List.setIfInBounds_toArray, List.set_cons_zero, List.set_cons_succ]
            refine wpAnyH_take (i := 6) (oi := ⟨some 31, .fieldAddr 24 (.tmp 4) 0, 0, "ref.go:25", #[⟨0, .phase⟩, ⟨1, .phase⟩, ⟨2, .phase⟩, ⟨3, .phase⟩, ⟨4, .phase⟩, ⟨5, .phase⟩], none⟩) (v := ?_) rfl (by kernel_rfl) (by kernel_rfl) (by kernel_rfl) (fun _ _ _ h => h) (Or.inl ⟨by rfl, ?_⟩) hS ?_
            rotate_left
            · intro wv _; go_simp; try with_reducible rfl
            try simp only [Act.put, List.setIfInBounds_toArray, List.set_cons_zero, List.set_cons_succ]
            refine wpAnyH_ready (rs := [7]) (by kernel_rfl) (by simp) (AllReadyH.cons (o := ⟨none, .store 22 (.tmp 31) (.tmp 30), 0, "ref.go:25", #[⟨6, .data⟩, ⟨5, .data⟩, ⟨5, .chain⟩, ⟨0, .phase⟩, ⟨1, .phase⟩, ⟨2, .phase⟩, ⟨3, .phase⟩, ⟨4, .phase⟩, ⟨5, .phase⟩], none⟩) rfl (fun K hK => ?_) AllReadyH.nil)
            go_simp
            have hoz := own_ne OW.out Vx.out (by decide)
            have hgx := FR.out.sz
            simp only [List.length_cons, List.length_nil] at hgx
            have Vx2 := blk_set (j := 0) Vx.out (.slice B9 (m + 1) d9)
            have FR2 := FR.out.other (b := (q + 1)) (j := 0) (by simp only [List.length_cons, List.length_nil]; omega) (.slice B9 (m + 1) d9)
            have OW2 := own_other OW.out (k := (q + 1)) (o := 0) (u := .slice B9 (m + 1) d9) hoz
            clear FR Vx OW hoz ct0 cf0
            generalize w9.setCell ⟨(q + 1), 0, none⟩ (.slice B9 (m + 1) d9) = wz at *
            have FR := Lib.hid FR2; have Vx := Lib.hid Vx2; have OW := Lib.hid OW2
            clear FR2 Vx2 OW2
            refine Shut.out hK _ _ (by first | exact hS | trivial) (fun _ => ?_)
            clear hK K
            try simp only [Act.put, List.setIfInBounds_toArray, List.set_cons_zero, List.set_cons_succ]
            refine wpAnyH_done (by kernel_rfl) ?_ _
            refine NoPanic.normal ?_
            have cz2 : wz.cell? ⟨(q + 1), 2, none⟩ = some (.int .i64 fi) := (blk_cell Vx.out 2).trans rfl
            have fz2 : wz.frozen? ⟨(q + 1), 2, none⟩ = false := blk_frozen Vx.out 2
            have hoz := own_ne OW.out Vx.out (by decide)
            have Vx3 := Lib.hid (blk_set (j := 2) Vx.out (.int .i64 0))
            have FR3 := Lib.hid (FR.out.other (b := (q + 1)) (j := 2) (by simp only [List.length_cons, List.length_nil]; omega) (.int .i64 0))
            have OW3 := Lib.hid (own_other OW.out (k := (q + 1)) (o := 2) (u := .int .i64 0) hoz)
            go_wp2
            go_roundw
            case rel => exact ⟨i + 1, m + 1, d9, B9, by go_num, by omega, by have := HMI.out; omega, Lib.hid FR3.out, Lib.hid (by rw [if_neg (by omega)]; exact Vx3.out), Lib.hid (by rw [HPS.out]; exact OW3.out)⟩
            case measure => simp [intOf]; omega
           ·
            go_simp
            have bd : Below wa.heap.size wa (wa.alloc (.cells #[.int .i64 (-1), .int .u32 0, .int .i64 ((i : Int) + 1), .int .i64 (-1), .int .i64 (-1), .int .i64 (-1)] 52)) := (Below.refl _ _).alloc (Nat.le_refl _) _
            have VL : (wa.alloc (.cells #[.int .i64 (-1), .int .u32 0, .int .i64 ((i : Int) + 1), .int .i64 (-1), .int .i64 (-1), .int .i64 (-1)] 52)).heap[wa.heap.size]? = some (.cells #[.int .i64 (-1), .int .u32 0, .int .i64 ((i : Int) + 1), .int .i64 (-1), .int .i64 (-1), .int .i64 (-1)] 52) := heap_alloc_new _ _
            replace FR := Lib.hid (FR.out.step bd)
            replace Vx := Lib.hid (blk_below Vx.out bd (blk_lt Vx.out))
            replace OW := Lib.hid (own_below OW.out bd)
            clear bd
            generalize wa.alloc (.cells #[.int .i64 (-1), .int .u32 0, .int .i64 ((i : Int) + 1), .int .i64 (-1), .int .i64 (-1), .int .i64 (-1)] 52) = wl at *
            generalize hsl : wa.heap.size = sl at *
            have cu0 : wl.cell? ⟨(q + 1), 0, none⟩ = some (.slice B m d) := (blk_cell Vx.out 0).trans rfl
            have cp0 : wl.frozen? ⟨(q + 1), 0, none⟩ = false := blk_frozen Vx.out 0
            refine Shut.out hK _ _ (by first | exact hS | trivial) (fun _ => ?_)
            clear hK K
            try simp only [Act.put, List.setIfInBounds_toArray, List.set_cons_zero, List.set_cons_succ]
            refine wpAnyH_ready (rs := [1]) (by kernel_rfl) (by simp) (AllReadyH.cons (o := ⟨some 26, .load 22 (.tmp 25), 22, "ref.go:25", #[⟨0, .data⟩], none⟩) rfl (fun K hK => ?_) AllReadyH.nil)
            go_simp
            skip
            go_wp2_with fail
            refine Shut.out hK _ _ (by first | exact hS | trivial) (fun _ => ?_)
            clear hK K
            try simp only [Act.put, List.setIfInBounds_toArray, List.set_cons_zero, List.set_cons_succ]
            refine wpAnyH_ready (rs := [5]) (by kernel_rfl) (by simp) (AllReadyH.cons (o := ⟨some 30, .call { callee := .builtin .append, args := #[.tmp 26, .tmp 29], argTypes := #[22, 22] }, 22, "ref.go:25", #[⟨1, .data⟩, ⟨4, .data⟩, ⟨3, .chain⟩], none⟩) rfl (fun K hK => ?_) AllReadyH.nil)
            obtain ⟨v9, w9, hap, hown, hgr, hvk⟩ := eapp_own (P := Try.prog) wl (q + 1) 22 22 52 i5 _ 6 48 Try.underlying22 HI.out HZ0.out HZ1.out HZ2.out rfl (by decide) (.slice B m d) m _ OW.out (some ⟨sl, 0, none⟩) 1 1 (ndC [empN ((i : Int) + 1)]) (lit_node VL) (by unfold maxLen; omega) (by omega) (by have := FR.out.sz; simp only [List.length_cons, List.length_nil] at this; omega)
            refine op_app_run7 (by rfl) rfl rfl rfl hap ?_
            have hnk : ∀ k, (Value.slice B m d).ownBlock = some k → q + 1 ≤ k := fun k hk => (OW.out.lt k hk).1
            replace FR := Lib.hid (FR.out.grown hgr (fun k hk => by have := hnk k hk; simp only [List.length_cons, List.length_nil]; omega))
            replace Vx := Lib.hid (blk_grown Vx.out hgr (fun k hk e => hox (by rw [hk, e])))
            obtain ⟨B9, d9, hv9, _⟩ := Es.of_own hown (by intro u hu; rcases List.mem_append.1 hu with hu | hu; exact ndC_one _ u hu; exact ndC_one _ u hu)
            subst hv9
            rw [← ndC_app] at hown
            replace OW := Lib.hid hown
            clear hap hown hgr hnk hvk VL hox
            have ct0 : w9.cell? ⟨(q + 1), 0, none⟩ = some (.slice B m d) := (blk_cell Vx.out 0).trans rfl
            have cf0 : w9.frozen? ⟨(q + 1), 0, none⟩ = false := blk_frozen Vx.out 0
            refine Shut.out hK _ _ (by first | exact hS | trivial) (fun _ => ?_)
            clear hK K
            try simp only [Act.put, List.setIfInBounds_toArray, List.set_cons_zero, List.set_cons_succ]
            refine wpAnyH_take (i := 6) (oi := ⟨some 31, .fieldAddr 24 (.tmp 4) 0, 0, "ref.go:25", #[⟨0, .phase⟩, ⟨1, .phase⟩, ⟨2, .phase⟩, ⟨3, .phase⟩, ⟨4, .phase⟩, ⟨5, .phase⟩], none⟩) (v := ?_) rfl (by kernel_rfl) (by kernel_rfl) (by kernel_rfl) (fun _ _ _ h => h) (Or.inl ⟨by rfl, ?_⟩) hS ?_
            rotate_left
            · intro wv _; go_simp; try with_reducible rfl
            try simp only [Act.put, List.setIfInBounds_toArray, List.set_cons_zero, List.set_cons_succ]
            refine wpAnyH_ready (rs := [7]) (by kernel_rfl) (by simp) (AllReadyH.cons (o := ⟨none, .store 22 (.tmp 31) (.tmp 30), 0, "ref.go:25", #[⟨6, .data⟩, ⟨5, .data⟩, ⟨5, .chain⟩, ⟨0, .phase⟩, ⟨1, .phase⟩, ⟨2, .phase⟩, ⟨3, .phase⟩, ⟨4, .phase⟩, ⟨5, .phase⟩], none⟩) rfl (fun K hK => ?_) AllReadyH.nil)
            go_simp
            have hoz := own_ne OW.out Vx.out (by decide)
            have hgx := FR.out.sz
            simp only [List.length_cons, List.length_nil] at hgx
            have Vx2 := blk_set (j := 0) Vx.out (.slice B9 (m + 1) d9)
            have FR2 := FR.out.other (b := (q + 1)) (j := 0) (by simp only [List.length_cons, List.length_nil]; omega) (.slice B9 (m + 1) d9)
            have OW2 := own_other OW.out (k := (q + 1)) (o := 0) (u := .slice B9 (m + 1) d9) hoz
            clear FR Vx OW hoz ct0 cf0
            generalize w9.setCell ⟨(q + 1), 0, none⟩ (.slice B9 (m + 1) d9) = wz at *
            have FR := Lib.hid FR2; have Vx := Lib.hid Vx2; have OW := Lib.hid OW2
            clear FR2 Vx2 OW2
            refine Shut.out hK _ _ (by first | exact hS | trivial) (fun _ => ?_)
            clear hK K
            try simp only [Act.put, List.setIfInBounds_toArray, List.set_cons_zero, List.set_cons_succ]
            refine wpAnyH_done (by kernel_rfl) ?_ _
            refine NoPanic.normal ?_
            have cz2 : wz.cell? ⟨(q + 1), 2, none⟩ = some (.int .i64 fi) := (blk_cell Vx.out 2).trans rfl
            have fz2 : wz.frozen? ⟨(q + 1), 2, none⟩ = false := blk_frozen Vx.out 2
            have hoz := own_ne OW.out Vx.out (by decide)
            have Vx3 := Lib.hid (blk_set (j := 2) Vx.out (.int .i64 0))
            have FR3 := Lib.hid (FR.out.other (b := (q + 1)) (j := 2) (by simp only [List.length_cons, List.length_nil]; omega) (.int .i64 0))
            have OW3 := Lib.hid (own_other OW.out (k := (q + 1)) (o := 2) (u := .int .i64 0) hoz)
            go_wp2
            go_roundw
            case rel => exact ⟨i + 1, m + 1, d9, B9, by go_num, by omega, by have := HMI.out; omega, Lib.hid FR3.out, Lib.hid (by rw [if_neg (by omega)]; exact Vx3.out), Lib.hid (by rw [HPS.out]; exact OW3.out)⟩
            case measure => simp [intOf]; omega
      · have en : i = n := by omega
        have b2 : decide ((i : Int) < (n : Int)) = false := by simp; omega
        have OWn := Lib.hid (show wr.ownsRow (q + 1) 52 6 (.slice B m d) m (ndC (partT n n)) from by rw [← en]; rw [en] at OW; rw [en]; exact OW.out)
        have HFI := Lib.hid (show (if n = 0 then (-1 : Int) else 0) = fi by rw [← en]; exact hfi)
        clear hfi en OW
        have OW := OWn
        clear OWn
        have c00 : wr.cell? ⟨q, 0, none⟩ = some (.slice none 0 0) := FR.out.cell 0 0 rfl rfl rfl
        have f00 : wr.frozen? ⟨q, 0, none⟩ = false := FR.out.frozen 0 0 rfl rfl
        have c01 : wr.cell? ⟨q, 1, none⟩ = some (.int .i64 0) := FR.out.cell 0 1 rfl rfl rfl
        have f01 : wr.frozen? ⟨q, 1, none⟩ = false := FR.out.frozen 0 1 rfl rfl
        have c02 : wr.cell? ⟨q, 2, none⟩ = some (.int .i64 0) := FR.out.cell 0 2 rfl rfl rfl
        have f02 : wr.frozen? ⟨q, 2, none⟩ = false := FR.out.frozen 0 2 rfl rfl
        have cx0 : wr.cell? ⟨q + 1, 0, none⟩ = some (.slice B m d) := (blk_cell Vx.out 0).trans rfl
        have fx0 : wr.frozen? ⟨q + 1, 0, none⟩ = false := blk_frozen Vx.out 0
        have cx1 : wr.cell? ⟨q + 1, 1, none⟩ = some (.int .i64 (-1)) := (blk_cell Vx.out 1).trans rfl
        have fx1 : wr.frozen? ⟨q + 1, 1, none⟩ = false := blk_frozen Vx.out 1
        have cx2 : wr.cell? ⟨q + 1, 2, none⟩ = some (.int .i64 fi) := (blk_cell Vx.out 2).trans rfl
        have fx2 : wr.frozen? ⟨q + 1, 2, none⟩ = false := blk_frozen Vx.out 2
        go_wp2
        have FZ : Fr w (((wr.setCell ⟨q, 0, none⟩ (.slice B m d)).setCell ⟨q, 1, none⟩ (.int .i64 (-1))).setCell ⟨q, 2, none⟩ (.int .i64 fi)) q [.cells #[.slice B m d, .int .i64 (-1), .int .i64 fi] 24] := (((FR.out.set 0 0 rfl rfl (.slice B m d)).set 0 1 rfl rfl (.int .i64 (-1))).set 0 2 rfl rfl (.int .i64 fi))
        refine bodyPost_ret (res_cs Try.results24 (by rfl) (FZ.load 0 rfl rfl Try.underlying24 (by kernel_rfl))) rfl ?_
        rw [HR.out, HFI.out]
        exact ⟨_, _, _, rfl, own_base (own_apart (own_apart (own_apart (OW.out) (k := q) (o := 0) (u := .slice B m d) (by omega)) (k := q) (o := 1) (u := .int .i64 (-1)) (by omega)) (k := q) (o := 2) (u := .int .i64 fi) (by omega)) (show w.heap.size ≤ _ from by omega), FZ.out⟩
end Go.Proofs.Ytfgfohomgomidaa
