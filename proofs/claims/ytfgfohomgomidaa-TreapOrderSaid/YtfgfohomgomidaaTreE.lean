/- What the document's own Laid, Same, Right and Keys of layer 9 answer; for slices of up to 16384 nodes. -/
import Derived.Test.YtfgfohomgomidaaTreD
namespace Go.Proofs.Ytfgfohomgomidaa
set_option linter.unusedVariables false
set_option linter.unusedSimpArgs false
open Go.RowKit

/-- a yes or a no. -/
def Yes9 (w : World) (b : Bool) (e : Ending) (w' : World) : Prop := e = .returned (.bool b) ∧ Below w.heap.size w w'
theorem isx_own {w : World} {b1 b2 n d m c : Nat} {B C : Option Addr} {l : List Int} {cs : List Value} (h : w.ownsRow b1 3 1 (.slice C m c) m (intC l)) (h2 : w.ownsRow b2 52 6 (.slice B n d) n cs) (g : Nat) (hB : B = some ⟨g, 0, none⟩) : IsX w g C m c l := by
  obtain ⟨_, _, he, his⟩ := Es.of_own h (intC_one _)
  injection he with he1 he2 he3; subst he1; subst he3
  refine ⟨his, fun b o hm e => ?_⟩
  subst e
  rcases h.2 with ⟨_, h0⟩ | ⟨b', cap, cur, h3, h4, h5, h6⟩
  · omega
  · injection h3 with h3; injection h3 with h3; injection h3 with h3 _; subst h3
    rcases h2.2 with ⟨h7, _⟩ | ⟨g', cap2, cur2, h7, h8, h9, h10⟩
    · rw [hB] at h7; cases h7
    · rw [hB] at h7
      injection h7 with h7; injection h7 with h7; injection h7 with h7 _; subst h7
      intro e2; subst e2
      rw [h5] at h9; injection h9 with h9; injection h9 with _ h9; exact absurd h9 (by decide)
theorem sortT_in (p : Trp) : InN p.1.length (sortT p) ∧ (sortT p).length ≤ p.1.length := ⟨fun x hx => by have := sortK_mem.1 hx; exact ⟨this.1, this.2.1⟩, sortK_len⟩
set_option maxRecDepth 100000 in
set_option maxHeartbeats 4000000 in
theorem refLaid9_any (A : Option Addr) (n c : Nat) (ns : List Nd) (rt fr : Int) (w : World) (hx : Ns w A n c ns) (hn : n ≤ 16384) :
    Calls Try.prog 31 #[.agg #[.slice A n c, .int .i64 rt, .int .i64 fr]] w (CopyPost9 w n (laidP (ns, rt, fr)).1 (laidP (ns, rt, fr)).2.1 (laidP (ns, rt, fr)).2.2) := by
  have hlen := hx.len
  have RX := Lib.hid hx
  have HL := Lib.hid hlen
  have CP := Lib.hid (fun (W : World) (h : Ns W A n c ns) => refCopy9_any A n c ns rt fr W h hn)
  have SW := fun (W : World) (h : Ns W A n c ns) => refSorted9_any A n c ns rt fr W h hn
  have hsi := sortT_in (ns, rt, fr)
  simp only [hlen] at hsi
  obtain ⟨l, hl⟩ : ∃ l, sortT (ns, rt, fr) = l := ⟨_, rfl⟩
  rw [hl] at SW hsi
  replace SW := Lib.hid SW
  obtain ⟨n1, r1, hL1⟩ : ∃ n1 r1, laidT l.length ns l = (n1, r1) := ⟨_, _, rfl⟩
  have hE : laidP (ns, rt, fr) = (n1, r1, fr) := by unfold laidP; rw [hl, hL1]
  rw [hE]
  have G : Hid (∀ (B : Option Addr) (d : Nat) (C : Option Addr) (m c2 base : Nat) W, W.ownsRow base 52 6 (.slice B n d) n (ndC ns) → (∀ g, B = some ⟨g, 0, none⟩ → IsX W g C m c2 l) → Is W C m c2 l → Calls Try.prog 44 #[.slice B n d, .slice C m c2] W (LaidPost9 W base B n d (n1, r1))) := Lib.hid (fun B d C m c2 base W h1 h2 h3 => hL1 ▸ refLaid0_any l.length B n d ns C m c2 l base W h1 h2 h3 hsi.1 (Nat.le_refl _) (by have := Is.len h3; omega) hn)
  clear hx hlen hl hL1 hE hsi
  obtain ⟨v1, hv1⟩ : ∃ W, w.alloc (.cells #[.slice A n c, .int .i64 rt, .int .i64 fr] 24) = W := ⟨_, rfl⟩
  have fr1 : Fr w v1 w.heap.size [.cells #[.slice A n c, .int .i64 rt, .int .i64 fr] 24] := hv1 ▸ Fr.first w _
  have z1 : v1.heap.size = w.heap.size + 1 := by rw [← hv1, Fr.size1]
  obtain ⟨v2, hv2⟩ : ∃ W, v1.alloc (.cells #[.slice none 0 0, .int .i64 0, .int .i64 0] 24) = W := ⟨_, rfl⟩
  have fr2 : Fr w v2 w.heap.size [.cells #[.slice A n c, .int .i64 rt, .int .i64 fr] 24, .cells #[.slice none 0 0, .int .i64 0, .int .i64 0] 24] := hv2 ▸ fr1.more z1 _
  have z2 : v2.heap.size = w.heap.size + 2 := by rw [← hv2, Fr.size1, z1]
  generalize hq : w.heap.size = q at *
  have FR := Lib.hid fr2
  clear fr1 fr2
  go_enter Try.func31, Try.ntmps31
  have FR0 := FR.out.sz
  simp only [List.length_cons, List.length_nil] at FR0
  have c00 : v2.cell? ⟨q, 0, none⟩ = some (.slice A n c) := FR.out.cell 0 0 rfl rfl rfl
  have c01 : v2.cell? ⟨q, 1, none⟩ = some (.int .i64 rt) := FR.out.cell 0 1 rfl rfl rfl
  have c02 : v2.cell? ⟨q, 2, none⟩ = some (.int .i64 fr) := FR.out.cell 0 2 rfl rfl rfl
  have c10 : v2.cell? ⟨q + 1, 0, none⟩ = some (.slice none 0 0) := FR.out.cell 1 0 rfl rfl rfl
  have c11 : v2.cell? ⟨q + 1, 1, none⟩ = some (.int .i64 0) := FR.out.cell 1 1 rfl rfl rfl
  have c12 : v2.cell? ⟨q + 1, 2, none⟩ = some (.int .i64 0) := FR.out.cell 1 2 rfl rfl rfl
  go_wp2_with fail
  refine ((CP.out _ (FR.out.es RX.out))).mono ?_
  rintro e w3 ⟨B, d, rfl, hown, hb⟩
  clear c00 c01 c02 c10 c11 c12
  replace FR := Lib.hid (FR.out.step hb)
  clear hb
  have OW := Lib.hid (own_base hown FR0)
  clear hown FR0 hv1 hv2 z1 z2
  have gex := FR.out.sz
  simp only [List.length_cons, List.length_nil] at gex
  obtain ⟨w4, hw4⟩ : ∃ W, w3.alloc (.cells #[.slice B n d, .int .i64 rt, .int .i64 fr] 24) = W := ⟨_, rfl⟩
  have hb : Below w3.heap.size w3 w4 := hw4 ▸ (Below.refl _ _).alloc (Nat.le_refl _) _
  have hv : w4.heap[w3.heap.size]? = some (.cells #[.slice B n d, .int .i64 rt, .int .i64 fr] 24) := hw4 ▸ heap_alloc_new _ _
  replace FR := Lib.hid (FR.out.step hb)
  replace OW := Lib.hid (own_below OW.out hb)
  have Vx := Lib.hid hv
  generalize hsx : w3.heap.size = sx at *
  clear hb hv
  have c00 : w4.cell? ⟨q, 0, none⟩ = some (.slice A n c) := FR.out.cell 0 0 rfl rfl rfl
  have c01 : w4.cell? ⟨q, 1, none⟩ = some (.int .i64 rt) := FR.out.cell 0 1 rfl rfl rfl
  have c02 : w4.cell? ⟨q, 2, none⟩ = some (.int .i64 fr) := FR.out.cell 0 2 rfl rfl rfl
  have cx0 : w4.cell? ⟨sx, 0, none⟩ = some (.slice B n d) := (blk_cell Vx.out 0).trans rfl
  have cx1 : w4.cell? ⟨sx, 1, none⟩ = some (.int .i64 rt) := (blk_cell Vx.out 1).trans rfl
  have cx2 : w4.cell? ⟨sx, 2, none⟩ = some (.int .i64 fr) := (blk_cell Vx.out 2).trans rfl
  have nqx : q ≠ sx := by omega
  have FR0 := FR.out.sz
  simp only [List.length_cons, List.length_nil] at FR0
  go_wp2
  refine wp_region_noPanic ?_
  refine wp_region_held_drew (S := (fun wv => Hid (wv.cell? ⟨sx, 0, none⟩ = some (.slice B n d) ∧ wv.heap[q]? = some (.cells #[.slice A n c, .int .i64 rt, .int .i64 fr] 24)))) (by kernel_rfl) (Lib.hid ⟨cx0, FR.out.blk 0 _ rfl⟩) (fun hS => ?_)
  refine wpAnyH_take (i := 0) (oi := ⟨some 6, .fieldAddr 24 (.tmp 3) 0, 0, "ref.go:84", #[], none⟩) (v := ?_) rfl (by kernel_rfl) (by kernel_rfl) (by kernel_rfl) (fun _ _ _ h => h) (Or.inl ⟨by rfl, ?_⟩) hS ?_
  rotate_left
  · intro wv _; go_simp; try with_reducible rfl
  try simp only [Act.put, List.setIfInBounds_toArray, List.set_cons_zero, List.set_cons_succ]
  refine wpAnyH_take (i := 1) (oi := ⟨some 7, .load 22 (.tmp 6), 22, "ref.go:84", #[⟨0, .data⟩], none⟩) (v := ?_) rfl (by kernel_rfl) (by kernel_rfl) (by kernel_rfl) (fun _ _ _ h => h) (Or.inl ⟨by rfl, ?_⟩) hS ?_
  rotate_left
  · intro wv hS; have hrun := hS.out.1; go_simp; try with_reducible rfl
  try simp only [Act.put, List.setIfInBounds_toArray, List.set_cons_zero, List.set_cons_succ]
  refine wpAnyH_take (i := 2) (oi := ⟨some 8, .load 24 (.tmp 1), 24, "ref.go:84", #[], none⟩) (v := .agg (([.slice A n c, .int .i64 rt, .int .i64 fr] : List Value)).toArray) rfl (by kernel_rfl) (by kernel_rfl) (by kernel_rfl) (fun _ _ _ h => h) (yieldsIf_load_mid (by rfl) _ _ (by rfl) (q) (0) (by rfl) (([.slice A n c, .int .i64 rt, .int .i64 fr] : List Value)) _ (fun wv hS => blk_rngl hS.out.2) Try.underlying24 (by rfl) (by kernel_rfl)) hS ?_
  try simp only [Act.put, List.setIfInBounds_toArray, List.set_cons_zero, List.set_cons_succ]
  refine wpAnyH_ready (rs := [3]) (by kernel_rfl) (by simp) (AllReadyH.cons (o := ⟨some 9, .call { callee := .value (.func 39), args := #[.tmp 8], argTypes := #[24] }, 38, "ref.go:84", #[⟨2, .data⟩], none⟩) rfl (fun K hK => ?_) AllReadyH.nil)
  go_simp
  refine (SW.out _ (FR.out.drew.es RX.out)).mono ?_
  rintro e wa ⟨C, m, c2, rfl, hown, hb⟩
  replace FR := Lib.hid (FR.out.drew.step hb)
  replace Vx := Lib.hid (blk_below (show w4.drew.heap[sx]? = _ from Vx.out) hb (blk_lt Vx.out))
  replace OW := Lib.hid (own_below (own_below OW.out (Below.refl _ w4).drew) hb)
  have OL := Lib.hid hown
  clear hown hb
  replace hS := Lib.hid (And.intro ((blk_cell Vx.out 0).trans rfl) (FR.out.blk 0 _ rfl))
  go_wp2_with fail
  refine Shut.out hK _ _ hS (fun _ => ?_)
  clear hK K
  try simp only [Act.put, List.setIfInBounds_toArray, List.set_cons_zero, List.set_cons_succ]
  refine wpAnyH_ready (rs := [4]) (by kernel_rfl) (by simp) (AllReadyH.cons (o := ⟨some 10, .call { callee := .value (.func 44), args := #[.tmp 7, .tmp 9], argTypes := #[22, 38] }, 3, "ref.go:84", #[⟨1, .data⟩, ⟨3, .data⟩, ⟨3, .chain⟩], none⟩) rfl (fun K hK => ?_) AllReadyH.nil)
  go_simp
  refine (G.out _ _ _ _ _ _ _ OW.out (isx_own OL.out OW.out) (by obtain ⟨_, _, he, his⟩ := Es.of_own OL.out (intC_one _); injection he with he1 he2 he3; subst he1; subst he3; exact his)).mono ?_
  rintro e wb ⟨rfl, hown, hgr⟩
  have hnx : ∀ k, (Value.slice B n d).ownBlock = some k → k ≠ sx := fun k hk e => own_ne OW.out Vx.out (by decide) (by rw [hk, e])
  have hnq : ∀ k, (Value.slice B n d).ownBlock = some k → q + 2 ≤ k := fun k hk => (OW.out.lt k hk).1
  replace FR := Lib.hid (FR.out.grown hgr (fun k hk => by have := hnq k hk; simp only [List.length_cons, List.length_nil]; omega))
  replace Vx := Lib.hid (blk_grown Vx.out hgr hnx)
  replace OW := Lib.hid hown
  clear hown hgr hnx hnq OL
  replace hS := Lib.hid (And.intro ((blk_cell Vx.out 0).trans rfl) (FR.out.blk 0 _ rfl))
  clear c00 c01 c02 cx0 cx1 cx2
  have cx0 : wb.cell? ⟨sx, 0, none⟩ = some (.slice B n d) := (blk_cell Vx.out 0).trans rfl
  have fx0 : wb.frozen? ⟨sx, 0, none⟩ = false := blk_frozen Vx.out 0
  have cx1 : wb.cell? ⟨sx, 1, none⟩ = some (.int .i64 rt) := (blk_cell Vx.out 1).trans rfl
  have fx1 : wb.frozen? ⟨sx, 1, none⟩ = false := blk_frozen Vx.out 1
  have cx2 : wb.cell? ⟨sx, 2, none⟩ = some (.int .i64 fr) := (blk_cell Vx.out 2).trans rfl
  have fx2 : wb.frozen? ⟨sx, 2, none⟩ = false := blk_frozen Vx.out 2
  go_wp2_with fail
  refine Shut.out hK _ _ hS (fun _ => ?_)
  clear hK K
  try simp only [Act.put, List.setIfInBounds_toArray, List.set_cons_zero, List.set_cons_succ]
  refine wpAnyH_take (i := 5) (oi := ⟨some 11, .fieldAddr 24 (.tmp 3) 1, 0, "ref.go:84", #[⟨0, .phase⟩, ⟨1, .phase⟩, ⟨2, .phase⟩, ⟨3, .phase⟩, ⟨4, .phase⟩], none⟩) (v := ?_) rfl (by kernel_rfl) (by kernel_rfl) (by kernel_rfl) (fun _ _ _ h => h) (Or.inl ⟨by rfl, ?_⟩) hS ?_
  rotate_left
  · intro wv _; go_simp; try with_reducible rfl
  try simp only [Act.put, List.setIfInBounds_toArray, List.set_cons_zero, List.set_cons_succ]
  refine wpAnyH_ready (rs := [6]) (by kernel_rfl) (by simp) (AllReadyH.cons (o := ⟨none, .store 3 (.tmp 11) (.tmp 10), 0, "ref.go:84", #[⟨5, .data⟩, ⟨4, .data⟩, ⟨4, .chain⟩, ⟨0, .phase⟩, ⟨1, .phase⟩, ⟨2, .phase⟩, ⟨3, .phase⟩, ⟨4, .phase⟩], none⟩) rfl (fun K hK => ?_) AllReadyH.nil)
  go_simp
  replace hS := Lib.hid (And.intro ((blk_cell (blk_set (j := 1) Vx.out (.int .i64 r1)) 0).trans rfl) ((Below.heap_setCell _ ⟨sx, 1, none⟩ (.int .i64 r1) q nqx).trans hS.out.2))
  refine Shut.out hK _ _ hS (fun _ => ?_)
  clear hK K
  try simp only [Act.put, List.setIfInBounds_toArray, List.set_cons_zero, List.set_cons_succ]
  refine wpAnyH_done (by kernel_rfl) ?_ _
  refine NoPanic.normal ?_
  clear cx0 fx0 cx1 fx1 cx2 fx2
  have hszw8 := FR.out.sz
  simp only [List.length_cons, List.length_nil] at hszw8
  have OW2 := (own_other OW.out (k := sx) (o := 1) (u := .int .i64 r1) (own_ne OW.out Vx.out (by decide)))
  have Vx2 := (blk_set (j := 1) Vx.out (.int .i64 r1))
  have FR2 := (FR.out.other (b := sx) (j := 1) (by first | (simp only [List.length_set, List.length_cons, List.length_nil]; omega) | (simp; omega)) (.int .i64 r1))
  clear OW Vx FR
  generalize (wb.setCell ⟨sx, 1, none⟩ (.int .i64 r1)) = w8 at *
  have OW := Lib.hid OW2
  clear OW2
  have Vx := Lib.hid (show w8.heap[sx]? = some (.cells #[.slice B n d, .int .i64 r1, .int .i64 fr] 24) from Vx2)
  clear Vx2
  have FR := Lib.hid (show Fr w w8 q [.cells #[.slice A n c, .int .i64 rt, .int .i64 fr] 24, .cells #[.slice none 0 0, .int .i64 0, .int .i64 0] 24] from FR2)
  clear FR2
  clear hS
  have c10 : w8.cell? ⟨q + 1, 0, none⟩ = some (.slice none 0 0) := FR.out.cell 1 0 rfl rfl rfl
  have f10 : w8.frozen? ⟨q + 1, 0, none⟩ = false := FR.out.frozen 1 0 rfl rfl
  have c11 : w8.cell? ⟨q + 1, 1, none⟩ = some (.int .i64 0) := FR.out.cell 1 1 rfl rfl rfl
  have f11 : w8.frozen? ⟨q + 1, 1, none⟩ = false := FR.out.frozen 1 1 rfl rfl
  have c12 : w8.cell? ⟨q + 1, 2, none⟩ = some (.int .i64 0) := FR.out.cell 1 2 rfl rfl rfl
  have f12 : w8.frozen? ⟨q + 1, 2, none⟩ = false := FR.out.frozen 1 2 rfl rfl
  have cx0 : w8.cell? ⟨sx, 0, none⟩ = some (.slice B n d) := (blk_cell Vx.out 0).trans rfl
  have fx0 : w8.frozen? ⟨sx, 0, none⟩ = false := blk_frozen Vx.out 0
  have cx1 : w8.cell? ⟨sx, 1, none⟩ = some (.int .i64 r1) := (blk_cell Vx.out 1).trans rfl
  have fx1 : w8.frozen? ⟨sx, 1, none⟩ = false := blk_frozen Vx.out 1
  have cx2 : w8.cell? ⟨sx, 2, none⟩ = some (.int .i64 fr) := (blk_cell Vx.out 2).trans rfl
  have fx2 : w8.frozen? ⟨sx, 2, none⟩ = false := blk_frozen Vx.out 2
  go_wp2
  have FZ : Fr w (((w8.setCell ⟨q + 1, 0, none⟩ (.slice B n d)).setCell ⟨q + 1, 1, none⟩ (.int .i64 r1)).setCell ⟨q + 1, 2, none⟩ (.int .i64 fr)) q [.cells #[.slice A n c, .int .i64 rt, .int .i64 fr] 24, .cells #[.slice B n d, .int .i64 r1, .int .i64 fr] 24] := (((FR.out.set 1 0 rfl rfl (.slice B n d)).set 1 1 rfl rfl (.int .i64 r1)).set 1 2 rfl rfl (.int .i64 fr))
  refine bodyPost_ret (res_c Try.results31 (by rfl) (FZ.load 1 rfl rfl Try.underlying24 (by kernel_rfl))) rfl ?_
  exact ⟨_, _, rfl, own_base (own_apart (own_apart (own_apart (OW.out) (k := q + 1) (o := 0) (u := .slice B n d) (by omega)) (k := q + 1) (o := 1) (u := .int .i64 r1) (by omega)) (k := q + 1) (o := 2) (u := .int .i64 fr) (by omega)) (by rw [hq]; omega), FZ.out⟩
theorem nds_all {a b : List Nd} (hl : a.length = b.length) (h : ∀ j : Nat, j < a.length → ndAt a j = ndAt b j) : a = b := nds_ext hl fun j h0 h1 => by
  obtain ⟨i, rfl⟩ : ∃ i : Nat, j = i := ⟨j.toNat, by omega⟩
  exact h i (by omega)
set_option maxRecDepth 100000 in
set_option maxHeartbeats 4000000 in
theorem refSame9_any (A : Option Addr) (n c : Nat) (ns : List Nd) (rt fr : Int) (A2 : Option Addr) (m d : Nat) (ns2 : List Nd) (rt2 fr2 : Int) (w : World) (hx : Ns w A n c ns) (hy : Ns w A2 m d ns2) (hn : n ≤ 16384) :
    Calls Try.prog 15 #[.agg #[.slice A n c, .int .i64 rt, .int .i64 fr], .agg #[.slice A2 m d, .int .i64 rt2, .int .i64 fr2]] w (Yes9 w (decide (((ns, rt, fr) : Trp) = (ns2, rt2, fr2)))) := by
  have hlx := hx.len; have hly := hy.len
  have RX := Lib.hid hx; have RY := Lib.hid hy
  obtain ⟨R, hR⟩ : ∃ R, decide (((ns, rt, fr) : Trp) = (ns2, rt2, fr2)) = R := ⟨_, rfl⟩
  rw [hR]
  have HR := Lib.hid hR
  have HX := Lib.hid hlx; have HY := Lib.hid hly
  clear hx hy hR hlx hly
  obtain ⟨v1, hv1⟩ : ∃ W, w.alloc (.cells #[.slice A n c, .int .i64 rt, .int .i64 fr] 24) = W := ⟨_, rfl⟩
  have fr1 : Fr w v1 w.heap.size [.cells #[.slice A n c, .int .i64 rt, .int .i64 fr] 24] := hv1 ▸ Fr.first w _
  have z1 : v1.heap.size = w.heap.size + 1 := by rw [← hv1, Fr.size1]
  obtain ⟨v2, hv2⟩ : ∃ W, v1.alloc (.cells #[.slice A2 m d, .int .i64 rt2, .int .i64 fr2] 24) = W := ⟨_, rfl⟩
  have fr2 : Fr w v2 w.heap.size [.cells #[.slice A n c, .int .i64 rt, .int .i64 fr] 24, .cells #[.slice A2 m d, .int .i64 rt2, .int .i64 fr2] 24] := hv2 ▸ fr1.more z1 _
  have z2 : v2.heap.size = w.heap.size + 2 := by rw [← hv2, Fr.size1, z1]
  generalize hq : w.heap.size = q at *
  have FR := Lib.hid fr2
  clear fr1 fr2
  by_cases h1 : rt = rt2
  · have b1 : (rt != rt2) = false := by simp [h1]
    by_cases h2 : fr = fr2
    · have b2 : (fr != fr2) = false := by simp [h2]
      by_cases h3 : n = m
      · have b3 : ((n : Int) != (m : Int)) = false := by simp [h3]
        have b3n : (n != m) = false := by simp [h3]
        have H12 := Lib.hid (And.intro h1 (And.intro h2 h3))
        clear h1 h2
        have HNM := Lib.hid h3
        clear h3
        have c00 : v2.cell? ⟨q, 0, none⟩ = some (.slice A n c) := FR.out.cell 0 0 rfl rfl rfl
        have c01 : v2.cell? ⟨q, 1, none⟩ = some (.int .i64 rt) := FR.out.cell 0 1 rfl rfl rfl
        have c02 : v2.cell? ⟨q, 2, none⟩ = some (.int .i64 fr) := FR.out.cell 0 2 rfl rfl rfl
        have c10 : v2.cell? ⟨q + 1, 0, none⟩ = some (.slice A2 m d) := FR.out.cell 1 0 rfl rfl rfl
        have c11 : v2.cell? ⟨q + 1, 1, none⟩ = some (.int .i64 rt2) := FR.out.cell 1 1 rfl rfl rfl
        have c12 : v2.cell? ⟨q + 1, 2, none⟩ = some (.int .i64 fr2) := FR.out.cell 1 2 rfl rfl rfl
        go_enter Try.func15, Try.ntmps15
        go_wp2
        clear c00 c01 c02 c10 c11 c12
        clear hv1 hv2 z1 z2
        go_loopw [5] (fun iv wr => ∃ i : Nat, iv = .int .i64 (i : Int) ∧ i ≤ n ∧ Hid (∀ j : Nat, j < i → ndAt ns j = ndAt ns2 j) ∧ Hid (Fr w wr q [.cells #[.slice A n c, .int .i64 rt, .int .i64 fr] 24, .cells #[.slice A2 m d, .int .i64 rt2, .int .i64 fr2] 24])) (fun iv _ => n - (intOf iv).toNat)
        case atStart => exact ⟨0, rfl, by omega, fun j hj => by omega, FR.out⟩
        case round =>
          clear FR
          obtain ⟨i, rfl, hi, HJ, FR⟩ := hrel
          by_cases hlt : i < n
          · have b4 : decide ((i : Int) < (n : Int)) = true := by simpa using hlt
            have i0 : (0 : Int) ≤ (i : Int) := by omega
            have i1 : (i : Int) < (n : Int) := by omega
            have i1' : (i : Int) < (m : Int) := by have := HNM.out; omega
            have hqz : q < wr.heap.size := by have := FR.out.sz; simp only [List.length_cons, List.length_nil] at this; omega
            have hqz2 : q + 1 < wr.heap.size := by have := FR.out.sz; simp only [List.length_cons, List.length_nil] at this; omega
            obtain ⟨b, off, rfl, hb0, k0, k1, k2, k3, k4, k5⟩ := Ns.look (ns := ns) (FR.out.es RX.out) i hlt
            obtain ⟨b2, off2, rfl, hb2, j0, j1, j2, j3, j4, j5⟩ := Ns.look (ns := ns2) (FR.out.es RY.out) i (by have := HNM.out; omega)
            have hne := node_neq (ndAt ns i) (ndAt ns2 i)
            by_cases he : ndAt ns i = ndAt ns2 i
            · rw [decide_eq_false (fun h => h he)] at hne
              have HJ2 := Lib.hid (show ∀ j : Nat, j < i + 1 → ndAt ns j = ndAt ns2 j from fun j hj => by rcases Nat.lt_or_ge j i with h | h; exact HJ.out j h; obtain rfl : j = i := (by omega); exact he)
              clear he HJ
              generalize ndAt ns (i : Int) = r at *
              generalize ndAt ns2 (i : Int) = u at *
              have c00 : wr.cell? ⟨q, 0, none⟩ = some (.slice (some ⟨b, off, none⟩) n c) := FR.out.cell 0 0 rfl rfl rfl
              have c01 : wr.cell? ⟨q, 1, none⟩ = some (.int .i64 rt) := FR.out.cell 0 1 rfl rfl rfl
              have c02 : wr.cell? ⟨q, 2, none⟩ = some (.int .i64 fr) := FR.out.cell 0 2 rfl rfl rfl
              have c10 : wr.cell? ⟨q + 1, 0, none⟩ = some (.slice (some ⟨b2, off2, none⟩) m d) := FR.out.cell 1 0 rfl rfl rfl
              have c11 : wr.cell? ⟨q + 1, 1, none⟩ = some (.int .i64 rt2) := FR.out.cell 1 1 rfl rfl rfl
              have c12 : wr.cell? ⟨q + 1, 2, none⟩ = some (.int .i64 fr2) := FR.out.cell 1 2 rfl rfl rfl
              go_wp2
              refine wp_region_noPanic ?_
              refine wp_region_held_drew (S := (fun wv => Hid (Below wr.heap.size wr wv))) (by kernel_rfl) (Lib.hid (Below.refl _ wr).drew) (fun hS => ?_)
              refine wpAnyH_take (i := 0) (oi := ⟨some 34, .fieldAddr 24 (.tmp 2) 0, 0, "ref.go:94", #[], none⟩) (v := ?_) rfl (by kernel_rfl) (by kernel_rfl) (by kernel_rfl) (fun _ _ _ h => h) (Or.inl ⟨by rfl, ?_⟩) hS ?_
              rotate_left
              · intro wv _; go_simp; try with_reducible rfl
              try simp only [Act.put, List.setIfInBounds_toArray, List.set_cons_zero, List.set_cons_succ]
              refine wpAnyH_take (i := 1) (oi := ⟨some 35, .load 22 (.tmp 34), 22, "ref.go:94", #[⟨0, .data⟩], none⟩) (v := ?_) rfl (by kernel_rfl) (by kernel_rfl) (by kernel_rfl) (fun _ _ _ h => h) (Or.inl ⟨by rfl, ?_⟩) hS ?_
              rotate_left
              · intro wv hS; have hrun := (hS.out.cell (p := ⟨q, 0, none⟩) hqz).trans c00; go_simp; try with_reducible rfl
              try simp only [Act.put, List.setIfInBounds_toArray, List.set_cons_zero, List.set_cons_succ]
              refine wpAnyH_take (i := 2) (oi := ⟨some 36, .move (.tmp 5), 3, "ref.go:94", #[], none⟩) (v := ?_) rfl (by kernel_rfl) (by kernel_rfl) (by kernel_rfl) (fun _ _ _ h => h) (Or.inl ⟨by rfl, ?_⟩) hS ?_
              rotate_left
              · intro wv _; go_simp; try with_reducible rfl
              try simp only [Act.put, List.setIfInBounds_toArray, List.set_cons_zero, List.set_cons_succ]
              refine wpAnyH_take (i := 3) (oi := ⟨some 37, .indexAddr 22 (.tmp 35) (.tmp 36), 0, "ref.go:94", #[⟨1, .data⟩, ⟨2, .data⟩], none⟩) (v := ?_) rfl (by kernel_rfl) (by kernel_rfl) (by kernel_rfl) (fun _ _ _ h => h) (Or.inl ⟨by rfl, ?_⟩) hS ?_
              rotate_left
              · intro wv _; go_simp; try with_reducible rfl
              try simp only [Act.put, List.setIfInBounds_toArray, List.set_cons_zero, List.set_cons_succ]
              refine wpAnyH_take (i := 4) (oi := ⟨some 38, .load 52 (.tmp 37), 52, "ref.go:94", #[⟨3, .data⟩], none⟩) (v := .agg (([.int .i64 r.k, .int .u32 r.p, .int .i64 r.l, .int .i64 r.r, .int .i64 r.h, .int .i64 r.t] : List Value)).toArray) rfl (by kernel_rfl) (by kernel_rfl) (by kernel_rfl) (fun _ _ _ h => h) (yieldsIf_load_mid (by rfl) _ _ (by rfl) (b) (off + i * 6) (by rfl) (([.int .i64 r.k, .int .u32 r.p, .int .i64 r.l, .int .i64 r.r, .int .i64 r.h, .int .i64 r.t] : List Value)) _ (fun wv hS => nd_range ((hS.out.cell (p := ⟨b, off + i * 6, none⟩) hb0).trans k0) ((hS.out.cell (p := ⟨b, off + i * 6 + 1, none⟩) hb0).trans k1) ((hS.out.cell (p := ⟨b, off + i * 6 + 2, none⟩) hb0).trans k2) ((hS.out.cell (p := ⟨b, off + i * 6 + 3, none⟩) hb0).trans k3) ((hS.out.cell (p := ⟨b, off + i * 6 + 4, none⟩) hb0).trans k4) ((hS.out.cell (p := ⟨b, off + i * 6 + 5, none⟩) hb0).trans k5)) Try.underlying52 (by rfl) (by kernel_rfl)) hS ?_
              try simp only [Act.put, List.setIfInBounds_toArray, List.set_cons_zero, List.set_cons_succ]
              refine wpAnyH_take (i := 5) (oi := ⟨some 39, .fieldAddr 24 (.tmp 3) 0, 0, "ref.go:94", #[], none⟩) (v := ?_) rfl (by kernel_rfl) (by kernel_rfl) (by kernel_rfl) (fun _ _ _ h => h) (Or.inl ⟨by rfl, ?_⟩) hS ?_
              rotate_left
              · intro wv _; go_simp; try with_reducible rfl
              try simp only [Act.put, List.setIfInBounds_toArray, List.set_cons_zero, List.set_cons_succ]
              refine wpAnyH_take (i := 6) (oi := ⟨some 40, .load 22 (.tmp 39), 22, "ref.go:94", #[⟨5, .data⟩], none⟩) (v := ?_) rfl (by kernel_rfl) (by kernel_rfl) (by kernel_rfl) (fun _ _ _ h => h) (Or.inl ⟨by rfl, ?_⟩) hS ?_
              rotate_left
              · intro wv hS; have hrun := (hS.out.cell (p := ⟨q + 1, 0, none⟩) hqz2).trans c10; go_simp; try with_reducible rfl
              try simp only [Act.put, List.setIfInBounds_toArray, List.set_cons_zero, List.set_cons_succ]
              refine wpAnyH_take (i := 7) (oi := ⟨some 41, .move (.tmp 5), 3, "ref.go:94", #[], none⟩) (v := ?_) rfl (by kernel_rfl) (by kernel_rfl) (by kernel_rfl) (fun _ _ _ h => h) (Or.inl ⟨by rfl, ?_⟩) hS ?_
              rotate_left
              · intro wv _; go_simp; try with_reducible rfl
              try simp only [Act.put, List.setIfInBounds_toArray, List.set_cons_zero, List.set_cons_succ]
              refine wpAnyH_take (i := 8) (oi := ⟨some 42, .indexAddr 22 (.tmp 40) (.tmp 41), 0, "ref.go:94", #[⟨6, .data⟩, ⟨7, .data⟩], none⟩) (v := ?_) rfl (by kernel_rfl) (by kernel_rfl) (by kernel_rfl) (fun _ _ _ h => h) (Or.inl ⟨by rfl, ?_⟩) hS ?_
              rotate_left
              · intro wv _; go_simp; try with_reducible rfl
              try simp only [Act.put, List.setIfInBounds_toArray, List.set_cons_zero, List.set_cons_succ]
              refine wpAnyH_take (i := 9) (oi := ⟨some 43, .load 52 (.tmp 42), 52, "ref.go:94", #[⟨8, .data⟩], none⟩) (v := .agg (([.int .i64 u.k, .int .u32 u.p, .int .i64 u.l, .int .i64 u.r, .int .i64 u.h, .int .i64 u.t] : List Value)).toArray) rfl (by kernel_rfl) (by kernel_rfl) (by kernel_rfl) (fun _ _ _ h => h) (yieldsIf_load_mid (by rfl) _ _ (by rfl) (b2) (off2 + i * 6) (by rfl) (([.int .i64 u.k, .int .u32 u.p, .int .i64 u.l, .int .i64 u.r, .int .i64 u.h, .int .i64 u.t] : List Value)) _ (fun wv hS => nd_range ((hS.out.cell (p := ⟨b2, off2 + i * 6, none⟩) hb2).trans j0) ((hS.out.cell (p := ⟨b2, off2 + i * 6 + 1, none⟩) hb2).trans j1) ((hS.out.cell (p := ⟨b2, off2 + i * 6 + 2, none⟩) hb2).trans j2) ((hS.out.cell (p := ⟨b2, off2 + i * 6 + 3, none⟩) hb2).trans j3) ((hS.out.cell (p := ⟨b2, off2 + i * 6 + 4, none⟩) hb2).trans j4) ((hS.out.cell (p := ⟨b2, off2 + i * 6 + 5, none⟩) hb2).trans j5)) Try.underlying52 (by rfl) (by kernel_rfl)) hS ?_
              try simp only [Act.put, List.setIfInBounds_toArray, List.set_cons_zero, List.set_cons_succ]
              refine wpAnyH_take (i := 10) (oi := ⟨some 44, .binOp .neq 52 (.tmp 38) (.tmp 43) 52, 4, "ref.go:94", #[⟨4, .data⟩, ⟨9, .data⟩], none⟩) (v := ?_) rfl (by kernel_rfl) (by kernel_rfl) (by kernel_rfl) (fun _ _ _ h => h) (Or.inl ⟨by rfl, ?_⟩) hS ?_
              rotate_left
              · intro wv _; go_simp; try with_reducible rfl
              try simp only [Act.put, List.setIfInBounds_toArray, List.set_cons_zero, List.set_cons_succ]
              refine wpAnyH_done (by kernel_rfl) ?_ _
              refine NoPanic.normal ?_
              clear c00 c01 c02 c10 c11 c12
              clear k0 k1 k2 k3 k4 k5 j0 j1 j2 j3 j4 j5 hne
              go_wp2
              go_roundw
              case rel => exact ⟨i + 1, by go_num, by omega, HJ2, Lib.hid FR.out.drew⟩
              case measure => simp [intOf]; omega
            · rw [decide_eq_true he] at hne
              have HE := Lib.hid (show R = false by rw [← HR.out]; exact decide_eq_false fun h => he (by injection h with h _; rw [h]))
              clear he HJ
              generalize ndAt ns (i : Int) = r at *
              generalize ndAt ns2 (i : Int) = u at *
              have c00 : wr.cell? ⟨q, 0, none⟩ = some (.slice (some ⟨b, off, none⟩) n c) := FR.out.cell 0 0 rfl rfl rfl
              have c01 : wr.cell? ⟨q, 1, none⟩ = some (.int .i64 rt) := FR.out.cell 0 1 rfl rfl rfl
              have c02 : wr.cell? ⟨q, 2, none⟩ = some (.int .i64 fr) := FR.out.cell 0 2 rfl rfl rfl
              have c10 : wr.cell? ⟨q + 1, 0, none⟩ = some (.slice (some ⟨b2, off2, none⟩) m d) := FR.out.cell 1 0 rfl rfl rfl
              have c11 : wr.cell? ⟨q + 1, 1, none⟩ = some (.int .i64 rt2) := FR.out.cell 1 1 rfl rfl rfl
              have c12 : wr.cell? ⟨q + 1, 2, none⟩ = some (.int .i64 fr2) := FR.out.cell 1 2 rfl rfl rfl
              go_wp2
              refine wp_region_noPanic ?_
              refine wp_region_held_drew (S := (fun wv => Hid (Below wr.heap.size wr wv))) (by kernel_rfl) (Lib.hid (Below.refl _ wr).drew) (fun hS => ?_)
              refine wpAnyH_take (i := 0) (oi := ⟨some 34, .fieldAddr 24 (.tmp 2) 0, 0, "ref.go:94", #[], none⟩) (v := ?_) rfl (by kernel_rfl) (by kernel_rfl) (by kernel_rfl) (fun _ _ _ h => h) (Or.inl ⟨by rfl, ?_⟩) hS ?_
              rotate_left
              · intro wv _; go_simp; try with_reducible rfl
              try simp only [Act.put, List.setIfInBounds_toArray, List.set_cons_zero, List.set_cons_succ]
              refine wpAnyH_take (i := 1) (oi := ⟨some 35, .load 22 (.tmp 34), 22, "ref.go:94", #[⟨0, .data⟩], none⟩) (v := ?_) rfl (by kernel_rfl) (by kernel_rfl) (by kernel_rfl) (fun _ _ _ h => h) (Or.inl ⟨by rfl, ?_⟩) hS ?_
              rotate_left
              · intro wv hS; have hrun := (hS.out.cell (p := ⟨q, 0, none⟩) hqz).trans c00; go_simp; try with_reducible rfl
              try simp only [Act.put, List.setIfInBounds_toArray, List.set_cons_zero, List.set_cons_succ]
              refine wpAnyH_take (i := 2) (oi := ⟨some 36, .move (.tmp 5), 3, "ref.go:94", #[], none⟩) (v := ?_) rfl (by kernel_rfl) (by kernel_rfl) (by kernel_rfl) (fun _ _ _ h => h) (Or.inl ⟨by rfl, ?_⟩) hS ?_
              rotate_left
              · intro wv _; go_simp; try with_reducible rfl
              try simp only [Act.put, List.setIfInBounds_toArray, List.set_cons_zero, List.set_cons_succ]
              refine wpAnyH_take (i := 3) (oi := ⟨some 37, .indexAddr 22 (.tmp 35) (.tmp 36), 0, "ref.go:94", #[⟨1, .data⟩, ⟨2, .data⟩], none⟩) (v := ?_) rfl (by kernel_rfl) (by kernel_rfl) (by kernel_rfl) (fun _ _ _ h => h) (Or.inl ⟨by rfl, ?_⟩) hS ?_
              rotate_left
              · intro wv _; go_simp; try with_reducible rfl
              try simp only [Act.put, List.setIfInBounds_toArray, List.set_cons_zero, List.set_cons_succ]
              refine wpAnyH_take (i := 4) (oi := ⟨some 38, .load 52 (.tmp 37), 52, "ref.go:94", #[⟨3, .data⟩], none⟩) (v := .agg (([.int .i64 r.k, .int .u32 r.p, .int .i64 r.l, .int .i64 r.r, .int .i64 r.h, .int .i64 r.t] : List Value)).toArray) rfl (by kernel_rfl) (by kernel_rfl) (by kernel_rfl) (fun _ _ _ h => h) (yieldsIf_load_mid (by rfl) _ _ (by rfl) (b) (off + i * 6) (by rfl) (([.int .i64 r.k, .int .u32 r.p, .int .i64 r.l, .int .i64 r.r, .int .i64 r.h, .int .i64 r.t] : List Value)) _ (fun wv hS => nd_range ((hS.out.cell (p := ⟨b, off + i * 6, none⟩) hb0).trans k0) ((hS.out.cell (p := ⟨b, off + i * 6 + 1, none⟩) hb0).trans k1) ((hS.out.cell (p := ⟨b, off + i * 6 + 2, none⟩) hb0).trans k2) ((hS.out.cell (p := ⟨b, off + i * 6 + 3, none⟩) hb0).trans k3) ((hS.out.cell (p := ⟨b, off + i * 6 + 4, none⟩) hb0).trans k4) ((hS.out.cell (p := ⟨b, off + i * 6 + 5, none⟩) hb0).trans k5)) Try.underlying52 (by rfl) (by kernel_rfl)) hS ?_
              try simp only [Act.put, List.setIfInBounds_toArray, List.set_cons_zero, List.set_cons_succ]
              refine wpAnyH_take (i := 5) (oi := ⟨some 39, .fieldAddr 24 (.tmp 3) 0, 0, "ref.go:94", #[], none⟩) (v := ?_) rfl (by kernel_rfl) (by kernel_rfl) (by kernel_rfl) (fun _ _ _ h => h) (Or.inl ⟨by rfl, ?_⟩) hS ?_
              rotate_left
              · intro wv _; go_simp; try with_reducible rfl
              try simp only [Act.put, List.setIfInBounds_toArray, List.set_cons_zero, List.set_cons_succ]
              refine wpAnyH_take (i := 6) (oi := ⟨some 40, .load 22 (.tmp 39), 22, "ref.go:94", #[⟨5, .data⟩], none⟩) (v := ?_) rfl (by kernel_rfl) (by kernel_rfl) (by kernel_rfl) (fun _ _ _ h => h) (Or.inl ⟨by rfl, ?_⟩) hS ?_
              rotate_left
              · intro wv hS; have hrun := (hS.out.cell (p := ⟨q + 1, 0, none⟩) hqz2).trans c10; go_simp; try with_reducible rfl
              try simp only [Act.put, List.setIfInBounds_toArray, List.set_cons_zero, List.set_cons_succ]
              refine wpAnyH_take (i := 7) (oi := ⟨some 41, .move (.tmp 5), 3, "ref.go:94", #[], none⟩) (v := ?_) rfl (by kernel_rfl) (by kernel_rfl) (by kernel_rfl) (fun _ _ _ h => h) (Or.inl ⟨by rfl, ?_⟩) hS ?_
              rotate_left
              · intro wv _; go_simp; try with_reducible rfl
              try simp only [Act.put, List.setIfInBounds_toArray, List.set_cons_zero, List.set_cons_succ]
              refine wpAnyH_take (i := 8) (oi := ⟨some 42, .indexAddr 22 (.tmp 40) (.tmp 41), 0, "ref.go:94", #[⟨6, .data⟩, ⟨7, .data⟩], none⟩) (v := ?_) rfl (by kernel_rfl) (by kernel_rfl) (by kernel_rfl) (fun _ _ _ h => h) (Or.inl ⟨by rfl, ?_⟩) hS ?_
              rotate_left
              · intro wv _; go_simp; try with_reducible rfl
              try simp only [Act.put, List.setIfInBounds_toArray, List.set_cons_zero, List.set_cons_succ]
              refine wpAnyH_take (i := 9) (oi := ⟨some 43, .load 52 (.tmp 42), 52, "ref.go:94", #[⟨8, .data⟩], none⟩) (v := .agg (([.int .i64 u.k, .int .u32 u.p, .int .i64 u.l, .int .i64 u.r, .int .i64 u.h, .int .i64 u.t] : List Value)).toArray) rfl (by kernel_rfl) (by kernel_rfl) (by kernel_rfl) (fun _ _ _ h => h) (yieldsIf_load_mid (by rfl) _ _ (by rfl) (b2) (off2 + i * 6) (by rfl) (([.int .i64 u.k, .int .u32 u.p, .int .i64 u.l, .int .i64 u.r, .int .i64 u.h, .int .i64 u.t] : List Value)) _ (fun wv hS => nd_range ((hS.out.cell (p := ⟨b2, off2 + i * 6, none⟩) hb2).trans j0) ((hS.out.cell (p := ⟨b2, off2 + i * 6 + 1, none⟩) hb2).trans j1) ((hS.out.cell (p := ⟨b2, off2 + i * 6 + 2, none⟩) hb2).trans j2) ((hS.out.cell (p := ⟨b2, off2 + i * 6 + 3, none⟩) hb2).trans j3) ((hS.out.cell (p := ⟨b2, off2 + i * 6 + 4, none⟩) hb2).trans j4) ((hS.out.cell (p := ⟨b2, off2 + i * 6 + 5, none⟩) hb2).trans j5)) Try.underlying52 (by rfl) (by kernel_rfl)) hS ?_
              try simp only [Act.put, List.setIfInBounds_toArray, List.set_cons_zero, List.set_cons_succ]
              refine wpAnyH_take (i := 10) (oi := ⟨some 44, .binOp .neq 52 (.tmp 38) (.tmp 43) 52, 4, "ref.go:94", #[⟨4, .data⟩, ⟨9, .data⟩], none⟩) (v := ?_) rfl (by kernel_rfl) (by kernel_rfl) (by kernel_rfl) (fun _ _ _ h => h) (Or.inl ⟨by rfl, ?_⟩) hS ?_
              rotate_left
              · intro wv _; go_simp; try with_reducible rfl
              try simp only [Act.put, List.setIfInBounds_toArray, List.set_cons_zero, List.set_cons_succ]
              refine wpAnyH_done (by kernel_rfl) ?_ _
              refine NoPanic.normal ?_
              clear c00 c01 c02 c10 c11 c12
              clear k0 k1 k2 k3 k4 k5 j0 j1 j2 j3 j4 j5 hne
              go_wp2
              go_ret
              rw [HE.out]
              exact ⟨rfl, FR.out.out.drew⟩
          · have en : n = i := by omega
            have b4 : decide ((i : Int) < (n : Int)) = false := by simp; omega
            have HE := Lib.hid (show R = true by rw [← HR.out]; refine decide_eq_true ?_; rw [H12.out.1, H12.out.2.1, nds_all (by rw [HX.out, HY.out]; exact HNM.out) (fun j hj => HJ.out j (by have := HX.out; omega))])
            clear en
            have c00 : wr.cell? ⟨q, 0, none⟩ = some (.slice A n c) := FR.out.cell 0 0 rfl rfl rfl
            have c01 : wr.cell? ⟨q, 1, none⟩ = some (.int .i64 rt) := FR.out.cell 0 1 rfl rfl rfl
            have c02 : wr.cell? ⟨q, 2, none⟩ = some (.int .i64 fr) := FR.out.cell 0 2 rfl rfl rfl
            have c10 : wr.cell? ⟨q + 1, 0, none⟩ = some (.slice A2 m d) := FR.out.cell 1 0 rfl rfl rfl
            have c11 : wr.cell? ⟨q + 1, 1, none⟩ = some (.int .i64 rt2) := FR.out.cell 1 1 rfl rfl rfl
            have c12 : wr.cell? ⟨q + 1, 2, none⟩ = some (.int .i64 fr2) := FR.out.cell 1 2 rfl rfl rfl
            go_wp2
            go_ret
            rw [HE.out]
            exact ⟨rfl, FR.out.out⟩
      · have b3 : ((n : Int) != (m : Int)) = true := by simp; omega
        have b3n : (n != m) = true := by simp [h3]
        have HE := Lib.hid (show R = false by rw [← HR.out]; exact decide_eq_false fun h => h3 (by injection h with h _; rw [← HX.out, ← HY.out, h]))
        clear h1 h2 h3
        have c00 : v2.cell? ⟨q, 0, none⟩ = some (.slice A n c) := FR.out.cell 0 0 rfl rfl rfl
        have c01 : v2.cell? ⟨q, 1, none⟩ = some (.int .i64 rt) := FR.out.cell 0 1 rfl rfl rfl
        have c02 : v2.cell? ⟨q, 2, none⟩ = some (.int .i64 fr) := FR.out.cell 0 2 rfl rfl rfl
        have c10 : v2.cell? ⟨q + 1, 0, none⟩ = some (.slice A2 m d) := FR.out.cell 1 0 rfl rfl rfl
        have c11 : v2.cell? ⟨q + 1, 1, none⟩ = some (.int .i64 rt2) := FR.out.cell 1 1 rfl rfl rfl
        have c12 : v2.cell? ⟨q + 1, 2, none⟩ = some (.int .i64 fr2) := FR.out.cell 1 2 rfl rfl rfl
        go_enter Try.func15, Try.ntmps15
        go_wp2
        go_ret
        rw [HE.out]
        exact ⟨rfl, FR.out.out⟩
    · have b2 : (fr != fr2) = true := by simp [h2]
      have HE := Lib.hid (show R = false by rw [← HR.out]; exact decide_eq_false fun h => h2 (by injection h with _ h; injection h with _ h))
      clear h1 h2
      have c00 : v2.cell? ⟨q, 0, none⟩ = some (.slice A n c) := FR.out.cell 0 0 rfl rfl rfl
      have c01 : v2.cell? ⟨q, 1, none⟩ = some (.int .i64 rt) := FR.out.cell 0 1 rfl rfl rfl
      have c02 : v2.cell? ⟨q, 2, none⟩ = some (.int .i64 fr) := FR.out.cell 0 2 rfl rfl rfl
      have c10 : v2.cell? ⟨q + 1, 0, none⟩ = some (.slice A2 m d) := FR.out.cell 1 0 rfl rfl rfl
      have c11 : v2.cell? ⟨q + 1, 1, none⟩ = some (.int .i64 rt2) := FR.out.cell 1 1 rfl rfl rfl
      have c12 : v2.cell? ⟨q + 1, 2, none⟩ = some (.int .i64 fr2) := FR.out.cell 1 2 rfl rfl rfl
      go_enter Try.func15, Try.ntmps15
      go_wp2
      go_ret
      rw [HE.out]
      exact ⟨rfl, FR.out.out⟩
  · have b1 : (rt != rt2) = true := by simp [h1]
    have HE := Lib.hid (show R = false by rw [← HR.out]; exact decide_eq_false fun h => h1 (by injection h with _ h; injection h with h _))
    clear h1
    have c00 : v2.cell? ⟨q, 0, none⟩ = some (.slice A n c) := FR.out.cell 0 0 rfl rfl rfl
    have c01 : v2.cell? ⟨q, 1, none⟩ = some (.int .i64 rt) := FR.out.cell 0 1 rfl rfl rfl
    have c02 : v2.cell? ⟨q, 2, none⟩ = some (.int .i64 fr) := FR.out.cell 0 2 rfl rfl rfl
    have c10 : v2.cell? ⟨q + 1, 0, none⟩ = some (.slice A2 m d) := FR.out.cell 1 0 rfl rfl rfl
    have c11 : v2.cell? ⟨q + 1, 1, none⟩ = some (.int .i64 rt2) := FR.out.cell 1 1 rfl rfl rfl
    have c12 : v2.cell? ⟨q + 1, 2, none⟩ = some (.int .i64 fr2) := FR.out.cell 1 2 rfl rfl rfl
    go_enter Try.func15, Try.ntmps15
    go_wp2
    go_ret
    rw [HE.out]
    exact ⟨rfl, FR.out.out⟩
end Go.Proofs.Ytfgfohomgomidaa
