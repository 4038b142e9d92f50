/- What slices.Index and the program's own without of layer 8 answer; for slices of up to 16384 records. -/
import Derived.Test.YtombfempdfdeoaaQueI
namespace Go.Proofs.Ytombfempdfdeoaa
set_option linter.unusedVariables false
set_option linter.unusedSimpArgs false
open Go.RowKit
/-- the place of the first one that is equal, or -1. -/
def idxI (x : Int) (l : List Int) : Int := match findI x l with
  | none => -1
  | some k => (k : Int)
theorem idxI_some {x : Int} {l : List Int} {k : Nat} (h : findI x l = some k) : idxI x l = (k : Int) := by unfold idxI; rw [h]
theorem idxI_none {x : Int} {l : List Int} (h : findI x l = none) : idxI x l = -1 := by unfold idxI; rw [h]
def IdxPost (w : World) (x : Int) (l : List Int) (e : Ending) (w' : World) : Prop := e = .returned (.int .i64 (idxI x l)) ∧ Below w.heap.size w w'
set_option maxRecDepth 100000 in
set_option maxHeartbeats 4000000 in
theorem idx8_any (C : Option Addr) (m d : Nat) (l : List Int) (x : Int) (w : World) (hp : Is w C m d l) (hm : m ≤ 16384) :
    Calls Try.prog 30 #[.slice C m d, .int .i64 x] w (IdxPost w x l) := by
  have RX := Lib.hid hp
  have hlen := Lib.hid hp.len
  obtain ⟨R, hR⟩ : ∃ R, idxI x l = R := ⟨_, rfl⟩
  have HR := Lib.hid hR
  unfold IdxPost
  rw [hR]
  clear hp hR
  go_enter Try.func30, Try.ntmps30
  go_wp2
  go_loopw [8] (fun kv wr => ∃ k : Nat, kv = .int .i64 (k : Int) ∧ k ≤ m ∧ x ∉ l.take k ∧ Hid (Below w.heap.size w wr)) (fun kv _ => m - (intOf kv).toNat)
  case atStart => exact ⟨0, rfl, by omega, by simp, Below.refl _ _⟩
  case round =>
    obtain ⟨k, rfl, hk, hnt, HB⟩ := hrel
    by_cases hlt : k < m
    · have b1 : decide ((k : Int) < (m : Int)) = true := by simpa using hlt
      obtain ⟨lb, loff, y, rfl, hlb, hlc, hdr⟩ := (show Is _ C m d l from RX.out).look k hlt
      replace hlc := (HB.out.cell (p := ⟨lb, loff + k, none⟩) hlb).trans hlc
      have hi0 : (0 : Int) ≤ (k : Int) := by omega
      have hi1 : (k : Int) < (m : Int) := by omega
      by_cases hxy : y = x
      · have b2 : (x == y) = true := by simp [hxy]
        have HE := Lib.hid (show R = (k : Int) by rw [← HR.out]; exact idxI_some (findI_some (by have := hlen.out; have h1 := drop_at (xs := l) (i := k) (by omega); rw [h1] at hdr; injection hdr with h2 _; rw [List.getElem?_eq_getElem (by omega), h2, hxy]) hnt))
        clear hdr hnt hxy hlb
        go_wp2
        go_ret
        rw [HE.out]
        exact ⟨rfl, HB.out⟩
      · have b2 : (x == y) = false := by simp; exact fun h => hxy h.symm
        have hnt2 := not_mem_take hdr hnt hxy
        clear hdr hlb hnt hxy
        have HN2 := Lib.hid hnt2
        clear hnt2
        go_wp2
        go_roundw
        case rel => exact ⟨k + 1, by go_num, by omega, HN2.out, HB⟩
        case measure => simp [intOf]; omega
    · have en : m = k := by omega
      subst en
      have b1 : decide ((m : Int) < (m : Int)) = false := by simp
      have HE := Lib.hid (show R = -1 by rw [← HR.out]; exact idxI_none (findI_none.2 (by rw [List.take_of_length_le (Nat.le_of_eq hlen.out)] at hnt; exact hnt)))
      clear hnt
      go_wp2
      go_ret
      rw [HE.out]
      exact ⟨rfl, HB.out⟩
theorem set_len (p : Aren) (i x : Int) : (arSet p i x).1.1.length = p.1.length := by
  unfold arSet
  split
  · rfl
  · split
    · rfl
    · split
      · rfl
      · simp
set_option maxRecDepth 100000 in
set_option maxHeartbeats 8000000 in
theorem qpBut_all (A : Option Addr) (n c : Nat) (rs : List Rec3) (fr hd tl : Int) (C : Option Addr) (m c2 k : Nat) (w : World) (hx : Rs w A n c rs) (hp : Is w C m c2 (qPlaces (rs, fr) (hd, tl))) (hn : n ≤ 16384) (hr : qRight (rs, fr) (hd, tl) = true) (hk : k < m) :
    Calls Try.prog 28 #[.agg #[.slice A n c, .int .i64 fr], .agg #[.int .i64 hd, .int .i64 tl], .slice C m c2, .int .i64 (k : Int)] w (QAll w (qBut (rs, fr) (hd, tl) k)) := by
  have HL := Lib.hid hx.len
  have RX := Lib.hid hx
  have IP := Lib.hid hp
  have hlm := hp.len
  have HPL := qPlaces_places (rs, fr) (hd, tl)
  have BP := but_prog hr (k := k) (by omega)
  have CP := Lib.hid (fun (W : World) (h : Rs W A n c rs) => qpCopied_any A n c rs fr W h hn)
  obtain ⟨R, hR⟩ : ∃ R, qBut (rs, fr) (hd, tl) k = R := ⟨_, rfl⟩
  rw [hR] at BP ⊢
  obtain ⟨l, hl⟩ : ∃ l, qPlaces (rs, fr) (hd, tl) = l := ⟨_, rfl⟩
  rw [hl] at BP IP HPL hlm
  have hm16 : m ≤ n := by have h1 := HPL.len; have h2 := HL.out; simp only at h1; omega
  clear hx hp hr hR hl
  obtain ⟨lb, loff, x, rfl, hlb, hlc, hdr⟩ := (show Is w C m c2 l from IP.out).look k hk
  have hxk : l.getD k 0 = x := by have h1 := drop_at (xs := l) (i := k) (by omega); rw [h1] at hdr; injection hdr with h2 _; rw [← h2]; simp [List.getD, show k < l.length by omega]
  rw [hxk] at BP
  have hxb := HPL.2 x (mem_at hdr)
  simp only [HL.out] at hxb
  obtain ⟨i, rfl⟩ : ∃ i : Nat, x = i := ⟨x.toNat, by omega⟩
  clear hdr
  obtain ⟨b, off, rfl, hb0, k0, k1, k2⟩ := Rs.look (rs := rs) RX.out i (by omega)
  clear k0 k1
  simp only at BP
  obtain ⟨nx, hnx⟩ : ∃ nx, (recAt rs (i : Int)).2.2 = nx := ⟨_, rfl⟩
  rw [hnx] at BP k2
  have hi0 : (0 : Int) ≤ (k : Int) := by omega
  have hi1 : (k : Int) < (m : Int) := by omega
  have hj0 : (0 : Int) ≤ (i : Int) := by omega
  have hj1 : (i : Int) < (n : Int) := by omega
  obtain ⟨v1, hv1⟩ : ∃ W, w.alloc (.cells #[.slice (some ⟨b, off, none⟩) n c, .int .i64 fr] 24) = W := ⟨_, rfl⟩
  have fr1 : Fr w v1 w.heap.size [.cells #[.slice (some ⟨b, off, none⟩) n c, .int .i64 fr] 24] := hv1 ▸ Fr.first w _
  have z1 : v1.heap.size = w.heap.size + 1 := by rw [← hv1, Fr.size1]
  obtain ⟨v2, hv2⟩ : ∃ W, v1.alloc (.cells #[.int .i64 hd, .int .i64 tl] 26) = W := ⟨_, rfl⟩
  have fr2 : Fr w v2 w.heap.size [.cells #[.slice (some ⟨b, off, none⟩) n c, .int .i64 fr] 24, .cells #[.int .i64 hd, .int .i64 tl] 26] := hv2 ▸ fr1.more z1 _
  have z2 : v2.heap.size = w.heap.size + 2 := by rw [← hv2, Fr.size1, z1]
  obtain ⟨v3, hv3⟩ : ∃ W, v2.alloc (.cells #[.slice none 0 0, .int .i64 0] 24) = W := ⟨_, rfl⟩
  have fr3 : Fr w v3 w.heap.size [.cells #[.slice (some ⟨b, off, none⟩) n c, .int .i64 fr] 24, .cells #[.int .i64 hd, .int .i64 tl] 26, .cells #[.slice none 0 0, .int .i64 0] 24] := hv3 ▸ fr2.more z2 _
  have z3 : v3.heap.size = w.heap.size + 3 := by rw [← hv3, Fr.size1, z2]
  obtain ⟨v4, hv4⟩ : ∃ W, v3.alloc (.cells #[.int .i64 0, .int .i64 0] 26) = W := ⟨_, rfl⟩
  have fr4 : Fr w v4 w.heap.size [.cells #[.slice (some ⟨b, off, none⟩) n c, .int .i64 fr] 24, .cells #[.int .i64 hd, .int .i64 tl] 26, .cells #[.slice none 0 0, .int .i64 0] 24, .cells #[.int .i64 0, .int .i64 0] 26] := hv4 ▸ fr3.more z3 _
  have z4 : v4.heap.size = w.heap.size + 4 := by rw [← hv4, Fr.size1, z3]
  generalize hq : w.heap.size = q at *
  have FR := Lib.hid fr4
  clear fr1 fr2 fr3 fr4
  have HLC := Lib.hid hlc
  have HK2 := Lib.hid k2
  clear hlc k2
  have hlq : lb < q := by omega
  have hbq : b < q := by omega
  by_cases hk0 : k = 0
  · rw [show butA (rs, fr) l k = (rs, fr) by unfold butA; rw [if_pos hk0], show butH l k = -1 by unfold butH; rw [if_pos hk0], if_pos hk0] at BP
    have HRL := Lib.hid (show rs.length = n from HL.out)
    obtain ⟨rg, fg, eg, hG⟩ : ∃ rg fg eg, arGive (rs, fr) (i : Int) = ((rg, fg), eg) := ⟨_, _, _, rfl⟩
    rw [hG] at BP
    simp only at BP
    have HG := Lib.hid (show eg = 0 → R = ((rg, fg), (nx, if nx = -1 then -1 else tl), 0) from fun h => by rw [BP, if_neg (by simp [h])])
    have HB := Lib.hid (show eg ≠ 0 → R = ((rs, fr), (hd, tl), eg) from fun h => by rw [BP, if_pos h])
    have HE0 := HB
    have G1 := fun (B : Option Addr) (m d : Nat) (W : World) (h : Rs W B m d rs) => arnGive_all B m d rs fr (i : Int) W h (by have h2 := h.len; have h3 := HRL.out; omega)
    rw [hG] at G1
    have GV : Hid (∀ (B : Option Addr) (m d : Nat) (W : World), Rs W B m d rs → Calls Try.prog 42 #[.agg #[.slice B m d, .int .i64 fr], .int .i64 (i : Int)] W (GiveAll W ((rg, fg), eg))) := Lib.hid G1
    clear G1 BP hG
    have b2 : decide ((0 : Int) < (k : Int)) = false := by simp <;> omega
    have b2' : decide (0 < k) = false := by simp <;> omega
    clear hk hxk HPL hnx hk0
    go_enter Try.func28, Try.ntmps28
    have FR0 := FR
    obtain ⟨v5, hv5⟩ : ∃ W, v4.alloc (.cells #[.slice none 0 0, .int .i64 0] 24) = W := ⟨_, rfl⟩
    have fr5 : Fr w v5 q [.cells #[.slice (some ⟨b, off, none⟩) n c, .int .i64 fr] 24, .cells #[.int .i64 hd, .int .i64 tl] 26, .cells #[.slice none 0 0, .int .i64 0] 24, .cells #[.int .i64 0, .int .i64 0] 26, .cells #[.slice none 0 0, .int .i64 0] 24] := hv5 ▸ FR0.out.more z4 _
    replace FR := Lib.hid fr5
    clear fr5
    have c00 : v5.cell? ⟨q, 0, none⟩ = some (.slice (some ⟨b, off, none⟩) n c) := FR.out.cell 0 0 rfl rfl rfl
    have f00 : v5.frozen? ⟨q, 0, none⟩ = false := FR.out.frozen 0 0 rfl rfl
    have c01 : v5.cell? ⟨q, 1, none⟩ = some (.int .i64 fr) := FR.out.cell 0 1 rfl rfl rfl
    have f01 : v5.frozen? ⟨q, 1, none⟩ = false := FR.out.frozen 0 1 rfl rfl
    have c40 : v5.cell? ⟨q + 4, 0, none⟩ = some (.slice none 0 0) := FR.out.cell 4 0 rfl rfl rfl
    have f40 : v5.frozen? ⟨q + 4, 0, none⟩ = false := FR.out.frozen 4 0 rfl rfl
    have c41 : v5.cell? ⟨q + 4, 1, none⟩ = some (.int .i64 0) := FR.out.cell 4 1 rfl rfl rfl
    have f41 : v5.frozen? ⟨q + 4, 1, none⟩ = false := FR.out.frozen 4 1 rfl rfl
    have nqx : q ≠ q + 4 := by omega
    go_wp2
    refine wp_region_noPanic ?_
    refine wp_region_held_drew (S := (fun wv => Hid (wv.heap[q]? = some (.cells #[.slice (some ⟨b, off, none⟩) n c, .int .i64 fr] 24) ∧ Below q w wv))) (by kernel_rfl) (Lib.hid ⟨FR0.out.blk 0 _ rfl, FR0.out.bel.drew⟩) (fun hS => ?_)
    refine wpAnyH_take (i := 0) (oi := ⟨some 15, .load 24 (.tmp 4), 24, "queue.go:106", #[], none⟩) (v := .agg (([.slice (some ⟨b, off, none⟩) n c, .int .i64 fr] : List Value)).toArray) rfl (by kernel_rfl) (by kernel_rfl) (by kernel_rfl) (fun _ _ _ h => h) (yieldsIf_load_mid (by rfl) _ _ (by rfl) (q) 0 (by rfl) (([.slice (some ⟨b, off, none⟩) n c, .int .i64 fr] : List Value)) _ (fun wv hS => blk_rngl hS.out.1) Try.underlying24 (by rfl) (by kernel_rfl)) hS ?_
    try simp only [Act.put, List.setIfInBounds_toArray, List.set_cons_zero, List.set_cons_succ]
    refine wpAnyH_take (i := 1) (oi := ⟨some 16, .fieldAddr 24 (.tmp 4) 0, 0, "queue.go:106", #[⟨12, .gcOnly .lateStores⟩], none⟩) (v := ?_) rfl (by kernel_rfl) (by kernel_rfl) (by kernel_rfl) (fun _ _ _ h => h) (Or.inl ⟨by rfl, ?_⟩) hS ?_
    rotate_left
    · intro wv _; go_simp; try with_reducible rfl
    try simp only [Act.put, List.setIfInBounds_toArray, List.set_cons_zero, List.set_cons_succ]
    refine wpAnyH_take (i := 2) (oi := ⟨some 17, .load 22 (.tmp 16), 22, "queue.go:106", #[⟨1, .data⟩, ⟨12, .gcOnly .lateStores⟩], none⟩) (v := ?_) rfl (by kernel_rfl) (by kernel_rfl) (by kernel_rfl) (fun _ _ _ h => h) (Or.inl ⟨by rfl, ?_⟩) hS ?_
    rotate_left
    · intro wv hS; have hrun := (show wv.cell? ⟨q, 0, none⟩ = some (.slice (some ⟨b, off, none⟩) n c) from (blk_cell hS.out.1 0).trans rfl); go_simp; try with_reducible rfl
    try simp only [Act.put, List.setIfInBounds_toArray, List.set_cons_zero, List.set_cons_succ]
    refine wpAnyH_take (i := 3) (oi := ⟨some 18, .move (.tmp 2), 37, "queue.go:106", #[⟨12, .gcOnly .lateStores⟩], none⟩) (v := ?_) rfl (by kernel_rfl) (by kernel_rfl) (by kernel_rfl) (fun _ _ _ h => h) (Or.inl ⟨by rfl, ?_⟩) hS ?_
    rotate_left
    · intro wv _; go_simp; try with_reducible rfl
    try simp only [Act.put, List.setIfInBounds_toArray, List.set_cons_zero, List.set_cons_succ]
    refine wpAnyH_take (i := 4) (oi := ⟨some 19, .move (.tmp 3), 3, "queue.go:106", #[⟨12, .gcOnly .lateStores⟩], none⟩) (v := ?_) rfl (by kernel_rfl) (by kernel_rfl) (by kernel_rfl) (fun _ _ _ h => h) (Or.inl ⟨by rfl, ?_⟩) hS ?_
    rotate_left
    · intro wv _; go_simp; try with_reducible rfl
    try simp only [Act.put, List.setIfInBounds_toArray, List.set_cons_zero, List.set_cons_succ]
    refine wpAnyH_take (i := 5) (oi := ⟨some 20, .indexAddr 37 (.tmp 18) (.tmp 19), 0, "queue.go:106", #[⟨3, .data⟩, ⟨4, .data⟩, ⟨12, .gcOnly .lateStores⟩], none⟩) (v := ?_) rfl (by kernel_rfl) (by kernel_rfl) (by kernel_rfl) (fun _ _ _ h => h) (Or.inl ⟨by rfl, ?_⟩) hS ?_
    rotate_left
    · intro wv _; go_simp; try with_reducible rfl
    try simp only [Act.put, List.setIfInBounds_toArray, List.set_cons_zero, List.set_cons_succ]
    refine wpAnyH_take (i := 6) (oi := ⟨some 21, .load 3 (.tmp 20), 3, "queue.go:106", #[⟨5, .data⟩, ⟨12, .gcOnly .lateStores⟩], none⟩) (v := ?_) rfl (by kernel_rfl) (by kernel_rfl) (by kernel_rfl) (fun _ _ _ h => h) (Or.inl ⟨by rfl, ?_⟩) hS ?_
    rotate_left
    · intro wv hS; have hrun := (hS.out.2.cell (p := ⟨lb, loff + k, none⟩) hlq).trans HLC.out; go_simp; try with_reducible rfl
    try simp only [Act.put, List.setIfInBounds_toArray, List.set_cons_zero, List.set_cons_succ]
    refine wpAnyH_take (i := 7) (oi := ⟨some 22, .indexAddr 22 (.tmp 17) (.tmp 21), 0, "queue.go:106", #[⟨2, .data⟩, ⟨6, .data⟩, ⟨12, .gcOnly .lateStores⟩], none⟩) (v := ?_) rfl (by kernel_rfl) (by kernel_rfl) (by kernel_rfl) (fun _ _ _ h => h) (Or.inl ⟨by rfl, ?_⟩) hS ?_
    rotate_left
    · intro wv _; go_simp; try with_reducible rfl
    try simp only [Act.put, List.setIfInBounds_toArray, List.set_cons_zero, List.set_cons_succ]
    refine wpAnyH_take (i := 8) (oi := ⟨some 23, .fieldAddr 55 (.tmp 22) 2, 0, "queue.go:106", #[⟨7, .data⟩, ⟨12, .gcOnly .lateStores⟩], none⟩) (v := ?_) rfl (by kernel_rfl) (by kernel_rfl) (by kernel_rfl) (fun _ _ _ h => h) (Or.inl ⟨by rfl, ?_⟩) hS ?_
    rotate_left
    · intro wv _; go_simp; try with_reducible rfl
    try simp only [Act.put, List.setIfInBounds_toArray, List.set_cons_zero, List.set_cons_succ]
    refine wpAnyH_take (i := 9) (oi := ⟨some 24, .load 3 (.tmp 23), 3, "queue.go:106", #[⟨8, .data⟩, ⟨12, .gcOnly .lateStores⟩], none⟩) (v := ?_) rfl (by kernel_rfl) (by kernel_rfl) (by kernel_rfl) (fun _ _ _ h => h) (Or.inl ⟨by rfl, ?_⟩) hS ?_
    rotate_left
    · intro wv hS; have hrun := (hS.out.2.cell (p := ⟨b, off + i * 3 + 2, none⟩) hbq).trans HK2.out; go_simp; try with_reducible rfl
    try simp only [Act.put, List.setIfInBounds_toArray, List.set_cons_zero, List.set_cons_succ]
    refine wpAnyH_ready (rs := [10]) (by kernel_rfl) (by simp) (AllReadyH.cons (o := ⟨some 11, .alloc 24, 0, "queue.go:106", #[], none⟩) rfl (fun K hK => ?_) AllReadyH.nil)
    go_simp
    replace hS := Lib.hid (And.intro (FR.out.blk 0 _ rfl) FR.out.bel.drew)
    go_wp2_with fail
    refine Shut.out hK _ _ hS (fun _ => ?_)
    clear hK K
    try simp only [Act.put, List.setIfInBounds_toArray, List.set_cons_zero, List.set_cons_succ]
    refine wpAnyH_ready (rs := [11]) (by kernel_rfl) (by simp) (AllReadyH.cons (o := ⟨none, .store 24 (.tmp 11) (.tmp 15), 0, "queue.go:106", #[⟨10, .data⟩, ⟨0, .data⟩, ⟨0, .phase⟩, ⟨1, .textOnly .lateStores⟩, ⟨2, .textOnly .lateStores⟩, ⟨3, .textOnly .lateStores⟩, ⟨4, .textOnly .lateStores⟩, ⟨5, .textOnly .lateStores⟩, ⟨6, .textOnly .lateStores⟩, ⟨7, .textOnly .lateStores⟩, ⟨8, .textOnly .lateStores⟩, ⟨9, .textOnly .lateStores⟩, ⟨10, .phase⟩], none⟩) rfl (fun K hK => ?_) AllReadyH.nil)
    go_simp
    replace hS := Lib.hid (And.intro (keep_pair hS.out.1 nqx (.slice (some ⟨b, off, none⟩) n c) (.int .i64 fr)) (bel_pair hS.out.2 (show q ≤ q + 4 by omega) (.slice (some ⟨b, off, none⟩) n c) (.int .i64 fr)))
    refine Shut.out hK _ _ hS (fun _ => ?_)
    clear hK K
    try simp only [Act.put, List.setIfInBounds_toArray, List.set_cons_zero, List.set_cons_succ]
    refine wpAnyH_take (i := 12) (oi := ⟨some 12, .assign (.const (Value.int IntKind.i64 (-1))), 3, "queue.go:106", #[⟨11, .chain⟩, ⟨0, .phase⟩, ⟨1, .textOnly .lateStores⟩, ⟨2, .textOnly .lateStores⟩, ⟨3, .textOnly .lateStores⟩, ⟨4, .textOnly .lateStores⟩, ⟨5, .textOnly .lateStores⟩, ⟨6, .textOnly .lateStores⟩, ⟨7, .textOnly .lateStores⟩, ⟨8, .textOnly .lateStores⟩, ⟨9, .textOnly .lateStores⟩, ⟨10, .phase⟩, ⟨11, .phase⟩], none⟩) (v := ?_) rfl (by kernel_rfl) (by kernel_rfl) (by kernel_rfl) (fun _ _ _ h => h) (Or.inl ⟨by rfl, ?_⟩) hS ?_
    rotate_left
    · intro wv _; go_simp; try with_reducible rfl
    try simp only [Act.put, List.setIfInBounds_toArray, List.set_cons_zero, List.set_cons_succ]
    refine wpAnyH_take (i := 13) (oi := ⟨some 13, .assign (.tmp 24), 3, "queue.go:106", #[⟨9, .data⟩, ⟨12, .chain⟩, ⟨0, .phase⟩, ⟨1, .phase⟩, ⟨2, .phase⟩, ⟨3, .phase⟩, ⟨4, .phase⟩, ⟨5, .phase⟩, ⟨6, .phase⟩, ⟨7, .phase⟩, ⟨8, .phase⟩, ⟨9, .phase⟩, ⟨10, .phase⟩, ⟨11, .phase⟩, ⟨12, .phase⟩], none⟩) (v := ?_) rfl (by kernel_rfl) (by kernel_rfl) (by kernel_rfl) (fun _ _ _ h => h) (Or.inl ⟨by rfl, ?_⟩) hS ?_
    rotate_left
    · intro wv _; go_simp; try with_reducible rfl
    try simp only [Act.put, List.setIfInBounds_toArray, List.set_cons_zero, List.set_cons_succ]
    refine wpAnyH_done (by kernel_rfl) ?_ _
    refine NoPanic.normal ?_
    clear c00 f00 c01 f01 c40 f40 c41 f41
    have hszw6 := FR.out.sz
    simp only [List.length_cons, List.length_nil] at hszw6
    obtain ⟨w6, hw6⟩ : ∃ W, (((v5.setCell ⟨q + 4, 0, none⟩ (.slice (some ⟨b, off, none⟩) n c)).setCell ⟨q + 4, 1, none⟩ (.int .i64 fr))).drew = W := ⟨_, rfl⟩
    replace FR := Lib.hid (show Fr w w6 q [.cells #[.slice (some ⟨b, off, none⟩) n c, .int .i64 fr] 24, .cells #[.int .i64 hd, .int .i64 tl] 26, .cells #[.slice none 0 0, .int .i64 0] 24, .cells #[.int .i64 0, .int .i64 0] 26, .cells #[.slice (some ⟨b, off, none⟩) n c, .int .i64 fr] 24] from hw6 ▸ (((FR.out.set 4 0 rfl rfl (.slice (some ⟨b, off, none⟩) n c)).set 4 1 rfl rfl (.int .i64 fr))).drew)
    rw [hw6]
    clear hw6
    clear FR0 hS
    have FR0 := FR.out.sz
    simp only [List.length_cons, List.length_nil] at FR0
    have c40 : w6.cell? ⟨q + 4, 0, none⟩ = some (.slice (some ⟨b, off, none⟩) n c) := FR.out.cell 4 0 rfl rfl rfl
    have f40 : w6.frozen? ⟨q + 4, 0, none⟩ = false := FR.out.frozen 4 0 rfl rfl
    have c41 : w6.cell? ⟨q + 4, 1, none⟩ = some (.int .i64 fr) := FR.out.cell 4 1 rfl rfl rfl
    have f41 : w6.frozen? ⟨q + 4, 1, none⟩ = false := FR.out.frozen 4 1 rfl rfl
    go_wp2
    refine wp_region_noPanic ?_
    refine wp_region_held_drew (S := (fun wv => Hid (Below q w wv))) (by kernel_rfl) (Lib.hid FR.out.bel.drew) (fun hS => ?_)
    refine wpAnyH_take (i := 1) (oi := ⟨some 41, .move (.tmp 2), 37, "queue.go:112", #[], none⟩) (v := ?_) rfl (by kernel_rfl) (by kernel_rfl) (by kernel_rfl) (fun _ _ _ h => h) (Or.inl ⟨by rfl, ?_⟩) hS ?_
    rotate_left
    · intro wv _; go_simp; try with_reducible rfl
    try simp only [Act.put, List.setIfInBounds_toArray, List.set_cons_zero, List.set_cons_succ]
    refine wpAnyH_take (i := 2) (oi := ⟨some 42, .move (.tmp 3), 3, "queue.go:112", #[], none⟩) (v := ?_) rfl (by kernel_rfl) (by kernel_rfl) (by kernel_rfl) (fun _ _ _ h => h) (Or.inl ⟨by rfl, ?_⟩) hS ?_
    rotate_left
    · intro wv _; go_simp; try with_reducible rfl
    try simp only [Act.put, List.setIfInBounds_toArray, List.set_cons_zero, List.set_cons_succ]
    refine wpAnyH_take (i := 3) (oi := ⟨some 43, .indexAddr 37 (.tmp 41) (.tmp 42), 0, "queue.go:112", #[⟨1, .data⟩, ⟨2, .data⟩], none⟩) (v := ?_) rfl (by kernel_rfl) (by kernel_rfl) (by kernel_rfl) (fun _ _ _ h => h) (Or.inl ⟨by rfl, ?_⟩) hS ?_
    rotate_left
    · intro wv _; go_simp; try with_reducible rfl
    try simp only [Act.put, List.setIfInBounds_toArray, List.set_cons_zero, List.set_cons_succ]
    refine wpAnyH_take (i := 4) (oi := ⟨some 44, .load 3 (.tmp 43), 3, "queue.go:112", #[⟨3, .data⟩], none⟩) (v := ?_) rfl (by kernel_rfl) (by kernel_rfl) (by kernel_rfl) (fun _ _ _ h => h) (Or.inl ⟨by rfl, ?_⟩) hS ?_
    rotate_left
    · intro wv hS; have hrun := (hS.out.cell (p := ⟨lb, loff + k, none⟩) hlq).trans HLC.out; go_simp; try with_reducible rfl
    try simp only [Act.put, List.setIfInBounds_toArray, List.set_cons_zero, List.set_cons_succ]
    refine wpAnyH_ready (rs := [0]) (by kernel_rfl) (by simp) (AllReadyH.cons (o := ⟨some 40, .load 24 (.tmp 11), 24, "queue.go:112", #[], none⟩) rfl (fun K hK => ?_) AllReadyH.nil)
    go_simp
    skip
    go_wp2_with fail
    refine Shut.out hK _ _ hS (fun _ => ?_)
    clear hK K
    try simp only [Act.put, List.setIfInBounds_toArray, List.set_cons_zero, List.set_cons_succ]
    refine wpAnyH_ready (rs := [5]) (by kernel_rfl) (by simp) (AllReadyH.cons (o := ⟨some 45, .call { callee := .value (.func 42), args := #[.tmp 40, .tmp 44], argTypes := #[24, 3] }, 46, "queue.go:112", #[⟨0, .data⟩, ⟨4, .data⟩], none⟩) rfl (fun K hK => ?_) AllReadyH.nil)
    go_simp
    refine (GV.out _ _ _ _ (FR.out.drew.es RX.out)).mono ?_
    rintro e wa ⟨B3, m3, d3, rfl, hown, hb⟩
    replace FR := Lib.hid (FR.out.drew.step hb)
    have OG := Lib.hid (own_base hown (show q + 5 ≤ w6.heap.size from FR0))
    clear hown hb
    replace hS := Lib.hid FR.out.bel
    clear c40 f40 c41 f41
    have c40 : wa.cell? ⟨q + 4, 0, none⟩ = some (.slice (some ⟨b, off, none⟩) n c) := FR.out.cell 4 0 rfl rfl rfl
    have f40 : wa.frozen? ⟨q + 4, 0, none⟩ = false := FR.out.frozen 4 0 rfl rfl
    have c41 : wa.cell? ⟨q + 4, 1, none⟩ = some (.int .i64 fr) := FR.out.cell 4 1 rfl rfl rfl
    have f41 : wa.frozen? ⟨q + 4, 1, none⟩ = false := FR.out.frozen 4 1 rfl rfl
    go_wp2_with fail
    refine Shut.out hK _ _ hS (fun _ => ?_)
    clear hK K
    try simp only [Act.put, List.setIfInBounds_toArray, List.set_cons_zero, List.set_cons_succ]
    refine wpAnyH_take (i := 6) (oi := ⟨some 39, .move (.tmp 45), 46, "queue.go:112", #[⟨5, .data⟩], none⟩) (v := ?_) rfl (by kernel_rfl) (by kernel_rfl) (by kernel_rfl) (fun _ _ _ h => h) (Or.inl ⟨by rfl, ?_⟩) hS ?_
    rotate_left
    · intro wv _; go_simp; try with_reducible rfl
    try simp only [Act.put, List.setIfInBounds_toArray, List.set_cons_zero, List.set_cons_succ]
    refine wpAnyH_take (i := 7) (oi := ⟨some 46, .extract (.tmp 39) 0, 24, "queue.go:112", #[⟨6, .data⟩], none⟩) (v := ?_) rfl (by kernel_rfl) (by kernel_rfl) (by kernel_rfl) (fun _ _ _ h => h) (Or.inl ⟨by rfl, ?_⟩) hS ?_
    rotate_left
    · intro wv _; go_simp; try with_reducible rfl
    try simp only [Act.put, List.setIfInBounds_toArray, List.set_cons_zero, List.set_cons_succ]
    refine wpAnyH_take (i := 8) (oi := ⟨some 47, .extract (.tmp 39) 1, 29, "queue.go:112", #[⟨6, .data⟩, ⟨9, .gcOnly .lateStores⟩], none⟩) (v := ?_) rfl (by kernel_rfl) (by kernel_rfl) (by kernel_rfl) (fun _ _ _ h => h) (Or.inl ⟨by rfl, ?_⟩) hS ?_
    rotate_left
    · intro wv _; go_simp; try with_reducible rfl
    try simp only [Act.put, List.setIfInBounds_toArray, List.set_cons_zero, List.set_cons_succ]
    refine wpAnyH_ready (rs := [9]) (by kernel_rfl) (by simp) (AllReadyH.cons (o := ⟨none, .store 24 (.tmp 11) (.tmp 46), 0, "queue.go:112", #[⟨7, .data⟩, ⟨5, .chain⟩, ⟨0, .phase⟩, ⟨1, .phase⟩, ⟨2, .phase⟩, ⟨3, .phase⟩, ⟨4, .phase⟩, ⟨5, .phase⟩, ⟨6, .phase⟩, ⟨7, .phase⟩, ⟨8, .textOnly .lateStores⟩], none⟩) rfl (fun K hK => ?_) AllReadyH.nil)
    go_simp
    replace hS := Lib.hid (bel_pair hS.out (show q ≤ q + 4 by omega) (.slice B3 m3 d3) (.int .i64 fg))
    refine Shut.out hK _ _ hS (fun _ => ?_)
    clear hK K
    try simp only [Act.put, List.setIfInBounds_toArray, List.set_cons_zero, List.set_cons_succ]
    refine wpAnyH_take (i := 10) (oi := ⟨some 14, .assign (.tmp 47), 29, "queue.go:112", #[⟨8, .data⟩, ⟨9, .chain⟩, ⟨0, .phase⟩, ⟨1, .phase⟩, ⟨2, .phase⟩, ⟨3, .phase⟩, ⟨4, .phase⟩, ⟨5, .phase⟩, ⟨6, .phase⟩, ⟨7, .phase⟩, ⟨8, .phase⟩, ⟨9, .phase⟩], none⟩) (v := ?_) rfl (by kernel_rfl) (by kernel_rfl) (by kernel_rfl) (fun _ _ _ h => h) (Or.inl ⟨by rfl, ?_⟩) hS ?_
    rotate_left
    · intro wv _; go_simp; try with_reducible rfl
    try simp only [Act.put, List.setIfInBounds_toArray, List.set_cons_zero, List.set_cons_succ]
    refine wpAnyH_done (by kernel_rfl) ?_ _
    refine NoPanic.normal ?_
    clear c40 f40 c41 f41
    have hszw7 := FR.out.sz
    simp only [List.length_cons, List.length_nil] at hszw7
    obtain ⟨w7, hw7⟩ : ∃ W, ((wa.setCell ⟨q + 4, 0, none⟩ (.slice B3 m3 d3)).setCell ⟨q + 4, 1, none⟩ (.int .i64 fg)) = W := ⟨_, rfl⟩
    have OG2 := (own_apart (own_apart OG.out (k := q + 4) (o := 0) (u := .slice B3 m3 d3) (by omega)) (k := q + 4) (o := 1) (u := .int .i64 fg) (by omega))
    replace FR := Lib.hid (show Fr w w7 q [.cells #[.slice (some ⟨b, off, none⟩) n c, .int .i64 fr] 24, .cells #[.int .i64 hd, .int .i64 tl] 26, .cells #[.slice none 0 0, .int .i64 0] 24, .cells #[.int .i64 0, .int .i64 0] 26, .cells #[.slice B3 m3 d3, .int .i64 fg] 24] from hw7 ▸ ((FR.out.set 4 0 rfl rfl (.slice B3 m3 d3)).set 4 1 rfl rfl (.int .i64 fg)))
    replace OG := Lib.hid (own_base (show World.ownsRow _ _ _ _ _ _ _ from OG2) (Nat.le_refl _))
    rw [hw7] at OG
    clear OG2
    rw [hw7]
    clear hw7
    clear hS
    by_cases he0 : eg = 0
    · have b3 : (eg != 0) = false := by simp [he0]
      replace HE0 := Lib.hid (HG.out he0)
      clear HB
      by_cases hnx1 : nx = -1
      · have b4 : (nx == -1) = true := by simp [hnx1]
        have HE := Lib.hid (show R = ((rg, fg), (nx, -1), 0) by rw [HE0.out, if_pos hnx1])
        clear hnx1 he0 HE0 HG
        have p7c10 : w7.cell? ⟨q + 1, 0, none⟩ = some (.int .i64 hd) := FR.out.cell 1 0 rfl rfl rfl
        have p7f10 : w7.frozen? ⟨q + 1, 0, none⟩ = false := FR.out.frozen 1 0 rfl rfl
        have p7c11 : w7.cell? ⟨q + 1, 1, none⟩ = some (.int .i64 tl) := FR.out.cell 1 1 rfl rfl rfl
        have p7f11 : w7.frozen? ⟨q + 1, 1, none⟩ = false := FR.out.frozen 1 1 rfl rfl
        have hszw8 := FR.out.sz
        simp only [List.length_cons, List.length_nil] at hszw8
        obtain ⟨w8, hw8⟩ : ∃ W, ((w7.setCell ⟨q + 1, 0, none⟩ (.int .i64 nx)).setCell ⟨q + 1, 1, none⟩ (.int .i64 (-1))) = W := ⟨_, rfl⟩
        have OG2 := (own_apart (own_apart OG.out (k := q + 1) (o := 0) (u := .int .i64 nx) (by omega)) (k := q + 1) (o := 1) (u := .int .i64 (-1)) (by omega))
        replace FR := Lib.hid (show Fr w w8 q [.cells #[.slice (some ⟨b, off, none⟩) n c, .int .i64 fr] 24, .cells #[.int .i64 nx, .int .i64 (-1)] 26, .cells #[.slice none 0 0, .int .i64 0] 24, .cells #[.int .i64 0, .int .i64 0] 26, .cells #[.slice B3 m3 d3, .int .i64 fg] 24] from hw8 ▸ ((FR.out.set 1 0 rfl rfl (.int .i64 nx)).set 1 1 rfl rfl (.int .i64 (-1))))
        replace OG := Lib.hid (own_base (show World.ownsRow _ _ _ _ _ _ _ from OG2) (Nat.le_refl _))
        rw [hw8] at OG
        clear OG2
        have nz02 : q + 4 ≠ q + 2 := by omega
        have nz03 : q + 4 ≠ q + 3 := by omega
        have nz12 : q + 1 ≠ q + 2 := by omega
        have nz13 : q + 1 ≠ q + 3 := by omega
        have c20 : w8.cell? ⟨q + 2, 0, none⟩ = some (.slice none 0 0) := FR.out.cell 2 0 rfl rfl rfl
        have f20 : w8.frozen? ⟨q + 2, 0, none⟩ = false := FR.out.frozen 2 0 rfl rfl
        have c21 : w8.cell? ⟨q + 2, 1, none⟩ = some (.int .i64 0) := FR.out.cell 2 1 rfl rfl rfl
        have f21 : w8.frozen? ⟨q + 2, 1, none⟩ = false := FR.out.frozen 2 1 rfl rfl
        have c30 : w8.cell? ⟨q + 3, 0, none⟩ = some (.int .i64 0) := FR.out.cell 3 0 rfl rfl rfl
        have f30 : w8.frozen? ⟨q + 3, 0, none⟩ = false := FR.out.frozen 3 0 rfl rfl
        have c31 : w8.cell? ⟨q + 3, 1, none⟩ = some (.int .i64 0) := FR.out.cell 3 1 rfl rfl rfl
        have f31 : w8.frozen? ⟨q + 3, 1, none⟩ = false := FR.out.frozen 3 1 rfl rfl
        go_wp2
        refine wp_region_noPanic ?_
        refine wp_region_held_drew (S := (fun wv => Hid (wv.heap[q + 4]? = some (.cells #[.slice B3 m3 d3, .int .i64 fg] 24) ∧ wv.heap[q + 1]? = some (.cells #[.int .i64 nx, .int .i64 (-1)] 26) ∧ Below q w wv))) (by kernel_rfl) (Lib.hid ⟨FR.out.blk 4 _ rfl, FR.out.blk 1 _ rfl, FR.out.bel.drew⟩) (fun hS => ?_)
        refine wpAnyH_take (i := 0) (oi := ⟨some 62, .load 24 (.tmp 11), 24, "queue.go:122", #[], none⟩) (v := .agg (([.slice B3 m3 d3, .int .i64 fg] : List Value)).toArray) rfl (by kernel_rfl) (by kernel_rfl) (by kernel_rfl) (fun _ _ _ h => h) (yieldsIf_load_mid (by rfl) _ _ (by rfl) (q + 4) 0 (by rfl) (([.slice B3 m3 d3, .int .i64 fg] : List Value)) _ (fun wv hS => blk_rngl hS.out.1) Try.underlying24 (by rfl) (by kernel_rfl)) hS ?_
        try simp only [Act.put, List.setIfInBounds_toArray, List.set_cons_zero, List.set_cons_succ]
        refine wpAnyH_take (i := 1) (oi := ⟨some 63, .load 26 (.tmp 5), 26, "queue.go:122", #[⟨2, .gcOnly .lateStores⟩], none⟩) (v := .agg (([.int .i64 nx, .int .i64 (-1)] : List Value)).toArray) rfl (by kernel_rfl) (by kernel_rfl) (by kernel_rfl) (fun _ _ _ h => h) (yieldsIf_load_mid (by rfl) _ _ (by rfl) (q + 1) 0 (by rfl) (([.int .i64 nx, .int .i64 (-1)] : List Value)) _ (fun wv hS => blk_rngl hS.out.2.1) Try.underlying26 (by rfl) (by kernel_rfl)) hS ?_
        try simp only [Act.put, List.setIfInBounds_toArray, List.set_cons_zero, List.set_cons_succ]
        refine wpAnyH_ready (rs := [2]) (by kernel_rfl) (by simp) (AllReadyH.cons (o := ⟨none, .store 24 (.tmp 8) (.tmp 62), 0, "queue.go:122", #[⟨0, .data⟩, ⟨0, .phase⟩, ⟨1, .textOnly .lateStores⟩], none⟩) rfl (fun K hK => ?_) AllReadyH.nil)
        go_simp
        replace hS := Lib.hid (And.intro (keep_pair hS.out.1 nz02 (.slice B3 m3 d3) (.int .i64 fg)) (And.intro (keep_pair hS.out.2.1 nz12 (.slice B3 m3 d3) (.int .i64 fg)) (bel_pair hS.out.2.2 (show q ≤ q + 2 by omega) (.slice B3 m3 d3) (.int .i64 fg))))
        refine Shut.out hK _ _ hS (fun _ => ?_)
        clear hK K
        try simp only [Act.put, List.setIfInBounds_toArray, List.set_cons_zero, List.set_cons_succ]
        refine wpAnyH_ready (rs := [3]) (by kernel_rfl) (by simp) (AllReadyH.cons (o := ⟨none, .store 26 (.tmp 9) (.tmp 63), 0, "queue.go:122", #[⟨1, .data⟩, ⟨2, .chain⟩, ⟨0, .phase⟩, ⟨1, .phase⟩, ⟨2, .phase⟩], none⟩) rfl (fun K hK => ?_) AllReadyH.nil)
        go_simp
        replace hS := Lib.hid (And.intro (keep_pair hS.out.1 nz03 (.int .i64 nx) (.int .i64 (-1))) (And.intro (keep_pair hS.out.2.1 nz13 (.int .i64 nx) (.int .i64 (-1))) (bel_pair hS.out.2.2 (show q ≤ q + 3 by omega) (.int .i64 nx) (.int .i64 (-1)))))
        refine Shut.out hK _ _ hS (fun _ => ?_)
        clear hK K
        try simp only [Act.put, List.setIfInBounds_toArray, List.set_cons_zero, List.set_cons_succ]
        refine wpAnyH_take (i := 4) (oi := ⟨some 10, .assign (.const (Value.int IntKind.i64 0)), 29, "queue.go:122", #[⟨3, .chain⟩, ⟨0, .phase⟩, ⟨1, .phase⟩, ⟨2, .phase⟩, ⟨3, .phase⟩], none⟩) (v := ?_) rfl (by kernel_rfl) (by kernel_rfl) (by kernel_rfl) (fun _ _ _ h => h) (Or.inl ⟨by rfl, ?_⟩) hS ?_
        rotate_left
        · intro wv _; go_simp; try with_reducible rfl
        try simp only [Act.put, List.setIfInBounds_toArray, List.set_cons_zero, List.set_cons_succ]
        refine wpAnyH_done (by kernel_rfl) ?_ _
        refine NoPanic.normal ?_
        go_wp2
        have FZ : Fr w (((((w8.setCell ⟨q + 2, 0, none⟩ (.slice B3 m3 d3)).setCell ⟨q + 2, 1, none⟩ (.int .i64 fg)).setCell ⟨q + 3, 0, none⟩ (.int .i64 nx)).setCell ⟨q + 3, 1, none⟩ (.int .i64 (-1)))).drew q [.cells #[.slice (some ⟨b, off, none⟩) n c, .int .i64 fr] 24, .cells #[.int .i64 nx, .int .i64 (-1)] 26, .cells #[.slice B3 m3 d3, .int .i64 fg] 24, .cells #[.int .i64 nx, .int .i64 (-1)] 26, .cells #[.slice B3 m3 d3, .int .i64 fg] 24] := (((((FR.out.set 2 0 rfl rfl (.slice B3 m3 d3)).set 2 1 rfl rfl (.int .i64 fg)).set 3 0 rfl rfl (.int .i64 nx)).set 3 1 rfl rfl (.int .i64 (-1)))).drew
        refine bodyPost_ret (res_ccs Try.results28 (by rfl) (by rfl) (FZ.load 2 rfl rfl Try.underlying24 (by kernel_rfl)) (FZ.load 3 rfl rfl Try.underlying26 (by kernel_rfl))) rfl ?_
        rw [HE.out]
        exact ⟨_, _, _, rfl, own_base (own_apart (own_apart (own_apart (own_apart (OG.out) (k := q + 2) (o := 0) (u := .slice B3 m3 d3) (by omega)) (k := q + 2) (o := 1) (u := .int .i64 fg) (by omega)) (k := q + 3) (o := 0) (u := .int .i64 nx) (by omega)) (k := q + 3) (o := 1) (u := .int .i64 (-1)) (by omega)) (by rw [hq]; omega), FZ.out⟩
      · have b4 : (nx == -1) = false := by simp [hnx1]
        have HE := Lib.hid (show R = ((rg, fg), (nx, tl), 0) by rw [HE0.out, if_neg hnx1])
        clear hnx1 he0 HE0 HG
        have p7c10 : w7.cell? ⟨q + 1, 0, none⟩ = some (.int .i64 hd) := FR.out.cell 1 0 rfl rfl rfl
        have p7f10 : w7.frozen? ⟨q + 1, 0, none⟩ = false := FR.out.frozen 1 0 rfl rfl
        have p7c11 : w7.cell? ⟨q + 1, 1, none⟩ = some (.int .i64 tl) := FR.out.cell 1 1 rfl rfl rfl
        have p7f11 : w7.frozen? ⟨q + 1, 1, none⟩ = false := FR.out.frozen 1 1 rfl rfl
        have hszw8 := FR.out.sz
        simp only [List.length_cons, List.length_nil] at hszw8
        obtain ⟨w8, hw8⟩ : ∃ W, (w7.setCell ⟨q + 1, 0, none⟩ (.int .i64 nx)) = W := ⟨_, rfl⟩
        have OG2 := (own_apart OG.out (k := q + 1) (o := 0) (u := .int .i64 nx) (by omega))
        replace FR := Lib.hid (show Fr w w8 q [.cells #[.slice (some ⟨b, off, none⟩) n c, .int .i64 fr] 24, .cells #[.int .i64 nx, .int .i64 tl] 26, .cells #[.slice none 0 0, .int .i64 0] 24, .cells #[.int .i64 0, .int .i64 0] 26, .cells #[.slice B3 m3 d3, .int .i64 fg] 24] from hw8 ▸ (FR.out.set 1 0 rfl rfl (.int .i64 nx)))
        replace OG := Lib.hid (own_base (show World.ownsRow _ _ _ _ _ _ _ from OG2) (Nat.le_refl _))
        rw [hw8] at OG
        clear OG2
        have nz02 : q + 4 ≠ q + 2 := by omega
        have nz03 : q + 4 ≠ q + 3 := by omega
        have nz12 : q + 1 ≠ q + 2 := by omega
        have nz13 : q + 1 ≠ q + 3 := by omega
        have c20 : w8.cell? ⟨q + 2, 0, none⟩ = some (.slice none 0 0) := FR.out.cell 2 0 rfl rfl rfl
        have f20 : w8.frozen? ⟨q + 2, 0, none⟩ = false := FR.out.frozen 2 0 rfl rfl
        have c21 : w8.cell? ⟨q + 2, 1, none⟩ = some (.int .i64 0) := FR.out.cell 2 1 rfl rfl rfl
        have f21 : w8.frozen? ⟨q + 2, 1, none⟩ = false := FR.out.frozen 2 1 rfl rfl
        have c30 : w8.cell? ⟨q + 3, 0, none⟩ = some (.int .i64 0) := FR.out.cell 3 0 rfl rfl rfl
        have f30 : w8.frozen? ⟨q + 3, 0, none⟩ = false := FR.out.frozen 3 0 rfl rfl
        have c31 : w8.cell? ⟨q + 3, 1, none⟩ = some (.int .i64 0) := FR.out.cell 3 1 rfl rfl rfl
        have f31 : w8.frozen? ⟨q + 3, 1, none⟩ = false := FR.out.frozen 3 1 rfl rfl
        go_wp2
        refine wp_region_noPanic ?_
        refine wp_region_held_drew (S := (fun wv => Hid (wv.heap[q + 4]? = some (.cells #[.slice B3 m3 d3, .int .i64 fg] 24) ∧ wv.heap[q + 1]? = some (.cells #[.int .i64 nx, .int .i64 tl] 26) ∧ Below q w wv))) (by kernel_rfl) (Lib.hid ⟨FR.out.blk 4 _ rfl, FR.out.blk 1 _ rfl, FR.out.bel.drew⟩) (fun hS => ?_)
        refine wpAnyH_take (i := 0) (oi := ⟨some 62, .load 24 (.tmp 11), 24, "queue.go:122", #[], none⟩) (v := .agg (([.slice B3 m3 d3, .int .i64 fg] : List Value)).toArray) rfl (by kernel_rfl) (by kernel_rfl) (by kernel_rfl) (fun _ _ _ h => h) (yieldsIf_load_mid (by rfl) _ _ (by rfl) (q + 4) 0 (by rfl) (([.slice B3 m3 d3, .int .i64 fg] : List Value)) _ (fun wv hS => blk_rngl hS.out.1) Try.underlying24 (by rfl) (by kernel_rfl)) hS ?_
        try simp only [Act.put, List.setIfInBounds_toArray, List.set_cons_zero, List.set_cons_succ]
        refine wpAnyH_take (i := 1) (oi := ⟨some 63, .load 26 (.tmp 5), 26, "queue.go:122", #[⟨2, .gcOnly .lateStores⟩], none⟩) (v := .agg (([.int .i64 nx, .int .i64 tl] : List Value)).toArray) rfl (by kernel_rfl) (by kernel_rfl) (by kernel_rfl) (fun _ _ _ h => h) (yieldsIf_load_mid (by rfl) _ _ (by rfl) (q + 1) 0 (by rfl) (([.int .i64 nx, .int .i64 tl] : List Value)) _ (fun wv hS => blk_rngl hS.out.2.1) Try.underlying26 (by rfl) (by kernel_rfl)) hS ?_
        try simp only [Act.put, List.setIfInBounds_toArray, List.set_cons_zero, List.set_cons_succ]
        refine wpAnyH_ready (rs := [2]) (by kernel_rfl) (by simp) (AllReadyH.cons (o := ⟨none, .store 24 (.tmp 8) (.tmp 62), 0, "queue.go:122", #[⟨0, .data⟩, ⟨0, .phase⟩, ⟨1, .textOnly .lateStores⟩], none⟩) rfl (fun K hK => ?_) AllReadyH.nil)
        go_simp
        replace hS := Lib.hid (And.intro (keep_pair hS.out.1 nz02 (.slice B3 m3 d3) (.int .i64 fg)) (And.intro (keep_pair hS.out.2.1 nz12 (.slice B3 m3 d3) (.int .i64 fg)) (bel_pair hS.out.2.2 (show q ≤ q + 2 by omega) (.slice B3 m3 d3) (.int .i64 fg))))
        refine Shut.out hK _ _ hS (fun _ => ?_)
        clear hK K
        try simp only [Act.put, List.setIfInBounds_toArray, List.set_cons_zero, List.set_cons_succ]
        refine wpAnyH_ready (rs := [3]) (by kernel_rfl) (by simp) (AllReadyH.cons (o := ⟨none, .store 26 (.tmp 9) (.tmp 63), 0, "queue.go:122", #[⟨1, .data⟩, ⟨2, .chain⟩, ⟨0, .phase⟩, ⟨1, .phase⟩, ⟨2, .phase⟩], none⟩) rfl (fun K hK => ?_) AllReadyH.nil)
        go_simp
        replace hS := Lib.hid (And.intro (keep_pair hS.out.1 nz03 (.int .i64 nx) (.int .i64 tl)) (And.intro (keep_pair hS.out.2.1 nz13 (.int .i64 nx) (.int .i64 tl)) (bel_pair hS.out.2.2 (show q ≤ q + 3 by omega) (.int .i64 nx) (.int .i64 tl))))
        refine Shut.out hK _ _ hS (fun _ => ?_)
        clear hK K
        try simp only [Act.put, List.setIfInBounds_toArray, List.set_cons_zero, List.set_cons_succ]
        refine wpAnyH_take (i := 4) (oi := ⟨some 10, .assign (.const (Value.int IntKind.i64 0)), 29, "queue.go:122", #[⟨3, .chain⟩, ⟨0, .phase⟩, ⟨1, .phase⟩, ⟨2, .phase⟩, ⟨3, .phase⟩], none⟩) (v := ?_) rfl (by kernel_rfl) (by kernel_rfl) (by kernel_rfl) (fun _ _ _ h => h) (Or.inl ⟨by rfl, ?_⟩) hS ?_
        rotate_left
        · intro wv _; go_simp; try with_reducible rfl
        try simp only [Act.put, List.setIfInBounds_toArray, List.set_cons_zero, List.set_cons_succ]
        refine wpAnyH_done (by kernel_rfl) ?_ _
        refine NoPanic.normal ?_
        go_wp2
        have FZ : Fr w (((((w8.setCell ⟨q + 2, 0, none⟩ (.slice B3 m3 d3)).setCell ⟨q + 2, 1, none⟩ (.int .i64 fg)).setCell ⟨q + 3, 0, none⟩ (.int .i64 nx)).setCell ⟨q + 3, 1, none⟩ (.int .i64 tl))).drew q [.cells #[.slice (some ⟨b, off, none⟩) n c, .int .i64 fr] 24, .cells #[.int .i64 nx, .int .i64 tl] 26, .cells #[.slice B3 m3 d3, .int .i64 fg] 24, .cells #[.int .i64 nx, .int .i64 tl] 26, .cells #[.slice B3 m3 d3, .int .i64 fg] 24] := (((((FR.out.set 2 0 rfl rfl (.slice B3 m3 d3)).set 2 1 rfl rfl (.int .i64 fg)).set 3 0 rfl rfl (.int .i64 nx)).set 3 1 rfl rfl (.int .i64 tl))).drew
        refine bodyPost_ret (res_ccs Try.results28 (by rfl) (by rfl) (FZ.load 2 rfl rfl Try.underlying24 (by kernel_rfl)) (FZ.load 3 rfl rfl Try.underlying26 (by kernel_rfl))) rfl ?_
        rw [HE.out]
        exact ⟨_, _, _, rfl, own_base (own_apart (own_apart (own_apart (own_apart (OG.out) (k := q + 2) (o := 0) (u := .slice B3 m3 d3) (by omega)) (k := q + 2) (o := 1) (u := .int .i64 fg) (by omega)) (k := q + 3) (o := 0) (u := .int .i64 nx) (by omega)) (k := q + 3) (o := 1) (u := .int .i64 tl) (by omega)) (by rw [hq]; omega), FZ.out⟩
    · have b3 : (eg != 0) = true := by simp [he0]
      have HE := Lib.hid (show R = ((rs, fr), (hd, tl), eg) from HB.out he0)
      clear he0 HG HB
      clear OG
      have hszc := FR.out.sz
      simp only [List.length_cons, List.length_nil] at hszc
      have nzq : q ≠ q + 2 := by omega
      have nzr : q + 1 ≠ q + 2 := by omega
      have nzt : q ≠ q + 3 := by omega
      have nzu : q + 1 ≠ q + 3 := by omega
      go_wp2
      refine wp_region_noPanic ?_
      refine wp_region_held_drew (S := (fun wv => Hid (wv.heap[q]? = some (.cells #[.slice (some ⟨b, off, none⟩) n c, .int .i64 fr] 24) ∧ wv.heap[q + 1]? = some (.cells #[.int .i64 hd, .int .i64 tl] 26) ∧ Below q w wv))) (by kernel_rfl) (Lib.hid ⟨FR.out.blk 0 _ rfl, FR.out.blk 1 _ rfl, FR.out.bel.drew⟩) (fun hS => ?_)
      refine wpAnyH_take (i := 0) (oi := ⟨some 50, .load 24 (.tmp 4), 24, "queue.go:114", #[], none⟩) (v := .agg (([.slice (some ⟨b, off, none⟩) n c, .int .i64 fr] : List Value)).toArray) rfl (by kernel_rfl) (by kernel_rfl) (by kernel_rfl) (fun _ _ _ h => h) (yieldsIf_load_mid (by rfl) _ _ (by rfl) (q) 0 (by rfl) (([.slice (some ⟨b, off, none⟩) n c, .int .i64 fr] : List Value)) _ (fun wv hS => blk_rngl hS.out.1) Try.underlying24 (by rfl) (by kernel_rfl)) hS ?_
      try simp only [Act.put, List.setIfInBounds_toArray, List.set_cons_zero, List.set_cons_succ]
      refine wpAnyH_take (i := 2) (oi := ⟨some 52, .load 26 (.tmp 5), 26, "queue.go:114", #[⟨4, .gcOnly .lateStores⟩], none⟩) (v := .agg (([.int .i64 hd, .int .i64 tl] : List Value)).toArray) rfl (by kernel_rfl) (by kernel_rfl) (by kernel_rfl) (fun _ _ _ h => h) (yieldsIf_load_mid (by rfl) _ _ (by rfl) (q + 1) 0 (by rfl) (([.int .i64 hd, .int .i64 tl] : List Value)) _ (fun wv hS => blk_rngl hS.out.2.1) Try.underlying26 (by rfl) (by kernel_rfl)) hS ?_
      try simp only [Act.put, List.setIfInBounds_toArray, List.set_cons_zero, List.set_cons_succ]
      refine wpAnyH_take (i := 3) (oi := ⟨some 53, .move (.tmp 14), 29, "queue.go:114", #[⟨5, .gcOnly .lateStores⟩], none⟩) (v := ?_) rfl (by kernel_rfl) (by kernel_rfl) (by kernel_rfl) (fun _ _ _ h => h) (Or.inl ⟨by rfl, ?_⟩) hS ?_
      rotate_left
      · intro wv _; go_simp; try with_reducible rfl
      try simp only [Act.put, List.setIfInBounds_toArray, List.set_cons_zero, List.set_cons_succ]
      refine wpAnyH_ready (rs := [1]) (by kernel_rfl) (by simp) (AllReadyH.cons (o := ⟨some 51, .call { callee := .value (.func 27), args := #[.tmp 50], argTypes := #[24] }, 24, "queue.go:114", #[⟨0, .data⟩], none⟩) rfl (fun K hK => ?_) AllReadyH.nil)
      go_simp
      refine (CP.out _ (FR.out.drew.es RX.out)).mono ?_
      rintro e wa ⟨B, d, rfl, hown, hb⟩
      replace FR := Lib.hid (FR.out.drew.step hb)
      have OW := Lib.hid (own_base hown (show q + 4 ≤ w7.heap.size by omega))
      clear hown hb
      replace hS := Lib.hid (And.intro (FR.out.blk 0 _ rfl) (And.intro (FR.out.blk 1 _ rfl) FR.out.bel))
      have c20 : wa.cell? ⟨q + 2, 0, none⟩ = some (.slice none 0 0) := FR.out.cell 2 0 rfl rfl rfl
      have f20 : wa.frozen? ⟨q + 2, 0, none⟩ = false := FR.out.frozen 2 0 rfl rfl
      have c21 : wa.cell? ⟨q + 2, 1, none⟩ = some (.int .i64 0) := FR.out.cell 2 1 rfl rfl rfl
      have f21 : wa.frozen? ⟨q + 2, 1, none⟩ = false := FR.out.frozen 2 1 rfl rfl
      have c30 : wa.cell? ⟨q + 3, 0, none⟩ = some (.int .i64 0) := FR.out.cell 3 0 rfl rfl rfl
      have f30 : wa.frozen? ⟨q + 3, 0, none⟩ = false := FR.out.frozen 3 0 rfl rfl
      have c31 : wa.cell? ⟨q + 3, 1, none⟩ = some (.int .i64 0) := FR.out.cell 3 1 rfl rfl rfl
      have f31 : wa.frozen? ⟨q + 3, 1, none⟩ = false := FR.out.frozen 3 1 rfl rfl
      go_wp2_with fail
      refine Shut.out hK _ _ hS (fun _ => ?_)
      clear hK K
      try simp only [Act.put, List.setIfInBounds_toArray, List.set_cons_zero, List.set_cons_succ]
      refine wpAnyH_ready (rs := [4]) (by kernel_rfl) (by simp) (AllReadyH.cons (o := ⟨none, .store 24 (.tmp 8) (.tmp 51), 0, "queue.go:114", #[⟨1, .data⟩, ⟨1, .chain⟩, ⟨0, .phase⟩, ⟨1, .phase⟩, ⟨2, .textOnly .lateStores⟩, ⟨3, .textOnly .lateStores⟩], none⟩) rfl (fun K hK => ?_) AllReadyH.nil)
      go_simp
      replace hS := Lib.hid (And.intro (keep_pair hS.out.1 nzq (.slice B n d) (.int .i64 fr)) (And.intro (keep_pair hS.out.2.1 nzr (.slice B n d) (.int .i64 fr)) (bel_pair hS.out.2.2 (show q ≤ q + 2 by omega) (.slice B n d) (.int .i64 fr))))
      refine Shut.out hK _ _ hS (fun _ => ?_)
      clear hK K
      try simp only [Act.put, List.setIfInBounds_toArray, List.set_cons_zero, List.set_cons_succ]
      refine wpAnyH_ready (rs := [5]) (by kernel_rfl) (by simp) (AllReadyH.cons (o := ⟨none, .store 26 (.tmp 9) (.tmp 52), 0, "queue.go:114", #[⟨2, .data⟩, ⟨4, .chain⟩, ⟨0, .phase⟩, ⟨1, .phase⟩, ⟨2, .phase⟩, ⟨3, .textOnly .lateStores⟩, ⟨4, .phase⟩], none⟩) rfl (fun K hK => ?_) AllReadyH.nil)
      go_simp
      replace hS := Lib.hid (And.intro (keep_pair hS.out.1 nzt (.int .i64 hd) (.int .i64 tl)) (And.intro (keep_pair hS.out.2.1 nzu (.int .i64 hd) (.int .i64 tl)) (bel_pair hS.out.2.2 (show q ≤ q + 3 by omega) (.int .i64 hd) (.int .i64 tl))))
      refine Shut.out hK _ _ hS (fun _ => ?_)
      clear hK K
      try simp only [Act.put, List.setIfInBounds_toArray, List.set_cons_zero, List.set_cons_succ]
      refine wpAnyH_take (i := 6) (oi := ⟨some 10, .assign (.tmp 53), 29, "queue.go:114", #[⟨3, .data⟩, ⟨5, .chain⟩, ⟨0, .phase⟩, ⟨1, .phase⟩, ⟨2, .phase⟩, ⟨3, .phase⟩, ⟨4, .phase⟩, ⟨5, .phase⟩], none⟩) (v := ?_) rfl (by kernel_rfl) (by kernel_rfl) (by kernel_rfl) (fun _ _ _ h => h) (Or.inl ⟨by rfl, ?_⟩) hS ?_
      rotate_left
      · intro wv _; go_simp; try with_reducible rfl
      try simp only [Act.put, List.setIfInBounds_toArray, List.set_cons_zero, List.set_cons_succ]
      refine wpAnyH_done (by kernel_rfl) ?_ _
      refine NoPanic.normal ?_
      go_wp2
      have FZ : Fr w ((((wa.setCell ⟨q + 2, 0, none⟩ (.slice B n d)).setCell ⟨q + 2, 1, none⟩ (.int .i64 fr)).setCell ⟨q + 3, 0, none⟩ (.int .i64 hd)).setCell ⟨q + 3, 1, none⟩ (.int .i64 tl)) q [.cells #[.slice (some ⟨b, off, none⟩) n c, .int .i64 fr] 24, .cells #[.int .i64 hd, .int .i64 tl] 26, .cells #[.slice B n d, .int .i64 fr] 24, .cells #[.int .i64 hd, .int .i64 tl] 26, .cells #[.slice B3 m3 d3, .int .i64 fg] 24] := ((((FR.out.set 2 0 rfl rfl (.slice B n d)).set 2 1 rfl rfl (.int .i64 fr)).set 3 0 rfl rfl (.int .i64 hd)).set 3 1 rfl rfl (.int .i64 tl))
      refine bodyPost_ret (res_ccs Try.results28 (by rfl) (by rfl) (FZ.load 2 rfl rfl Try.underlying24 (by kernel_rfl)) (FZ.load 3 rfl rfl Try.underlying26 (by kernel_rfl))) rfl ?_
      rw [HE.out]
      exact ⟨_, _, _, rfl, own_base (own_apart (own_apart (own_apart (own_apart (OW.out) (k := q + 2) (o := 0) (u := .slice B n d) (by omega)) (k := q + 2) (o := 1) (u := .int .i64 fr) (by omega)) (k := q + 3) (o := 0) (u := .int .i64 hd) (by omega)) (k := q + 3) (o := 1) (u := .int .i64 tl) (by omega)) (by rw [hq]; omega), FZ.out⟩
  · obtain ⟨j, rfl⟩ : ∃ j, k = j + 1 := ⟨k - 1, by omega⟩
    obtain ⟨lb2, loff2, y, hA2, hlb2, hlc2, hdr2⟩ := (show Is w _ m c2 l from IP.out).look j (by omega)
    injection hA2 with hA2; injection hA2 with e1 e2; subst e1; subst e2
    have hyk : l.getD j 0 = y := by have h1 := drop_at (xs := l) (i := j) (by omega); rw [h1] at hdr2; injection hdr2 with h2 _; rw [← h2]; simp [List.getD, show j < l.length by omega]
    have hyb := HPL.2 y (mem_at hdr2)
    have HLD := Lib.hid hlc2
    clear hdr2 hlc2 hlb2
    have hbh : butH l (j + 1) = y := by unfold butH; rw [if_neg (by omega), Nat.add_sub_cancel, hyk]
    have hba : butA (rs, fr) l (j + 1) = (arSet (rs, fr) y nx).1 := by unfold butA; rw [if_neg (by omega), Nat.add_sub_cancel, hyk, hxk]; simp only; rw [hnx]
    obtain ⟨r2, f2, e2, hS2⟩ : ∃ r2 f2 e2, arSet (rs, fr) y nx = ((r2, f2), e2) := ⟨_, _, _, rfl⟩
    have HRL := Lib.hid (show r2.length ≤ 16384 from by have h1 := set_len (rs, fr) y nx; rw [hS2] at h1; simp only at h1; have := HL.out; omega)
    rw [hba, hbh, hS2, if_neg (show ¬ (j + 1 = 0) by omega)] at BP
    obtain ⟨rg, fg, eg, hG⟩ : ∃ rg fg eg, arGive (r2, f2) (i : Int) = ((rg, fg), eg) := ⟨_, _, _, rfl⟩
    rw [hG] at BP
    simp only at BP
    have HG := Lib.hid (show eg = 0 → R = ((rg, fg), (hd, if nx = -1 then y else tl), 0) from fun h => by rw [BP, if_neg (by simp [h])])
    have HB := Lib.hid (show eg ≠ 0 → R = ((rs, fr), (hd, tl), eg) from fun h => by rw [BP, if_pos h])
    have HE0 := HB
    have G1 := fun (B : Option Addr) (m d : Nat) (W : World) (h : Rs W B m d r2) => arnGive_all B m d r2 f2 (i : Int) W h (by have h2 := h.len; have h3 := HRL.out; omega)
    rw [hG] at G1
    have GV : Hid (∀ (B : Option Addr) (m d : Nat) (W : World), Rs W B m d r2 → Calls Try.prog 42 #[.agg #[.slice B m d, .int .i64 f2], .int .i64 (i : Int)] W (GiveAll W ((rg, fg), eg))) := Lib.hid G1
    clear G1 BP hG
    have S1 := fun (W : World) (h : Rs W (some ⟨b, off, none⟩) n c rs) => arnSet_all _ n c rs fr y nx W h hn
    rw [hS2] at S1
    replace S1 : Hid (∀ W, Rs W (some ⟨b, off, none⟩) n c rs → Calls Try.prog 34 #[.agg #[.slice (some ⟨b, off, none⟩) n c, .int .i64 fr], .int .i64 y, .int .i64 nx] W (GiveAll W ((r2, f2), e2))) := Lib.hid S1
    have b2 : decide ((0 : Int) < ((j + 1 : Nat) : Int)) = true := by simp <;> omega
    have b2' : decide (0 < j + 1) = true := by simp
    have b5 : (y == -1) = false := by simp; have := hyb.1; omega
    have hw1 : IntKind.i64.wrap (((j + 1 : Nat) : Int) - 1) = (j : Int) := by rw [IntKind.wrap_i64]; omega
    have hl0 : (0 : Int) ≤ (j : Int) := by omega
    have hl1 : (j : Int) < (m : Int) := by omega
    obtain ⟨k, hkj⟩ : ∃ k : Nat, k = j + 1 := ⟨_, rfl⟩
    rw [← hkj] at b2 b2' hw1 hi0 hi1 HLC ⊢
    clear hk hxk HPL hnx hba hbh hyk hyb hS2 hk0 hkj
    go_enter Try.func28, Try.ntmps28
    have FR0 := FR
    obtain ⟨v5, hv5⟩ : ∃ W, v4.alloc (.cells #[.slice none 0 0, .int .i64 0] 24) = W := ⟨_, rfl⟩
    have fr5 : Fr w v5 q [.cells #[.slice (some ⟨b, off, none⟩) n c, .int .i64 fr] 24, .cells #[.int .i64 hd, .int .i64 tl] 26, .cells #[.slice none 0 0, .int .i64 0] 24, .cells #[.int .i64 0, .int .i64 0] 26, .cells #[.slice none 0 0, .int .i64 0] 24] := hv5 ▸ FR0.out.more z4 _
    replace FR := Lib.hid fr5
    clear fr5
    have c00 : v5.cell? ⟨q, 0, none⟩ = some (.slice (some ⟨b, off, none⟩) n c) := FR.out.cell 0 0 rfl rfl rfl
    have f00 : v5.frozen? ⟨q, 0, none⟩ = false := FR.out.frozen 0 0 rfl rfl
    have c01 : v5.cell? ⟨q, 1, none⟩ = some (.int .i64 fr) := FR.out.cell 0 1 rfl rfl rfl
    have f01 : v5.frozen? ⟨q, 1, none⟩ = false := FR.out.frozen 0 1 rfl rfl
    have c40 : v5.cell? ⟨q + 4, 0, none⟩ = some (.slice none 0 0) := FR.out.cell 4 0 rfl rfl rfl
    have f40 : v5.frozen? ⟨q + 4, 0, none⟩ = false := FR.out.frozen 4 0 rfl rfl
    have c41 : v5.cell? ⟨q + 4, 1, none⟩ = some (.int .i64 0) := FR.out.cell 4 1 rfl rfl rfl
    have f41 : v5.frozen? ⟨q + 4, 1, none⟩ = false := FR.out.frozen 4 1 rfl rfl
    have nqx : q ≠ q + 4 := by omega
    go_wp2
    refine wp_region_noPanic ?_
    refine wp_region_held_drew (S := (fun wv => Hid (wv.heap[q]? = some (.cells #[.slice (some ⟨b, off, none⟩) n c, .int .i64 fr] 24) ∧ Below q w wv))) (by kernel_rfl) (Lib.hid ⟨FR0.out.blk 0 _ rfl, FR0.out.bel.drew⟩) (fun hS => ?_)
    refine wpAnyH_take (i := 0) (oi := ⟨some 15, .load 24 (.tmp 4), 24, "queue.go:106", #[], none⟩) (v := .agg (([.slice (some ⟨b, off, none⟩) n c, .int .i64 fr] : List Value)).toArray) rfl (by kernel_rfl) (by kernel_rfl) (by kernel_rfl) (fun _ _ _ h => h) (yieldsIf_load_mid (by rfl) _ _ (by rfl) (q) 0 (by rfl) (([.slice (some ⟨b, off, none⟩) n c, .int .i64 fr] : List Value)) _ (fun wv hS => blk_rngl hS.out.1) Try.underlying24 (by rfl) (by kernel_rfl)) hS ?_
    try simp only [Act.put, List.setIfInBounds_toArray, List.set_cons_zero, List.set_cons_succ]
    refine wpAnyH_take (i := 1) (oi := ⟨some 16, .fieldAddr 24 (.tmp 4) 0, 0, "queue.go:106", #[⟨12, .gcOnly .lateStores⟩], none⟩) (v := ?_) rfl (by kernel_rfl) (by kernel_rfl) (by kernel_rfl) (fun _ _ _ h => h) (Or.inl ⟨by rfl, ?_⟩) hS ?_
    rotate_left
    · intro wv _; go_simp; try with_reducible rfl
    try simp only [Act.put, List.setIfInBounds_toArray, List.set_cons_zero, List.set_cons_succ]
    refine wpAnyH_take (i := 2) (oi := ⟨some 17, .load 22 (.tmp 16), 22, "queue.go:106", #[⟨1, .data⟩, ⟨12, .gcOnly .lateStores⟩], none⟩) (v := ?_) rfl (by kernel_rfl) (by kernel_rfl) (by kernel_rfl) (fun _ _ _ h => h) (Or.inl ⟨by rfl, ?_⟩) hS ?_
    rotate_left
    · intro wv hS; have hrun := (show wv.cell? ⟨q, 0, none⟩ = some (.slice (some ⟨b, off, none⟩) n c) from (blk_cell hS.out.1 0).trans rfl); go_simp; try with_reducible rfl
    try simp only [Act.put, List.setIfInBounds_toArray, List.set_cons_zero, List.set_cons_succ]
    refine wpAnyH_take (i := 3) (oi := ⟨some 18, .move (.tmp 2), 37, "queue.go:106", #[⟨12, .gcOnly .lateStores⟩], none⟩) (v := ?_) rfl (by kernel_rfl) (by kernel_rfl) (by kernel_rfl) (fun _ _ _ h => h) (Or.inl ⟨by rfl, ?_⟩) hS ?_
    rotate_left
    · intro wv _; go_simp; try with_reducible rfl
    try simp only [Act.put, List.setIfInBounds_toArray, List.set_cons_zero, List.set_cons_succ]
    refine wpAnyH_take (i := 4) (oi := ⟨some 19, .move (.tmp 3), 3, "queue.go:106", #[⟨12, .gcOnly .lateStores⟩], none⟩) (v := ?_) rfl (by kernel_rfl) (by kernel_rfl) (by kernel_rfl) (fun _ _ _ h => h) (Or.inl ⟨by rfl, ?_⟩) hS ?_
    rotate_left
    · intro wv _; go_simp; try with_reducible rfl
    try simp only [Act.put, List.setIfInBounds_toArray, List.set_cons_zero, List.set_cons_succ]
    refine wpAnyH_take (i := 5) (oi := ⟨some 20, .indexAddr 37 (.tmp 18) (.tmp 19), 0, "queue.go:106", #[⟨3, .data⟩, ⟨4, .data⟩, ⟨12, .gcOnly .lateStores⟩], none⟩) (v := ?_) rfl (by kernel_rfl) (by kernel_rfl) (by kernel_rfl) (fun _ _ _ h => h) (Or.inl ⟨by rfl, ?_⟩) hS ?_
    rotate_left
    · intro wv _; go_simp; try with_reducible rfl
    try simp only [Act.put, List.setIfInBounds_toArray, List.set_cons_zero, List.set_cons_succ]
    refine wpAnyH_take (i := 6) (oi := ⟨some 21, .load 3 (.tmp 20), 3, "queue.go:106", #[⟨5, .data⟩, ⟨12, .gcOnly .lateStores⟩], none⟩) (v := ?_) rfl (by kernel_rfl) (by kernel_rfl) (by kernel_rfl) (fun _ _ _ h => h) (Or.inl ⟨by rfl, ?_⟩) hS ?_
    rotate_left
    · intro wv hS; have hrun := (hS.out.2.cell (p := ⟨lb, loff + k, none⟩) hlq).trans HLC.out; go_simp; try with_reducible rfl
    try simp only [Act.put, List.setIfInBounds_toArray, List.set_cons_zero, List.set_cons_succ]
    refine wpAnyH_take (i := 7) (oi := ⟨some 22, .indexAddr 22 (.tmp 17) (.tmp 21), 0, "queue.go:106", #[⟨2, .data⟩, ⟨6, .data⟩, ⟨12, .gcOnly .lateStores⟩], none⟩) (v := ?_) rfl (by kernel_rfl) (by kernel_rfl) (by kernel_rfl) (fun _ _ _ h => h) (Or.inl ⟨by rfl, ?_⟩) hS ?_
    rotate_left
    · intro wv _; go_simp; try with_reducible rfl
    try simp only [Act.put, List.setIfInBounds_toArray, List.set_cons_zero, List.set_cons_succ]
    refine wpAnyH_take (i := 8) (oi := ⟨some 23, .fieldAddr 55 (.tmp 22) 2, 0, "queue.go:106", #[⟨7, .data⟩, ⟨12, .gcOnly .lateStores⟩], none⟩) (v := ?_) rfl (by kernel_rfl) (by kernel_rfl) (by kernel_rfl) (fun _ _ _ h => h) (Or.inl ⟨by rfl, ?_⟩) hS ?_
    rotate_left
    · intro wv _; go_simp; try with_reducible rfl
    try simp only [Act.put, List.setIfInBounds_toArray, List.set_cons_zero, List.set_cons_succ]
    refine wpAnyH_take (i := 9) (oi := ⟨some 24, .load 3 (.tmp 23), 3, "queue.go:106", #[⟨8, .data⟩, ⟨12, .gcOnly .lateStores⟩], none⟩) (v := ?_) rfl (by kernel_rfl) (by kernel_rfl) (by kernel_rfl) (fun _ _ _ h => h) (Or.inl ⟨by rfl, ?_⟩) hS ?_
    rotate_left
    · intro wv hS; have hrun := (hS.out.2.cell (p := ⟨b, off + i * 3 + 2, none⟩) hbq).trans HK2.out; go_simp; try with_reducible rfl
    try simp only [Act.put, List.setIfInBounds_toArray, List.set_cons_zero, List.set_cons_succ]
    refine wpAnyH_ready (rs := [10]) (by kernel_rfl) (by simp) (AllReadyH.cons (o := ⟨some 11, .alloc 24, 0, "queue.go:106", #[], none⟩) rfl (fun K hK => ?_) AllReadyH.nil)
    go_simp
    replace hS := Lib.hid (And.intro (FR.out.blk 0 _ rfl) FR.out.bel.drew)
    go_wp2_with fail
    refine Shut.out hK _ _ hS (fun _ => ?_)
    clear hK K
    try simp only [Act.put, List.setIfInBounds_toArray, List.set_cons_zero, List.set_cons_succ]
    refine wpAnyH_ready (rs := [11]) (by kernel_rfl) (by simp) (AllReadyH.cons (o := ⟨none, .store 24 (.tmp 11) (.tmp 15), 0, "queue.go:106", #[⟨10, .data⟩, ⟨0, .data⟩, ⟨0, .phase⟩, ⟨1, .textOnly .lateStores⟩, ⟨2, .textOnly .lateStores⟩, ⟨3, .textOnly .lateStores⟩, ⟨4, .textOnly .lateStores⟩, ⟨5, .textOnly .lateStores⟩, ⟨6, .textOnly .lateStores⟩, ⟨7, .textOnly .lateStores⟩, ⟨8, .textOnly .lateStores⟩, ⟨9, .textOnly .lateStores⟩, ⟨10, .phase⟩], none⟩) rfl (fun K hK => ?_) AllReadyH.nil)
    go_simp
    replace hS := Lib.hid (And.intro (keep_pair hS.out.1 nqx (.slice (some ⟨b, off, none⟩) n c) (.int .i64 fr)) (bel_pair hS.out.2 (show q ≤ q + 4 by omega) (.slice (some ⟨b, off, none⟩) n c) (.int .i64 fr)))
    refine Shut.out hK _ _ hS (fun _ => ?_)
    clear hK K
    try simp only [Act.put, List.setIfInBounds_toArray, List.set_cons_zero, List.set_cons_succ]
    refine wpAnyH_take (i := 12) (oi := ⟨some 12, .assign (.const (Value.int IntKind.i64 (-1))), 3, "queue.go:106", #[⟨11, .chain⟩, ⟨0, .phase⟩, ⟨1, .textOnly .lateStores⟩, ⟨2, .textOnly .lateStores⟩, ⟨3, .textOnly .lateStores⟩, ⟨4, .textOnly .lateStores⟩, ⟨5, .textOnly .lateStores⟩, ⟨6, .textOnly .lateStores⟩, ⟨7, .textOnly .lateStores⟩, ⟨8, .textOnly .lateStores⟩, ⟨9, .textOnly .lateStores⟩, ⟨10, .phase⟩, ⟨11, .phase⟩], none⟩) (v := ?_) rfl (by kernel_rfl) (by kernel_rfl) (by kernel_rfl) (fun _ _ _ h => h) (Or.inl ⟨by rfl, ?_⟩) hS ?_
    rotate_left
    · intro wv _; go_simp; try with_reducible rfl
    try simp only [Act.put, List.setIfInBounds_toArray, List.set_cons_zero, List.set_cons_succ]
    refine wpAnyH_take (i := 13) (oi := ⟨some 13, .assign (.tmp 24), 3, "queue.go:106", #[⟨9, .data⟩, ⟨12, .chain⟩, ⟨0, .phase⟩, ⟨1, .phase⟩, ⟨2, .phase⟩, ⟨3, .phase⟩, ⟨4, .phase⟩, ⟨5, .phase⟩, ⟨6, .phase⟩, ⟨7, .phase⟩, ⟨8, .phase⟩, ⟨9, .phase⟩, ⟨10, .phase⟩, ⟨11, .phase⟩, ⟨12, .phase⟩], none⟩) (v := ?_) rfl (by kernel_rfl) (by kernel_rfl) (by kernel_rfl) (fun _ _ _ h => h) (Or.inl ⟨by rfl, ?_⟩) hS ?_
    rotate_left
    · intro wv _; go_simp; try with_reducible rfl
    try simp only [Act.put, List.setIfInBounds_toArray, List.set_cons_zero, List.set_cons_succ]
    refine wpAnyH_done (by kernel_rfl) ?_ _
    refine NoPanic.normal ?_
    clear c00 f00 c01 f01 c40 f40 c41 f41
    have hszw6 := FR.out.sz
    simp only [List.length_cons, List.length_nil] at hszw6
    obtain ⟨w6, hw6⟩ : ∃ W, (((v5.setCell ⟨q + 4, 0, none⟩ (.slice (some ⟨b, off, none⟩) n c)).setCell ⟨q + 4, 1, none⟩ (.int .i64 fr))).drew = W := ⟨_, rfl⟩
    replace FR := Lib.hid (show Fr w w6 q [.cells #[.slice (some ⟨b, off, none⟩) n c, .int .i64 fr] 24, .cells #[.int .i64 hd, .int .i64 tl] 26, .cells #[.slice none 0 0, .int .i64 0] 24, .cells #[.int .i64 0, .int .i64 0] 26, .cells #[.slice (some ⟨b, off, none⟩) n c, .int .i64 fr] 24] from hw6 ▸ (((FR.out.set 4 0 rfl rfl (.slice (some ⟨b, off, none⟩) n c)).set 4 1 rfl rfl (.int .i64 fr))).drew)
    rw [hw6]
    clear hw6
    clear FR0 hS
    have cj : w6.cell? ⟨lb, loff + j, none⟩ = some (.int .i64 y) := (FR.out.bel.cell (p := ⟨lb, loff + j, none⟩) hlq).trans HLD.out
    have FR0 := FR.out.sz
    simp only [List.length_cons, List.length_nil] at FR0
    have c00 : w6.cell? ⟨q, 0, none⟩ = some (.slice (some ⟨b, off, none⟩) n c) := FR.out.cell 0 0 rfl rfl rfl
    have c01 : w6.cell? ⟨q, 1, none⟩ = some (.int .i64 fr) := FR.out.cell 0 1 rfl rfl rfl
    have c10 : w6.cell? ⟨q + 1, 0, none⟩ = some (.int .i64 hd) := FR.out.cell 1 0 rfl rfl rfl
    have c11 : w6.cell? ⟨q + 1, 1, none⟩ = some (.int .i64 tl) := FR.out.cell 1 1 rfl rfl rfl
    have c20 : w6.cell? ⟨q + 2, 0, none⟩ = some (.slice none 0 0) := FR.out.cell 2 0 rfl rfl rfl
    have c21 : w6.cell? ⟨q + 2, 1, none⟩ = some (.int .i64 0) := FR.out.cell 2 1 rfl rfl rfl
    have c30 : w6.cell? ⟨q + 3, 0, none⟩ = some (.int .i64 0) := FR.out.cell 3 0 rfl rfl rfl
    have c31 : w6.cell? ⟨q + 3, 1, none⟩ = some (.int .i64 0) := FR.out.cell 3 1 rfl rfl rfl
    have c40 : w6.cell? ⟨q + 4, 0, none⟩ = some (.slice (some ⟨b, off, none⟩) n c) := FR.out.cell 4 0 rfl rfl rfl
    have c41 : w6.cell? ⟨q + 4, 1, none⟩ = some (.int .i64 fr) := FR.out.cell 4 1 rfl rfl rfl
    go_wp2_with fail
    refine ((S1.out _ (FR.out.es RX.out))).mono ?_
    rintro e w7 ⟨B2, m2, d2, rfl, hown, hb⟩
    clear c00 c01 c10 c11 c20 c21 c30 c31 c40 c41
    replace FR := Lib.hid (FR.out.step hb)
    clear hb
    clear cj
    have OW := Lib.hid (own_base hown FR0)
    clear hown FR0
    have p7c40 : w7.cell? ⟨q + 4, 0, none⟩ = some (.slice (some ⟨b, off, none⟩) n c) := FR.out.cell 4 0 rfl rfl rfl
    have p7f40 : w7.frozen? ⟨q + 4, 0, none⟩ = false := FR.out.frozen 4 0 rfl rfl
    have p7c41 : w7.cell? ⟨q + 4, 1, none⟩ = some (.int .i64 fr) := FR.out.cell 4 1 rfl rfl rfl
    have p7f41 : w7.frozen? ⟨q + 4, 1, none⟩ = false := FR.out.frozen 4 1 rfl rfl
    have hszw8 := FR.out.sz
    simp only [List.length_cons, List.length_nil] at hszw8
    obtain ⟨w8, hw8⟩ : ∃ W, ((w7.setCell ⟨q + 4, 0, none⟩ (.slice B2 m2 d2)).setCell ⟨q + 4, 1, none⟩ (.int .i64 f2)) = W := ⟨_, rfl⟩
    have OW2 := (own_apart (own_apart OW.out (k := q + 4) (o := 0) (u := .slice B2 m2 d2) (by omega)) (k := q + 4) (o := 1) (u := .int .i64 f2) (by omega))
    replace FR := Lib.hid (show Fr w w8 q [.cells #[.slice (some ⟨b, off, none⟩) n c, .int .i64 fr] 24, .cells #[.int .i64 hd, .int .i64 tl] 26, .cells #[.slice none 0 0, .int .i64 0] 24, .cells #[.int .i64 0, .int .i64 0] 26, .cells #[.slice B2 m2 d2, .int .i64 f2] 24] from hw8 ▸ ((FR.out.set 4 0 rfl rfl (.slice B2 m2 d2)).set 4 1 rfl rfl (.int .i64 f2)))
    replace OW := Lib.hid (own_base (show World.ownsRow _ _ _ _ _ _ _ from OW2) (Nat.le_refl _))
    rw [hw8] at OW
    clear OW2
    have FR0 := FR.out.sz
    simp only [List.length_cons, List.length_nil] at FR0
    have c40 : w8.cell? ⟨q + 4, 0, none⟩ = some (.slice B2 m2 d2) := FR.out.cell 4 0 rfl rfl rfl
    have f40 : w8.frozen? ⟨q + 4, 0, none⟩ = false := FR.out.frozen 4 0 rfl rfl
    have c41 : w8.cell? ⟨q + 4, 1, none⟩ = some (.int .i64 f2) := FR.out.cell 4 1 rfl rfl rfl
    have f41 : w8.frozen? ⟨q + 4, 1, none⟩ = false := FR.out.frozen 4 1 rfl rfl
    go_wp2
    refine wp_region_noPanic ?_
    refine wp_region_held_drew (S := (fun wv => Hid (Below q w wv))) (by kernel_rfl) (Lib.hid FR.out.bel.drew) (fun hS => ?_)
    refine wpAnyH_take (i := 1) (oi := ⟨some 41, .move (.tmp 2), 37, "queue.go:112", #[], none⟩) (v := ?_) rfl (by kernel_rfl) (by kernel_rfl) (by kernel_rfl) (fun _ _ _ h => h) (Or.inl ⟨by rfl, ?_⟩) hS ?_
    rotate_left
    · intro wv _; go_simp; try with_reducible rfl
    try simp only [Act.put, List.setIfInBounds_toArray, List.set_cons_zero, List.set_cons_succ]
    refine wpAnyH_take (i := 2) (oi := ⟨some 42, .move (.tmp 3), 3, "queue.go:112", #[], none⟩) (v := ?_) rfl (by kernel_rfl) (by kernel_rfl) (by kernel_rfl) (fun _ _ _ h => h) (Or.inl ⟨by rfl, ?_⟩) hS ?_
    rotate_left
    · intro wv _; go_simp; try with_reducible rfl
    try simp only [Act.put, List.setIfInBounds_toArray, List.set_cons_zero, List.set_cons_succ]
    refine wpAnyH_take (i := 3) (oi := ⟨some 43, .indexAddr 37 (.tmp 41) (.tmp 42), 0, "queue.go:112", #[⟨1, .data⟩, ⟨2, .data⟩], none⟩) (v := ?_) rfl (by kernel_rfl) (by kernel_rfl) (by kernel_rfl) (fun _ _ _ h => h) (Or.inl ⟨by rfl, ?_⟩) hS ?_
    rotate_left
    · intro wv _; go_simp; try with_reducible rfl
    try simp only [Act.put, List.setIfInBounds_toArray, List.set_cons_zero, List.set_cons_succ]
    refine wpAnyH_take (i := 4) (oi := ⟨some 44, .load 3 (.tmp 43), 3, "queue.go:112", #[⟨3, .data⟩], none⟩) (v := ?_) rfl (by kernel_rfl) (by kernel_rfl) (by kernel_rfl) (fun _ _ _ h => h) (Or.inl ⟨by rfl, ?_⟩) hS ?_
    rotate_left
    · intro wv hS; have hrun := (hS.out.cell (p := ⟨lb, loff + k, none⟩) hlq).trans HLC.out; go_simp; try with_reducible rfl
    try simp only [Act.put, List.setIfInBounds_toArray, List.set_cons_zero, List.set_cons_succ]
    refine wpAnyH_ready (rs := [0]) (by kernel_rfl) (by simp) (AllReadyH.cons (o := ⟨some 40, .load 24 (.tmp 11), 24, "queue.go:112", #[], none⟩) rfl (fun K hK => ?_) AllReadyH.nil)
    go_simp
    skip
    go_wp2_with fail
    refine Shut.out hK _ _ hS (fun _ => ?_)
    clear hK K
    try simp only [Act.put, List.setIfInBounds_toArray, List.set_cons_zero, List.set_cons_succ]
    refine wpAnyH_ready (rs := [5]) (by kernel_rfl) (by simp) (AllReadyH.cons (o := ⟨some 45, .call { callee := .value (.func 42), args := #[.tmp 40, .tmp 44], argTypes := #[24, 3] }, 46, "queue.go:112", #[⟨0, .data⟩, ⟨4, .data⟩], none⟩) rfl (fun K hK => ?_) AllReadyH.nil)
    go_simp
    refine (GV.out _ _ _ _ (Es.drew (rs_own OW.out))).mono ?_
    rintro e wa ⟨B3, m3, d3, rfl, hown, hb⟩
    replace FR := Lib.hid (FR.out.drew.step hb)
    have OG := Lib.hid (own_base hown (show q + 5 ≤ w8.heap.size from FR0))
    clear hown hb
    replace hS := Lib.hid FR.out.bel
    clear c40 f40 c41 f41
    have c40 : wa.cell? ⟨q + 4, 0, none⟩ = some (.slice B2 m2 d2) := FR.out.cell 4 0 rfl rfl rfl
    have f40 : wa.frozen? ⟨q + 4, 0, none⟩ = false := FR.out.frozen 4 0 rfl rfl
    have c41 : wa.cell? ⟨q + 4, 1, none⟩ = some (.int .i64 f2) := FR.out.cell 4 1 rfl rfl rfl
    have f41 : wa.frozen? ⟨q + 4, 1, none⟩ = false := FR.out.frozen 4 1 rfl rfl
    go_wp2_with fail
    refine Shut.out hK _ _ hS (fun _ => ?_)
    clear hK K
    try simp only [Act.put, List.setIfInBounds_toArray, List.set_cons_zero, List.set_cons_succ]
    refine wpAnyH_take (i := 6) (oi := ⟨some 39, .move (.tmp 45), 46, "queue.go:112", #[⟨5, .data⟩], none⟩) (v := ?_) rfl (by kernel_rfl) (by kernel_rfl) (by kernel_rfl) (fun _ _ _ h => h) (Or.inl ⟨by rfl, ?_⟩) hS ?_
    rotate_left
    · intro wv _; go_simp; try with_reducible rfl
    try simp only [Act.put, List.setIfInBounds_toArray, List.set_cons_zero, List.set_cons_succ]
    refine wpAnyH_take (i := 7) (oi := ⟨some 46, .extract (.tmp 39) 0, 24, "queue.go:112", #[⟨6, .data⟩], none⟩) (v := ?_) rfl (by kernel_rfl) (by kernel_rfl) (by kernel_rfl) (fun _ _ _ h => h) (Or.inl ⟨by rfl, ?_⟩) hS ?_
    rotate_left
    · intro wv _; go_simp; try with_reducible rfl
    try simp only [Act.put, List.setIfInBounds_toArray, List.set_cons_zero, List.set_cons_succ]
    refine wpAnyH_take (i := 8) (oi := ⟨some 47, .extract (.tmp 39) 1, 29, "queue.go:112", #[⟨6, .data⟩, ⟨9, .gcOnly .lateStores⟩], none⟩) (v := ?_) rfl (by kernel_rfl) (by kernel_rfl) (by kernel_rfl) (fun _ _ _ h => h) (Or.inl ⟨by rfl, ?_⟩) hS ?_
    rotate_left
    · intro wv _; go_simp; try with_reducible rfl
    try simp only [Act.put, List.setIfInBounds_toArray, List.set_cons_zero, List.set_cons_succ]
    refine wpAnyH_ready (rs := [9]) (by kernel_rfl) (by simp) (AllReadyH.cons (o := ⟨none, .store 24 (.tmp 11) (.tmp 46), 0, "queue.go:112", #[⟨7, .data⟩, ⟨5, .chain⟩, ⟨0, .phase⟩, ⟨1, .phase⟩, ⟨2, .phase⟩, ⟨3, .phase⟩, ⟨4, .phase⟩, ⟨5, .phase⟩, ⟨6, .phase⟩, ⟨7, .phase⟩, ⟨8, .textOnly .lateStores⟩], none⟩) rfl (fun K hK => ?_) AllReadyH.nil)
    go_simp
    replace hS := Lib.hid (bel_pair hS.out (show q ≤ q + 4 by omega) (.slice B3 m3 d3) (.int .i64 fg))
    refine Shut.out hK _ _ hS (fun _ => ?_)
    clear hK K
    try simp only [Act.put, List.setIfInBounds_toArray, List.set_cons_zero, List.set_cons_succ]
    refine wpAnyH_take (i := 10) (oi := ⟨some 14, .assign (.tmp 47), 29, "queue.go:112", #[⟨8, .data⟩, ⟨9, .chain⟩, ⟨0, .phase⟩, ⟨1, .phase⟩, ⟨2, .phase⟩, ⟨3, .phase⟩, ⟨4, .phase⟩, ⟨5, .phase⟩, ⟨6, .phase⟩, ⟨7, .phase⟩, ⟨8, .phase⟩, ⟨9, .phase⟩], none⟩) (v := ?_) rfl (by kernel_rfl) (by kernel_rfl) (by kernel_rfl) (fun _ _ _ h => h) (Or.inl ⟨by rfl, ?_⟩) hS ?_
    rotate_left
    · intro wv _; go_simp; try with_reducible rfl
    try simp only [Act.put, List.setIfInBounds_toArray, List.set_cons_zero, List.set_cons_succ]
    refine wpAnyH_done (by kernel_rfl) ?_ _
    refine NoPanic.normal ?_
    clear c40 f40 c41 f41
    have hszw9 := FR.out.sz
    simp only [List.length_cons, List.length_nil] at hszw9
    obtain ⟨w9, hw9⟩ : ∃ W, ((wa.setCell ⟨q + 4, 0, none⟩ (.slice B3 m3 d3)).setCell ⟨q + 4, 1, none⟩ (.int .i64 fg)) = W := ⟨_, rfl⟩
    have OG2 := (own_apart (own_apart OG.out (k := q + 4) (o := 0) (u := .slice B3 m3 d3) (by omega)) (k := q + 4) (o := 1) (u := .int .i64 fg) (by omega))
    replace FR := Lib.hid (show Fr w w9 q [.cells #[.slice (some ⟨b, off, none⟩) n c, .int .i64 fr] 24, .cells #[.int .i64 hd, .int .i64 tl] 26, .cells #[.slice none 0 0, .int .i64 0] 24, .cells #[.int .i64 0, .int .i64 0] 26, .cells #[.slice B3 m3 d3, .int .i64 fg] 24] from hw9 ▸ ((FR.out.set 4 0 rfl rfl (.slice B3 m3 d3)).set 4 1 rfl rfl (.int .i64 fg)))
    replace OG := Lib.hid (own_base (show World.ownsRow _ _ _ _ _ _ _ from OG2) (Nat.le_refl _))
    rw [hw9] at OG
    clear OG2
    rw [hw9]
    clear hw9
    clear hS
    by_cases he0 : eg = 0
    · have b3 : (eg != 0) = false := by simp [he0]
      replace HE0 := Lib.hid (HG.out he0)
      clear HB
      by_cases hnx1 : nx = -1
      · have b4 : (nx == -1) = true := by simp [hnx1]
        have HE := Lib.hid (show R = ((rg, fg), (hd, y), 0) by rw [HE0.out, if_pos hnx1])
        clear hnx1 he0 HE0 HG
        have p9c10 : w9.cell? ⟨q + 1, 0, none⟩ = some (.int .i64 hd) := FR.out.cell 1 0 rfl rfl rfl
        have p9f10 : w9.frozen? ⟨q + 1, 0, none⟩ = false := FR.out.frozen 1 0 rfl rfl
        have p9c11 : w9.cell? ⟨q + 1, 1, none⟩ = some (.int .i64 tl) := FR.out.cell 1 1 rfl rfl rfl
        have p9f11 : w9.frozen? ⟨q + 1, 1, none⟩ = false := FR.out.frozen 1 1 rfl rfl
        have hszw10 := FR.out.sz
        simp only [List.length_cons, List.length_nil] at hszw10
        obtain ⟨w10, hw10⟩ : ∃ W, (w9.setCell ⟨q + 1, 1, none⟩ (.int .i64 y)) = W := ⟨_, rfl⟩
        have OG2 := (own_apart OG.out (k := q + 1) (o := 1) (u := .int .i64 y) (by omega))
        replace FR := Lib.hid (show Fr w w10 q [.cells #[.slice (some ⟨b, off, none⟩) n c, .int .i64 fr] 24, .cells #[.int .i64 hd, .int .i64 y] 26, .cells #[.slice none 0 0, .int .i64 0] 24, .cells #[.int .i64 0, .int .i64 0] 26, .cells #[.slice B3 m3 d3, .int .i64 fg] 24] from hw10 ▸ (FR.out.set 1 1 rfl rfl (.int .i64 y)))
        replace OG := Lib.hid (own_base (show World.ownsRow _ _ _ _ _ _ _ from OG2) (Nat.le_refl _))
        rw [hw10] at OG
        clear OG2
        have nz02 : q + 4 ≠ q + 2 := by omega
        have nz03 : q + 4 ≠ q + 3 := by omega
        have nz12 : q + 1 ≠ q + 2 := by omega
        have nz13 : q + 1 ≠ q + 3 := by omega
        have c20 : w10.cell? ⟨q + 2, 0, none⟩ = some (.slice none 0 0) := FR.out.cell 2 0 rfl rfl rfl
        have f20 : w10.frozen? ⟨q + 2, 0, none⟩ = false := FR.out.frozen 2 0 rfl rfl
        have c21 : w10.cell? ⟨q + 2, 1, none⟩ = some (.int .i64 0) := FR.out.cell 2 1 rfl rfl rfl
        have f21 : w10.frozen? ⟨q + 2, 1, none⟩ = false := FR.out.frozen 2 1 rfl rfl
        have c30 : w10.cell? ⟨q + 3, 0, none⟩ = some (.int .i64 0) := FR.out.cell 3 0 rfl rfl rfl
        have f30 : w10.frozen? ⟨q + 3, 0, none⟩ = false := FR.out.frozen 3 0 rfl rfl
        have c31 : w10.cell? ⟨q + 3, 1, none⟩ = some (.int .i64 0) := FR.out.cell 3 1 rfl rfl rfl
        have f31 : w10.frozen? ⟨q + 3, 1, none⟩ = false := FR.out.frozen 3 1 rfl rfl
        go_wp2
        refine wp_region_noPanic ?_
        refine wp_region_held_drew (S := (fun wv => Hid (wv.heap[q + 4]? = some (.cells #[.slice B3 m3 d3, .int .i64 fg] 24) ∧ wv.heap[q + 1]? = some (.cells #[.int .i64 hd, .int .i64 y] 26) ∧ Below q w wv))) (by kernel_rfl) (Lib.hid ⟨FR.out.blk 4 _ rfl, FR.out.blk 1 _ rfl, FR.out.bel.drew⟩) (fun hS => ?_)
        refine wpAnyH_take (i := 0) (oi := ⟨some 62, .load 24 (.tmp 11), 24, "queue.go:122", #[], none⟩) (v := .agg (([.slice B3 m3 d3, .int .i64 fg] : List Value)).toArray) rfl (by kernel_rfl) (by kernel_rfl) (by kernel_rfl) (fun _ _ _ h => h) (yieldsIf_load_mid (by rfl) _ _ (by rfl) (q + 4) 0 (by rfl) (([.slice B3 m3 d3, .int .i64 fg] : List Value)) _ (fun wv hS => blk_rngl hS.out.1) Try.underlying24 (by rfl) (by kernel_rfl)) hS ?_
        try simp only [Act.put, List.setIfInBounds_toArray, List.set_cons_zero, List.set_cons_succ]
        refine wpAnyH_take (i := 1) (oi := ⟨some 63, .load 26 (.tmp 5), 26, "queue.go:122", #[⟨2, .gcOnly .lateStores⟩], none⟩) (v := .agg (([.int .i64 hd, .int .i64 y] : List Value)).toArray) rfl (by kernel_rfl) (by kernel_rfl) (by kernel_rfl) (fun _ _ _ h => h) (yieldsIf_load_mid (by rfl) _ _ (by rfl) (q + 1) 0 (by rfl) (([.int .i64 hd, .int .i64 y] : List Value)) _ (fun wv hS => blk_rngl hS.out.2.1) Try.underlying26 (by rfl) (by kernel_rfl)) hS ?_
        try simp only [Act.put, List.setIfInBounds_toArray, List.set_cons_zero, List.set_cons_succ]
        refine wpAnyH_ready (rs := [2]) (by kernel_rfl) (by simp) (AllReadyH.cons (o := ⟨none, .store 24 (.tmp 8) (.tmp 62), 0, "queue.go:122", #[⟨0, .data⟩, ⟨0, .phase⟩, ⟨1, .textOnly .lateStores⟩], none⟩) rfl (fun K hK => ?_) AllReadyH.nil)
        go_simp
        replace hS := Lib.hid (And.intro (keep_pair hS.out.1 nz02 (.slice B3 m3 d3) (.int .i64 fg)) (And.intro (keep_pair hS.out.2.1 nz12 (.slice B3 m3 d3) (.int .i64 fg)) (bel_pair hS.out.2.2 (show q ≤ q + 2 by omega) (.slice B3 m3 d3) (.int .i64 fg))))
        refine Shut.out hK _ _ hS (fun _ => ?_)
        clear hK K
        try simp only [Act.put, List.setIfInBounds_toArray, List.set_cons_zero, List.set_cons_succ]
        refine wpAnyH_ready (rs := [3]) (by kernel_rfl) (by simp) (AllReadyH.cons (o := ⟨none, .store 26 (.tmp 9) (.tmp 63), 0, "queue.go:122", #[⟨1, .data⟩, ⟨2, .chain⟩, ⟨0, .phase⟩, ⟨1, .phase⟩, ⟨2, .phase⟩], none⟩) rfl (fun K hK => ?_) AllReadyH.nil)
        go_simp
        replace hS := Lib.hid (And.intro (keep_pair hS.out.1 nz03 (.int .i64 hd) (.int .i64 y)) (And.intro (keep_pair hS.out.2.1 nz13 (.int .i64 hd) (.int .i64 y)) (bel_pair hS.out.2.2 (show q ≤ q + 3 by omega) (.int .i64 hd) (.int .i64 y))))
        refine Shut.out hK _ _ hS (fun _ => ?_)
        clear hK K
        try simp only [Act.put, List.setIfInBounds_toArray, List.set_cons_zero, List.set_cons_succ]
        refine wpAnyH_take (i := 4) (oi := ⟨some 10, .assign (.const (Value.int IntKind.i64 0)), 29, "queue.go:122", #[⟨3, .chain⟩, ⟨0, .phase⟩, ⟨1, .phase⟩, ⟨2, .phase⟩, ⟨3, .phase⟩], none⟩) (v := ?_) rfl (by kernel_rfl) (by kernel_rfl) (by kernel_rfl) (fun _ _ _ h => h) (Or.inl ⟨by rfl, ?_⟩) hS ?_
        rotate_left
        · intro wv _; go_simp; try with_reducible rfl
        try simp only [Act.put, List.setIfInBounds_toArray, List.set_cons_zero, List.set_cons_succ]
        refine wpAnyH_done (by kernel_rfl) ?_ _
        refine NoPanic.normal ?_
        go_wp2
        have FZ : Fr w (((((w10.setCell ⟨q + 2, 0, none⟩ (.slice B3 m3 d3)).setCell ⟨q + 2, 1, none⟩ (.int .i64 fg)).setCell ⟨q + 3, 0, none⟩ (.int .i64 hd)).setCell ⟨q + 3, 1, none⟩ (.int .i64 y))).drew q [.cells #[.slice (some ⟨b, off, none⟩) n c, .int .i64 fr] 24, .cells #[.int .i64 hd, .int .i64 y] 26, .cells #[.slice B3 m3 d3, .int .i64 fg] 24, .cells #[.int .i64 hd, .int .i64 y] 26, .cells #[.slice B3 m3 d3, .int .i64 fg] 24] := (((((FR.out.set 2 0 rfl rfl (.slice B3 m3 d3)).set 2 1 rfl rfl (.int .i64 fg)).set 3 0 rfl rfl (.int .i64 hd)).set 3 1 rfl rfl (.int .i64 y))).drew
        refine bodyPost_ret (res_ccs Try.results28 (by rfl) (by rfl) (FZ.load 2 rfl rfl Try.underlying24 (by kernel_rfl)) (FZ.load 3 rfl rfl Try.underlying26 (by kernel_rfl))) rfl ?_
        rw [HE.out]
        exact ⟨_, _, _, rfl, own_base (own_apart (own_apart (own_apart (own_apart (OG.out) (k := q + 2) (o := 0) (u := .slice B3 m3 d3) (by omega)) (k := q + 2) (o := 1) (u := .int .i64 fg) (by omega)) (k := q + 3) (o := 0) (u := .int .i64 hd) (by omega)) (k := q + 3) (o := 1) (u := .int .i64 y) (by omega)) (by rw [hq]; omega), FZ.out⟩
      · have b4 : (nx == -1) = false := by simp [hnx1]
        have HE := Lib.hid (show R = ((rg, fg), (hd, tl), 0) by rw [HE0.out, if_neg hnx1])
        clear hnx1 he0 HE0 HG
        have nz02 : q + 4 ≠ q + 2 := by omega
        have nz03 : q + 4 ≠ q + 3 := by omega
        have nz12 : q + 1 ≠ q + 2 := by omega
        have nz13 : q + 1 ≠ q + 3 := by omega
        have c20 : w9.cell? ⟨q + 2, 0, none⟩ = some (.slice none 0 0) := FR.out.cell 2 0 rfl rfl rfl
        have f20 : w9.frozen? ⟨q + 2, 0, none⟩ = false := FR.out.frozen 2 0 rfl rfl
        have c21 : w9.cell? ⟨q + 2, 1, none⟩ = some (.int .i64 0) := FR.out.cell 2 1 rfl rfl rfl
        have f21 : w9.frozen? ⟨q + 2, 1, none⟩ = false := FR.out.frozen 2 1 rfl rfl
        have c30 : w9.cell? ⟨q + 3, 0, none⟩ = some (.int .i64 0) := FR.out.cell 3 0 rfl rfl rfl
        have f30 : w9.frozen? ⟨q + 3, 0, none⟩ = false := FR.out.frozen 3 0 rfl rfl
        have c31 : w9.cell? ⟨q + 3, 1, none⟩ = some (.int .i64 0) := FR.out.cell 3 1 rfl rfl rfl
        have f31 : w9.frozen? ⟨q + 3, 1, none⟩ = false := FR.out.frozen 3 1 rfl rfl
        go_wp2
        refine wp_region_noPanic ?_
        refine wp_region_held_drew (S := (fun wv => Hid (wv.heap[q + 4]? = some (.cells #[.slice B3 m3 d3, .int .i64 fg] 24) ∧ wv.heap[q + 1]? = some (.cells #[.int .i64 hd, .int .i64 tl] 26) ∧ Below q w wv))) (by kernel_rfl) (Lib.hid ⟨FR.out.blk 4 _ rfl, FR.out.blk 1 _ rfl, FR.out.bel.drew⟩) (fun hS => ?_)
        refine wpAnyH_take (i := 0) (oi := ⟨some 62, .load 24 (.tmp 11), 24, "queue.go:122", #[], none⟩) (v := .agg (([.slice B3 m3 d3, .int .i64 fg] : List Value)).toArray) rfl (by kernel_rfl) (by kernel_rfl) (by kernel_rfl) (fun _ _ _ h => h) (yieldsIf_load_mid (by rfl) _ _ (by rfl) (q + 4) 0 (by rfl) (([.slice B3 m3 d3, .int .i64 fg] : List Value)) _ (fun wv hS => blk_rngl hS.out.1) Try.underlying24 (by rfl) (by kernel_rfl)) hS ?_
        try simp only [Act.put, List.setIfInBounds_toArray, List.set_cons_zero, List.set_cons_succ]
        refine wpAnyH_take (i := 1) (oi := ⟨some 63, .load 26 (.tmp 5), 26, "queue.go:122", #[⟨2, .gcOnly .lateStores⟩], none⟩) (v := .agg (([.int .i64 hd, .int .i64 tl] : List Value)).toArray) rfl (by kernel_rfl) (by kernel_rfl) (by kernel_rfl) (fun _ _ _ h => h) (yieldsIf_load_mid (by rfl) _ _ (by rfl) (q + 1) 0 (by rfl) (([.int .i64 hd, .int .i64 tl] : List Value)) _ (fun wv hS => blk_rngl hS.out.2.1) Try.underlying26 (by rfl) (by kernel_rfl)) hS ?_
        try simp only [Act.put, List.setIfInBounds_toArray, List.set_cons_zero, List.set_cons_succ]
        refine wpAnyH_ready (rs := [2]) (by kernel_rfl) (by simp) (AllReadyH.cons (o := ⟨none, .store 24 (.tmp 8) (.tmp 62), 0, "queue.go:122", #[⟨0, .data⟩, ⟨0, .phase⟩, ⟨1, .textOnly .lateStores⟩], none⟩) rfl (fun K hK => ?_) AllReadyH.nil)
        go_simp
        replace hS := Lib.hid (And.intro (keep_pair hS.out.1 nz02 (.slice B3 m3 d3) (.int .i64 fg)) (And.intro (keep_pair hS.out.2.1 nz12 (.slice B3 m3 d3) (.int .i64 fg)) (bel_pair hS.out.2.2 (show q ≤ q + 2 by omega) (.slice B3 m3 d3) (.int .i64 fg))))
        refine Shut.out hK _ _ hS (fun _ => ?_)
        clear hK K
        try simp only [Act.put, List.setIfInBounds_toArray, List.set_cons_zero, List.set_cons_succ]
        refine wpAnyH_ready (rs := [3]) (by kernel_rfl) (by simp) (AllReadyH.cons (o := ⟨none, .store 26 (.tmp 9) (.tmp 63), 0, "queue.go:122", #[⟨1, .data⟩, ⟨2, .chain⟩, ⟨0, .phase⟩, ⟨1, .phase⟩, ⟨2, .phase⟩], none⟩) rfl (fun K hK => ?_) AllReadyH.nil)
        go_simp
        replace hS := Lib.hid (And.intro (keep_pair hS.out.1 nz03 (.int .i64 hd) (.int .i64 tl)) (And.intro (keep_pair hS.out.2.1 nz13 (.int .i64 hd) (.int .i64 tl)) (bel_pair hS.out.2.2 (show q ≤ q + 3 by omega) (.int .i64 hd) (.int .i64 tl))))
        refine Shut.out hK _ _ hS (fun _ => ?_)
        clear hK K
        try simp only [Act.put, List.setIfInBounds_toArray, List.set_cons_zero, List.set_cons_succ]
        refine wpAnyH_take (i := 4) (oi := ⟨some 10, .assign (.const (Value.int IntKind.i64 0)), 29, "queue.go:122", #[⟨3, .chain⟩, ⟨0, .phase⟩, ⟨1, .phase⟩, ⟨2, .phase⟩, ⟨3, .phase⟩], none⟩) (v := ?_) rfl (by kernel_rfl) (by kernel_rfl) (by kernel_rfl) (fun _ _ _ h => h) (Or.inl ⟨by rfl, ?_⟩) hS ?_
        rotate_left
        · intro wv _; go_simp; try with_reducible rfl
        try simp only [Act.put, List.setIfInBounds_toArray, List.set_cons_zero, List.set_cons_succ]
        refine wpAnyH_done (by kernel_rfl) ?_ _
        refine NoPanic.normal ?_
        go_wp2
        have FZ : Fr w (((((w9.setCell ⟨q + 2, 0, none⟩ (.slice B3 m3 d3)).setCell ⟨q + 2, 1, none⟩ (.int .i64 fg)).setCell ⟨q + 3, 0, none⟩ (.int .i64 hd)).setCell ⟨q + 3, 1, none⟩ (.int .i64 tl))).drew q [.cells #[.slice (some ⟨b, off, none⟩) n c, .int .i64 fr] 24, .cells #[.int .i64 hd, .int .i64 tl] 26, .cells #[.slice B3 m3 d3, .int .i64 fg] 24, .cells #[.int .i64 hd, .int .i64 tl] 26, .cells #[.slice B3 m3 d3, .int .i64 fg] 24] := (((((FR.out.set 2 0 rfl rfl (.slice B3 m3 d3)).set 2 1 rfl rfl (.int .i64 fg)).set 3 0 rfl rfl (.int .i64 hd)).set 3 1 rfl rfl (.int .i64 tl))).drew
        refine bodyPost_ret (res_ccs Try.results28 (by rfl) (by rfl) (FZ.load 2 rfl rfl Try.underlying24 (by kernel_rfl)) (FZ.load 3 rfl rfl Try.underlying26 (by kernel_rfl))) rfl ?_
        rw [HE.out]
        exact ⟨_, _, _, rfl, own_base (own_apart (own_apart (own_apart (own_apart (OG.out) (k := q + 2) (o := 0) (u := .slice B3 m3 d3) (by omega)) (k := q + 2) (o := 1) (u := .int .i64 fg) (by omega)) (k := q + 3) (o := 0) (u := .int .i64 hd) (by omega)) (k := q + 3) (o := 1) (u := .int .i64 tl) (by omega)) (by rw [hq]; omega), FZ.out⟩
    · have b3 : (eg != 0) = true := by simp [he0]
      have HE := Lib.hid (show R = ((rs, fr), (hd, tl), eg) from HB.out he0)
      clear he0 HG HB
      clear OG
      have hszc := FR.out.sz
      simp only [List.length_cons, List.length_nil] at hszc
      have nzq : q ≠ q + 2 := by omega
      have nzr : q + 1 ≠ q + 2 := by omega
      have nzt : q ≠ q + 3 := by omega
      have nzu : q + 1 ≠ q + 3 := by omega
      go_wp2
      refine wp_region_noPanic ?_
      refine wp_region_held_drew (S := (fun wv => Hid (wv.heap[q]? = some (.cells #[.slice (some ⟨b, off, none⟩) n c, .int .i64 fr] 24) ∧ wv.heap[q + 1]? = some (.cells #[.int .i64 hd, .int .i64 tl] 26) ∧ Below q w wv))) (by kernel_rfl) (Lib.hid ⟨FR.out.blk 0 _ rfl, FR.out.blk 1 _ rfl, FR.out.bel.drew⟩) (fun hS => ?_)
      refine wpAnyH_take (i := 0) (oi := ⟨some 50, .load 24 (.tmp 4), 24, "queue.go:114", #[], none⟩) (v := .agg (([.slice (some ⟨b, off, none⟩) n c, .int .i64 fr] : List Value)).toArray) rfl (by kernel_rfl) (by kernel_rfl) (by kernel_rfl) (fun _ _ _ h => h) (yieldsIf_load_mid (by rfl) _ _ (by rfl) (q) 0 (by rfl) (([.slice (some ⟨b, off, none⟩) n c, .int .i64 fr] : List Value)) _ (fun wv hS => blk_rngl hS.out.1) Try.underlying24 (by rfl) (by kernel_rfl)) hS ?_
      try simp only [Act.put, List.setIfInBounds_toArray, List.set_cons_zero, List.set_cons_succ]
      refine wpAnyH_take (i := 2) (oi := ⟨some 52, .load 26 (.tmp 5), 26, "queue.go:114", #[⟨4, .gcOnly .lateStores⟩], none⟩) (v := .agg (([.int .i64 hd, .int .i64 tl] : List Value)).toArray) rfl (by kernel_rfl) (by kernel_rfl) (by kernel_rfl) (fun _ _ _ h => h) (yieldsIf_load_mid (by rfl) _ _ (by rfl) (q + 1) 0 (by rfl) (([.int .i64 hd, .int .i64 tl] : List Value)) _ (fun wv hS => blk_rngl hS.out.2.1) Try.underlying26 (by rfl) (by kernel_rfl)) hS ?_
      try simp only [Act.put, List.setIfInBounds_toArray, List.set_cons_zero, List.set_cons_succ]
      refine wpAnyH_take (i := 3) (oi := ⟨some 53, .move (.tmp 14), 29, "queue.go:114", #[⟨5, .gcOnly .lateStores⟩], none⟩) (v := ?_) rfl (by kernel_rfl) (by kernel_rfl) (by kernel_rfl) (fun _ _ _ h => h) (Or.inl ⟨by rfl, ?_⟩) hS ?_
      rotate_left
      · intro wv _; go_simp; try with_reducible rfl
      try simp only [Act.put, List.setIfInBounds_toArray, List.set_cons_zero, List.set_cons_succ]
      refine wpAnyH_ready (rs := [1]) (by kernel_rfl) (by simp) (AllReadyH.cons (o := ⟨some 51, .call { callee := .value (.func 27), args := #[.tmp 50], argTypes := #[24] }, 24, "queue.go:114", #[⟨0, .data⟩], none⟩) rfl (fun K hK => ?_) AllReadyH.nil)
      go_simp
      refine (CP.out _ (FR.out.drew.es RX.out)).mono ?_
      rintro e wa ⟨B, d, rfl, hown, hb⟩
      replace FR := Lib.hid (FR.out.drew.step hb)
      have OW := Lib.hid (own_base hown (show q + 4 ≤ w9.heap.size by omega))
      clear hown hb
      replace hS := Lib.hid (And.intro (FR.out.blk 0 _ rfl) (And.intro (FR.out.blk 1 _ rfl) FR.out.bel))
      have c20 : wa.cell? ⟨q + 2, 0, none⟩ = some (.slice none 0 0) := FR.out.cell 2 0 rfl rfl rfl
      have f20 : wa.frozen? ⟨q + 2, 0, none⟩ = false := FR.out.frozen 2 0 rfl rfl
      have c21 : wa.cell? ⟨q + 2, 1, none⟩ = some (.int .i64 0) := FR.out.cell 2 1 rfl rfl rfl
      have f21 : wa.frozen? ⟨q + 2, 1, none⟩ = false := FR.out.frozen 2 1 rfl rfl
      have c30 : wa.cell? ⟨q + 3, 0, none⟩ = some (.int .i64 0) := FR.out.cell 3 0 rfl rfl rfl
      have f30 : wa.frozen? ⟨q + 3, 0, none⟩ = false := FR.out.frozen 3 0 rfl rfl
      have c31 : wa.cell? ⟨q + 3, 1, none⟩ = some (.int .i64 0) := FR.out.cell 3 1 rfl rfl rfl
      have f31 : wa.frozen? ⟨q + 3, 1, none⟩ = false := FR.out.frozen 3 1 rfl rfl
      go_wp2_with fail
      refine Shut.out hK _ _ hS (fun _ => ?_)
      clear hK K
      try simp only [Act.put, List.setIfInBounds_toArray, List.set_cons_zero, List.set_cons_succ]
      refine wpAnyH_ready (rs := [4]) (by kernel_rfl) (by simp) (AllReadyH.cons (o := ⟨none, .store 24 (.tmp 8) (.tmp 51), 0, "queue.go:114", #[⟨1, .data⟩, ⟨1, .chain⟩, ⟨0, .phase⟩, ⟨1, .phase⟩, ⟨2, .textOnly .lateStores⟩, ⟨3, .textOnly .lateStores⟩], none⟩) rfl (fun K hK => ?_) AllReadyH.nil)
      go_simp
      replace hS := Lib.hid (And.intro (keep_pair hS.out.1 nzq (.slice B n d) (.int .i64 fr)) (And.intro (keep_pair hS.out.2.1 nzr (.slice B n d) (.int .i64 fr)) (bel_pair hS.out.2.2 (show q ≤ q + 2 by omega) (.slice B n d) (.int .i64 fr))))
      refine Shut.out hK _ _ hS (fun _ => ?_)
      clear hK K
      try simp only [Act.put, List.setIfInBounds_toArray, List.set_cons_zero, List.set_cons_succ]
      refine wpAnyH_ready (rs := [5]) (by kernel_rfl) (by simp) (AllReadyH.cons (o := ⟨none, .store 26 (.tmp 9) (.tmp 52), 0, "queue.go:114", #[⟨2, .data⟩, ⟨4, .chain⟩, ⟨0, .phase⟩, ⟨1, .phase⟩, ⟨2, .phase⟩, ⟨3, .textOnly .lateStores⟩, ⟨4, .phase⟩], none⟩) rfl (fun K hK => ?_) AllReadyH.nil)
      go_simp
      replace hS := Lib.hid (And.intro (keep_pair hS.out.1 nzt (.int .i64 hd) (.int .i64 tl)) (And.intro (keep_pair hS.out.2.1 nzu (.int .i64 hd) (.int .i64 tl)) (bel_pair hS.out.2.2 (show q ≤ q + 3 by omega) (.int .i64 hd) (.int .i64 tl))))
      refine Shut.out hK _ _ hS (fun _ => ?_)
      clear hK K
      try simp only [Act.put, List.setIfInBounds_toArray, List.set_cons_zero, List.set_cons_succ]
      refine wpAnyH_take (i := 6) (oi := ⟨some 10, .assign (.tmp 53), 29, "queue.go:114", #[⟨3, .data⟩, ⟨5, .chain⟩, ⟨0, .phase⟩, ⟨1, .phase⟩, ⟨2, .phase⟩, ⟨3, .phase⟩, ⟨4, .phase⟩, ⟨5, .phase⟩], none⟩) (v := ?_) rfl (by kernel_rfl) (by kernel_rfl) (by kernel_rfl) (fun _ _ _ h => h) (Or.inl ⟨by rfl, ?_⟩) hS ?_
      rotate_left
      · intro wv _; go_simp; try with_reducible rfl
      try simp only [Act.put, List.setIfInBounds_toArray, List.set_cons_zero, List.set_cons_succ]
      refine wpAnyH_done (by kernel_rfl) ?_ _
      refine NoPanic.normal ?_
      go_wp2
      have FZ : Fr w ((((wa.setCell ⟨q + 2, 0, none⟩ (.slice B n d)).setCell ⟨q + 2, 1, none⟩ (.int .i64 fr)).setCell ⟨q + 3, 0, none⟩ (.int .i64 hd)).setCell ⟨q + 3, 1, none⟩ (.int .i64 tl)) q [.cells #[.slice (some ⟨b, off, none⟩) n c, .int .i64 fr] 24, .cells #[.int .i64 hd, .int .i64 tl] 26, .cells #[.slice B n d, .int .i64 fr] 24, .cells #[.int .i64 hd, .int .i64 tl] 26, .cells #[.slice B3 m3 d3, .int .i64 fg] 24] := ((((FR.out.set 2 0 rfl rfl (.slice B n d)).set 2 1 rfl rfl (.int .i64 fr)).set 3 0 rfl rfl (.int .i64 hd)).set 3 1 rfl rfl (.int .i64 tl))
      refine bodyPost_ret (res_ccs Try.results28 (by rfl) (by rfl) (FZ.load 2 rfl rfl Try.underlying24 (by kernel_rfl)) (FZ.load 3 rfl rfl Try.underlying26 (by kernel_rfl))) rfl ?_
      rw [HE.out]
      exact ⟨_, _, _, rfl, own_base (own_apart (own_apart (own_apart (own_apart (OW.out) (k := q + 2) (o := 0) (u := .slice B n d) (by omega)) (k := q + 2) (o := 1) (u := .int .i64 fr) (by omega)) (k := q + 3) (o := 0) (u := .int .i64 hd) (by omega)) (k := q + 3) (o := 1) (u := .int .i64 tl) (by omega)) (by rw [hq]; omega), FZ.out⟩
end Go.Proofs.Ytombfempdfdeoaa
